import PyProof.Rows.All
import Wide.All
import OpenK.AllK
import Wide.FinOn
import PyProof.EqAt
import PyProof.EqKinds
import PyProof.TupleCall
import KE.BitLaws
import KE.KTabLook
import PySem.Challenge.RW_longwork_k15_whole_no_marks_are_cheaper
set_option Elab.async false
set_option linter.all false
set_option maxRecDepth 100000
namespace L2
open PySem PySem.Spec PyProof.Rows
abbrev Key := Sum Int Str
def keyIs : Key → Value → Bool
  | .inl k, v => Value.isInt k v
  | .inr x, v => Value.isStrOf x v
def keyH (w : World) : Key → Int
  | .inl k => hashInt k
  | .inr x => hashStr w x
theorem keyIs_shape : ∀ {k : Key} {v : Value}, keyIs k v = true → (∃ i t, k = Sum.inl i ∧ v = Value.int i t) ∨ (∃ x t, k = Sum.inr x ∧ v = Value.str x t)
  | .inl i, v, h => by
    obtain ⟨t, e⟩ := Value.isInt_shape (k := i) (v := v) h
    exact .inl ⟨i, t, rfl, e⟩
  | .inr x, v, h => by
    obtain ⟨t, e⟩ := Value.isStrOf_shape (x := x) (v := v) h
    exact .inr ⟨x, t, rfl, e⟩
theorem keyIs_int (i : Int) (t : Tok) : keyIs (.inl i) (.int i t) = true := by simp [keyIs, Value.isInt]
theorem keyIs_str (x : Str) (t : Tok) : keyIs (.inr x) (.str x t) = true := by simp [keyIs, Value.isStrOf]
theorem key_ll (a b : Int) : decide ((Sum.inl a : Key) = Sum.inl b) = (a == b) := by
  by_cases e : a = b
  · subst e; simp
  · have h : ¬ (Sum.inl a : Key) = Sum.inl b := fun q => e (Sum.inl.inj q)
    rw [decide_eq_false h]
    exact (beq_eq_false_iff_ne.mpr e).symm
theorem key_rr (a b : Str) : decide ((Sum.inr a : Key) = Sum.inr b) = decide (a = b) := by
  by_cases e : a = b
  · subst e; simp
  · have h : ¬ (Sum.inr a : Key) = Sum.inr b := fun q => e (Sum.inr.inj q)
    rw [decide_eq_false h, decide_eq_false e]
theorem key_lr (a : Int) (b : Str) : decide ((Sum.inl a : Key) = Sum.inr b) = false := decide_eq_false (fun q => nomatch q)
theorem key_rl (a : Str) (b : Int) : decide ((Sum.inr a : Key) = Sum.inl b) = false := decide_eq_false (fun q => nomatch q)
def mixKind (prog : Program) (w : World) : PySem.KeyKind prog w Key where
  is := keyIs
  hash := keyH w
  inj := fun v a b ha hb => by
    rcases keyIs_shape ha with ⟨i, t, rfl, rfl⟩ | ⟨x, t, rfl, rfl⟩
    · rcases keyIs_shape hb with ⟨j, u, rfl, e⟩ | ⟨y, u, rfl, e⟩
      · injection e with e1 _; rw [e1]
      · exact nomatch e
    · rcases keyIs_shape hb with ⟨j, u, rfl, e⟩ | ⟨y, u, rfl, e⟩
      · exact nomatch e
      · injection e with e1 _; rw [e1]
  byValue := fun k v h => by
    rcases keyIs_shape h with ⟨i, t, rfl, rfl⟩ | ⟨x, t, rfl, rfl⟩ <;> rfl
  pyHash := fun hv h => by
    rcases keyIs_shape hv with ⟨i, t, rfl, rfl⟩ | ⟨x, t, rfl, rfl⟩
    · exact wpAny_pyHash_int h
    · exact wpAny_pyHash_str h
  eqBool := fun hu hv h => by
    rcases keyIs_shape hu with ⟨i, t, rfl, rfl⟩ | ⟨x, t, rfl, rfl⟩
    · rcases keyIs_shape hv with ⟨j, u, rfl, rfl⟩ | ⟨y, u, rfl, rfl⟩
      · rw [key_ll] at h; exact wpAny_eqBool_int h
      · rw [key_lr] at h; exact SeqAt.EqAt.int_str i t y u _ _ _ _ h
    · rcases keyIs_shape hv with ⟨j, u, rfl, rfl⟩ | ⟨y, u, rfl, rfl⟩
      · rw [key_rl] at h; exact SeqAt.EqAt.str_int x t j u _ _ _ _ h
      · rw [key_rr] at h; exact wpAny_eqBool_str h
  «strs» := fun k x t v h => by
    rcases keyIs_shape h with ⟨i, u, rfl, e⟩ | ⟨y, u, rfl, e⟩
    · exact nomatch e
    · injection e with e1 _
      subst e1
      cases v <;> rfl
theorem mixKind_int (prog : Program) (w : World) (i : Int) (t : Tok) : (mixKind prog w).is (.inl i) (.int i t) = true := keyIs_int i t
theorem mixKind_str (prog : Program) (w : World) (x : Str) (t : Tok) : (mixKind prog w).is (.inr x) (.str x t) = true := keyIs_str x t
end L2
namespace L2
open PySem PySem.Spec PyProof.Rows
inductive V where
  | non | bl (b : Bool) | int (i : Int) | str (x : Str) | byt (b : Array UInt8) | flt (b : UInt64) | ref (a : Addr) | ty (n : String)
  deriving DecidableEq
def RelV : V → Value → Prop
  | .non, u => u = Value.none
  | .bl b, u => u = Value.bool b
  | .int i, u => ∃ t, u = Value.int i t
  | .str x, u => ∃ t, u = Value.str x t
  | .byt b, u => ∃ t, u = Value.bytes b t
  | .flt b, u => ∃ t, u = Value.float b t
  | .ref a, u => u = Value.ref a
  | .ty n, u => u = Value.type n
abbrev Vals : List V → List Value → Prop := Paired RelV
theorem Vals.length {xs : List V} {us : List Value} (r : Vals xs us) : xs.length = us.length := Paired.length r
theorem Vals.get : ∀ {xs : List V} {us : List Value} {i : Nat} {x : V}, Vals xs us → xs[i]? = some x → ∃ u, us[i]? = some u ∧ RelV x u
  | _, _, _, _, .nil, e => by simp at e
  | _, _, 0, _, .cons r _, e => by simp at e; subst e; exact ⟨_, rfl, r⟩
  | _, _, i + 1, x, .cons _ t, e => by
    obtain ⟨u, h1, h2⟩ := Vals.get (i := i) (x := x) t (by simpa using e)
    exact ⟨u, by simpa using h1, h2⟩
theorem Vals.set {x : V} {u : Value} (r : RelV x u) : ∀ {xs : List V} {us : List Value} (i : Nat), Vals xs us → Vals (xs.set i x) (us.set i u)
  | _, _, _, .nil => .nil
  | _, _, 0, .cons _ t => .cons r t
  | _, _, i + 1, .cons q t => .cons q (Vals.set r i t)
theorem Vals.append : ∀ {xs ys : List V} {us ws : List Value}, Vals xs us → Vals ys ws → Vals (xs ++ ys) (us ++ ws)
  | _, _, _, _, .nil, s => s
  | _, _, _, _, .cons r t, s => .cons r (Vals.append t s)
theorem Vals.take : ∀ {xs : List V} {us : List Value} (n : Nat), Vals xs us → Vals (xs.take n) (us.take n)
  | _, _, 0, _ => .nil
  | _, _, _ + 1, .nil => .nil
  | _, _, n + 1, .cons r t => .cons r (Vals.take n t)
theorem Vals.drop : ∀ {xs : List V} {us : List Value} (n : Nat), Vals xs us → Vals (xs.drop n) (us.drop n)
  | _, _, 0, r => r
  | _, _, _ + 1, .nil => .nil
  | _, _, n + 1, .cons _ t => Vals.drop n t
def RelO : Option V → Option Value → Prop
  | some v, some u => RelV v u
  | none, none => True
  | _, _ => False
def KV {κ : Type} : List (κ × V) → List (κ × Value) → Prop := Paired fun (p : κ × V) (q : κ × Value) => p.1 = q.1 ∧ RelV p.2 q.2
def kV : Key → V
  | .inl i => .int i
  | .inr x => .str x
inductive HO where
  | lst (xs : List V)
  | tup (xs : List V)
  | dK (kvs : List (Key × V)) | dT (kvs : List (List Key × V))
  | set (S : Int → Bool) (n : Nat)
  | ins (C dx : Addr) (fs : List (Str × V))
  | own (x : Addr)
  | xd (fs : List (Str × V))
  | met (f x : Addr)
  | rng (lo hi : Int)
  | frz (o : Obj) (u : HO)
  | tbl (ps : Array Value)
  | ext (φ : Heap → Prop)
abbrev Hp := Addr → Option HO
def upd (H : Hp) (a : Addr) (o : HO) : Hp := fun b => if b = a then some o else H b
theorem upd_same {H : Hp} {a : Addr} {o : HO} : upd H a o a = some o := by unfold upd; rw [if_pos rfl]
theorem upd_ne {H : Hp} {a b : Addr} {o : HO} (h : b ≠ a) : upd H a o b = H b := by unfold upd; rw [if_neg h]
theorem ne_of {H : Hp} {a b : Addr} {o u : HO} (h : H a = some o) (h' : H b = some u) (d : o ≠ u) : a ≠ b := by
  intro e; subst e; rw [h] at h'; exact d (Option.some.inj h')
theorem ne_of_none {H : Hp} {a b : Addr} {o : HO} (h : H a = some o) (h' : H b = none) : a ≠ b := by
  intro e; subst e; rw [h] at h'; cases h'
section
variable (P : Program) (w : World)
def ObjOk (H : Hp) (h : Heap) (a : Addr) : HO → Prop
  | .lst xs => xs.length ≤ sizeLine ∧ ∃ (its : List Value) (n : Nat), Vals xs its ∧ h.get? a = some { cls := .type "list", data := .seq its.toArray n }
  | .tup xs => xs.length ≤ sizeLine ∧ ∃ its : List Value, Vals xs its ∧ IsTup h a its.toArray
  | .dK kvs => kvs.length ≤ sizeLine ∧ (a == sysModules) = false ∧ ∃ vs, KV kvs vs ∧ h.DictOf (mixKind P w) a vs
  | .dT kvs => kvs.length ≤ sizeLine ∧ (a == sysModules) = false ∧ ∃ xs : List (List Key × Addr × Value),
      Paired (fun (p : List Key × V) (q : List Key × Addr × Value) => p.1 = q.1 ∧ H q.2.1 = some (.tup (p.1.map kV)) ∧ RelV p.2 q.2.2) kvs xs ∧
      ∃ o es ep, h.get? a = some o ∧ o.ExactDict ∧ o.data = .dict es ep ∧ es.toList = xs.map (entryOfKey (tupleKind (mixKind P w))) ∧ (xs.map (·.1)).Nodup
  | .set S n => h.SetOf (intKind P w) a S n
  | .ins C dx fs => H dx = some (.own a) ∧ fs.length ≤ 1000 ∧ dx ≠ a ∧ h.get? a = some (PySem.W.instObj C dx) ∧
      ∃ mA, h.Ns1 dx mA ∧ (∀ f, RelO (fs.lookup f) (mA f)) ∧ PySem.Within mA (fs.map (·.1))
  | .own _ => ∃ o, h.get? a = some o
  | .xd fs => ∃ mA, h.Ns1 a mA ∧ ∀ f, RelO (fs.lookup f) (mA f)
  | .rng lo hi => ∃ t u v, h.get? a = some { cls := .type "range", data := .fields #[.int lo t, .int hi u, .int 1 v] }
  | .frz o u => h.get? a = some o ∧ ObjOk H h a u
  | .tbl ps => h.get? a = some { cls := .none, data := .fields ps }
  | .met f x => h.get? a = some (PySem.W.methodObj (.ref f) (.ref x))
  | .ext φ => φ h ∧ (∃ o, h.get? a = some o) ∧ ∀ h1 h2 : Heap, φ h1 → (∀ o, h1.get? a = some o → h2.get? a = some o) → φ h2
def HOk (H : Hp) (h : Heap) : Prop := ∀ a o, H a = some o → ObjOk P w H h a o
end
section
variable {P : Program} {w : World} {H H' : Hp} {h h' : Heap} {a : Addr} {o : HO}
theorem ObjOk.lt (x : ObjOk P w H h a o) : a < h.objs.size := by
  cases o with
  | lst xs => obtain ⟨_, _, _, _, e⟩ := x; exact Heap.lt_size e
  | tup xs => obtain ⟨_, _, _, p⟩ := x; exact p.lt
  | dK kvs => obtain ⟨_, _, _, _, o, _, _, e, _⟩ := x; exact Heap.lt_size e
  | dT kvs => obtain ⟨_, _, _, _, o, _, _, e, _⟩ := x; exact Heap.lt_size e
  | set S n => obtain ⟨o, _, _, _, e, _⟩ := x; exact Heap.lt_size e
  | ins C dx fs => obtain ⟨_, _, _, e, _⟩ := x; exact Heap.lt_size e
  | own y => obtain ⟨_, e⟩ := x; exact Heap.lt_size e
  | xd fs => obtain ⟨_, ⟨_, _, _, e, _⟩, _⟩ := x; exact Heap.lt_size e
  | rng lo hi => obtain ⟨_, _, _, e⟩ := x; exact Heap.lt_size e
  | frz ob u => obtain ⟨e, _⟩ := x; exact Heap.lt_size e
  | tbl ps => exact Heap.lt_size (show h.get? a = some _ from x)
  | met f y => exact Heap.lt_size (show h.get? a = some _ from x)
  | ext φ => obtain ⟨_, ⟨_, e⟩, _⟩ := x; exact Heap.lt_size e
theorem Paired.mapP {α β : Type} {F G : α → β → Prop} : ∀ {l₁ : List α} {l₂ : List β}, Paired F l₁ l₂ → (∀ a b, F a b → G a b) → Paired G l₁ l₂
  | _, _, .nil, _ => .nil
  | _, _, .cons r t, f => .cons (f _ _ r) (Paired.mapP t f)
theorem ObjOk.stay (x : ObjOk P w H h a o) (k : ∀ b u, (b = a ∨ H b = some (.own a)) → h.get? b = some u → h'.get? b = some u)
    (ho : ∀ b, H b = some (.own a) → H' b = some (.own a)) (ht : ∀ b xs, H b = some (.tup xs) → H' b = some (.tup xs)) : ObjOk P w H' h' a o := by
  induction o with
  | lst xs => obtain ⟨z, its, n, r, e⟩ := x; exact ⟨z, its, n, r, k _ _ (.inl rfl) e⟩
  | tup xs => obtain ⟨z, its, r, ob, e, c⟩ := x; exact ⟨z, its, r, ob, k _ _ (.inl rfl) e, c⟩
  | dK kvs => obtain ⟨z, y, vs, r, ob, es, ep, e, c⟩ := x; exact ⟨z, y, vs, r, ob, es, ep, k _ _ (.inl rfl) e, c⟩
  | dT kvs =>
    obtain ⟨z, y, xs, r, ob, es, ep, e, c⟩ := x
    exact ⟨z, y, xs, Paired.mapP r fun p q z => ⟨z.1, ht _ _ z.2.1, z.2.2⟩, ob, es, ep, k _ _ (.inl rfl) e, c⟩
  | set S n => obtain ⟨ob, es, ep, t, e, c⟩ := x; exact ⟨ob, es, ep, t, k _ _ (.inl rfl) e, c⟩
  | ins C dx fs =>
    obtain ⟨d, z, ne, e, mA, ⟨od, es, ep, e2, c⟩, r⟩ := x
    exact ⟨ho _ d, z, ne, k _ _ (.inl rfl) e, mA, ⟨od, es, ep, k _ _ (.inr d) e2, c⟩, r⟩
  | own y => obtain ⟨ob, e⟩ := x; exact ⟨ob, k _ _ (.inl rfl) e⟩
  | xd fs => obtain ⟨mA, ⟨od, es, ep, e, c⟩, r⟩ := x; exact ⟨mA, ⟨od, es, ep, k _ _ (.inl rfl) e, c⟩, r⟩
  | rng lo hi => obtain ⟨t, u, v, e⟩ := x; exact ⟨t, u, v, k _ _ (.inl rfl) e⟩
  | frz ob u ih => obtain ⟨e, q⟩ := x; exact ⟨k _ _ (.inl rfl) e, ih q⟩
  | tbl ps =>
    have e : h.get? a = some { cls := .none, data := .fields ps } := x
    show h'.get? a = some { cls := .none, data := .fields ps }
    exact k a _ (.inl rfl) e
  | met f y =>
    have e : h.get? a = some (PySem.W.methodObj (.ref f) (.ref y)) := x
    show h'.get? a = some (PySem.W.methodObj (.ref f) (.ref y))
    exact k a _ (.inl rfl) e
  | ext φ => obtain ⟨p, ⟨o, e⟩, st⟩ := x; exact ⟨st _ _ p fun o q => k _ _ (.inl rfl) q, ⟨o, k _ _ (.inl rfl) e⟩, st⟩
theorem HOk.lt (x : HOk P w H h) (e : H a = some o) : a < h.objs.size := (x a o e).lt
theorem HOk.fresh (x : HOk P w H h) (e : h.objs.size ≤ a) : H a = none := by
  cases q : H a with
  | none => rfl
  | some u => exact absurd (Nat.lt_of_lt_of_le (x.lt q) e) (Nat.lt_irrefl _)
theorem HOk.kept (x : HOk P w H h) (k : ∀ b u, h.get? b = some u → h'.get? b = some u) : HOk P w H h' := fun a o e =>
  (x a o e).stay (fun b u _ q => k b u q) (fun _ q => q) fun _ _ q => q
theorem HOk.laid (x : HOk P w H h) (k : ∀ b u, h.get? b = some u → h'.get? b = some u) (hp : h.objs.size ≤ a) (new : ObjOk P w (upd H a o) h' a o) : HOk P w (upd H a o) h' := fun b u e => by
  have hn := x.fresh hp
  by_cases hb : b = a
  · subst hb; rw [upd_same] at e; cases e; exact new
  · rw [upd_ne hb] at e
    exact (x b u e).stay (fun c v _ q => k c v q) (fun c q => by rw [upd_ne (ne_of_none q hn)]; exact q) fun c xs q => by rw [upd_ne (ne_of_none q hn)]; exact q
end
def Rd (H : Hp) (a : Addr) (u : HO) : Prop := H a = some u ∨ ∃ o, H a = some (.frz o u)
theorem Rd.of {H : Hp} {a : Addr} {u : HO} (h : H a = some u) : Rd H a u := .inl h
theorem Rd.ok {P : Program} {w : World} {H : Hp} {h : Heap} {a : Addr} {u : HO} (r : Rd H a u) (x : HOk P w H h) : ObjOk P w H h a u := by
  rcases r with r | ⟨o, r⟩
  · exact x a u r
  · obtain ⟨_, q⟩ := x a _ r
    exact q
def Mut : Option HO → Prop
  | some (.lst _) => True
  | some (.dK _) => True
  | some (.dT _) => True
  | some (.set _ _) => True
  | some (.ins _ _ _) => True
  | some (.ext _) => True
  | _ => False
section
variable {P : Program} {w : World} {H : Hp} {h h' : Heap} {x e : Addr} {o' : HO}
theorem HOk.write (ok : HOk P w H h) (mu : Mut (H x)) (he : e = x ∨ H e = some (.own x)) (k : ∀ b u, b ≠ e → h.get? b = some u → h'.get? b = some u) (heo : ∃ u, h'.get? e = some u)
    (new : ObjOk P w (upd H x o') h' x o') : HOk P w (upd H x o') h' := fun b u q => by
  have nown : ∀ c y, H c = some (.own y) → c ≠ x := fun c y r z => by subst z; rw [r] at mu; exact mu
  have ntup : ∀ c xs, H c = some (.tup xs) → c ≠ x := fun c xs r z => by subst z; rw [r] at mu; exact mu
  by_cases hb : b = x
  · subst hb; rw [upd_same] at q; cases q; exact new
  · rw [upd_ne hb] at q
    by_cases hbe : b = e
    · have q' : H b = some (.own x) := by
        rcases he with z | z
        · exact absurd (hbe.trans z) hb
        · rw [hbe]; exact z
      rw [q] at q'; cases q'
      obtain ⟨v, hv⟩ := heo
      exact ⟨v, by rw [hbe]; exact hv⟩
    · refine (ok b u q).stay (fun c v hc r => k c v ?_ r) (fun c r => by rw [upd_ne (nown c b r)]; exact r) fun c xs r => by rw [upd_ne (ntup c xs r)]; exact r
      rcases hc with rfl | hc
      · exact hbe
      · rintro rfl
        rcases he with z | z
        · exact nown c b hc z
        · rw [hc] at z; cases z; exact hb rfl
end
structure Un (fs ex : List Addr) (H H' : Hp) (h h' : Heap) : Prop where
  keep : ∀ b o, h.get? b = some o → H b = none → b ∉ fs → b ∉ ex → h'.get? b = some o
  slot : ∀ b o, h.get? b = some o → H b = none → b ∈ fs → b ∉ ex → ∃ sl, h'.get? b = some { o with slots := sl }
  free : ∀ b o, h.get? b = some o → H b = none → b ∉ ex → H' b = none
  there : ∀ b o, h.get? b = some o → b ∉ ex → ∃ o', h'.get? b = some o'
  tups : ∀ b xs, H b = some (.tup xs) → H' b = some (.tup xs)
  frzs : ∀ b o u, H b = some (.frz o u) → H' b = some (.frz o u)
  tbls : ∀ b ps, H b = some (.tbl ps) → ∃ more, H' b = some (.tbl (ps ++ more))
section
variable {fs fs' ex ex' : List Addr} {H H1 H2 : Hp} {h h1 h2 h' : Heap} {a x e : Addr} {o : HO}
theorem Un.any (u : Un fs ex H H1 h h1) {b : Addr} {ob : Obj} (q : h.get? b = some ob) (n : H b = none) (hx : b ∉ ex) : ∃ sl, h1.get? b = some { ob with slots := sl } := by
  by_cases hb : b ∈ fs
  · exact u.slot b ob q n hb hx
  · exact ⟨ob.slots, u.keep b ob q n hb hx⟩
theorem Un.trans (a : Un fs ex H H1 h h1) (b : Un fs ex H1 H2 h1 h2) : Un fs ex H H2 h h2 where
  keep := fun c ob q n hc hx => b.keep c ob (a.keep c ob q n hc hx) (a.free c ob q n hx) hc hx
  slot := fun c ob q n hc hx => by
    obtain ⟨sl, e1⟩ := a.slot c ob q n hc hx
    obtain ⟨sl', e2⟩ := b.slot c _ e1 (a.free c ob q n hx) hc hx
    exact ⟨sl', e2⟩
  free := fun c ob q n hx => by
    obtain ⟨o', e1⟩ := a.there c ob q hx
    exact b.free c o' e1 (a.free c ob q n hx) hx
  there := fun c ob q hx => by
    obtain ⟨o', e1⟩ := a.there c ob q hx
    exact b.there c o' e1 hx
  tups := fun c xs q => b.tups c xs (a.tups c xs q)
  frzs := fun c ob xs q => b.frzs c ob xs (a.frzs c ob xs q)
  tbls := fun c ps q => by
    obtain ⟨m1, e1⟩ := a.tbls c ps q
    obtain ⟨m2, e2⟩ := b.tbls c _ e1
    exact ⟨m1 ++ m2, by rw [e2, Array.append_assoc]⟩
theorem Un.kept (k : ∀ b u, h.get? b = some u → h'.get? b = some u) : Un fs ex H H h h' :=
  ⟨fun b ob q _ _ _ => k b ob q, fun b ob q _ _ _ => ⟨ob.slots, k b ob q⟩, fun _ _ _ n _ => n, fun b ob q _ => ⟨ob, k b ob q⟩, fun _ _ q => q, fun _ _ _ q => q, fun _ ps q => ⟨#[], by rw [q]; simp⟩⟩
theorem Un.refl : Un fs ex H H h h := Un.kept fun _ _ q => q
theorem Un.laid (k : ∀ b u, h.get? b = some u → h'.get? b = some u) (hp : h.objs.size ≤ a) (hn : H a = none) : Un fs ex H (upd H a o) h h' where
  keep := fun b u q _ _ _ => k b u q
  slot := fun b u q _ _ _ => ⟨u.slots, k b u q⟩
  free := fun b u q n _ => by rw [upd_ne (Nat.ne_of_lt (Nat.lt_of_lt_of_le (Heap.lt_size q) hp))]; exact n
  there := fun b u q _ => ⟨u, k b u q⟩
  tups := fun b xs q => by rw [upd_ne (ne_of_none q hn)]; exact q
  frzs := fun b u xs q => by rw [upd_ne (ne_of_none q hn)]; exact q
  tbls := fun b ps q => ⟨#[], by rw [upd_ne (ne_of_none q hn), q]; simp⟩
theorem Un.write (mu : Mut (H x)) (he : e = x ∨ H e = some (.own x)) (k : ∀ b u, b ≠ e → h.get? b = some u → h'.get? b = some u) (heo : ∃ u, h'.get? e = some u) : Un fs ex H (upd H x o) h h' := by
  have hx : ∀ b, H b = none → b ≠ x := fun b n z => by subst z; rw [n] at mu; exact mu
  have hb : ∀ b, H b = none → b ≠ e := fun b n z => by
    subst z
    rcases he with r | r
    · exact hx b n r
    · rw [n] at r; cases r
  have hm : ∀ b u, H b = some u → ¬ Mut (some u) → b ≠ x := fun b u q nm z => by subst z; rw [q] at mu; exact nm mu
  refine ⟨fun b u q n _ _ => k b u (hb b n) q, fun b u q n _ _ => ⟨u.slots, k b u (hb b n) q⟩, fun b u q n _ => by rw [upd_ne (hx b n)]; exact n, fun b u q _ => ?_,
    fun b xs q => by rw [upd_ne (hm b _ q fun z => z)]; exact q, fun b u xs q => by rw [upd_ne (hm b _ q fun z => z)]; exact q, fun b ps q => ⟨#[], by rw [upd_ne (hm b _ q fun z => z), q]; simp⟩⟩
  by_cases hbe : b = e
  · subst hbe; exact heo
  · exact ⟨u, k b u hbe q⟩
theorem Un.mono (u : Un fs ex H H1 h h1) (hs : ∀ b ∈ fs, b ∈ fs') (hx : ∀ b ∈ ex, b ∈ ex') : Un fs' ex' H H1 h h1 :=
  ⟨fun b ob q n hb he => u.keep b ob q n (fun z => hb (hs b z)) fun z => he (hx b z), fun _ _ q n _ he => u.any q n fun z => he (hx _ z), fun b ob q n he => u.free b ob q n fun z => he (hx b z), fun b ob q he => u.there b ob q fun z => he (hx b z), u.tups, u.frzs, u.tbls⟩
end
def trk (h : Heap) (H : Hp) : List Addr := (List.range h.objs.size).filter fun a => (H a).isSome
def hidT (h : Heap) (H : Hp) : Heap := PySem.W.hideAll h (trk h H)
theorem hidT_size (h : Heap) (H : Hp) : (hidT h H).objs.size = h.objs.size := PySem.W.hideAll_size _ _
theorem hidT_get {h : Heap} {H : Hp} {b : Addr} {o : Obj} (e : h.get? b = some o) (n : H b = none) : (hidT h H).get? b = some o :=
  PySem.W.hideAll_get _ e fun hm => by
    have q : (H b).isSome = true := (List.mem_filter.mp hm).2
    rw [n] at q; simp at q
theorem of_hidT {h : Heap} {H : Hp} {b : Addr} {o : Obj} (e : (hidT h H).get? b = some o) : h.get? b = some o ∧ H b = none := by
  have e' : h.get? b = some o := PySem.W.of_hideAll (trk h H) e
  refine ⟨e', ?_⟩
  cases q : H b with
  | none => rfl
  | some x =>
    have hm : b ∈ trk h H := List.mem_filter.mpr ⟨List.mem_range.mpr (Heap.lt_size e'), by simp [q]⟩
    have z : (hidT h H).get? b = none := PySem.W.hideAll_none (trk h H) hm
    rw [z] at e; cases e
def allNews (g h : Heap) (L : Addr) : List (Addr × Obj) := (List.range h.objs.size).filterMap fun a => if a = L ∨ (g.get? a).isSome = true then none else (h.get? a).map fun o => (a, o)
def rest (g h : Heap) (L d : Addr) : List (Addr × Obj) := (allNews g h L).filter fun p => decide (p.1 ≠ d)
end L2
namespace L2
open PySem PySem.Spec PyProof.Rows
structure Mod (K : PySem.W.Frag) (mg : Str → Option Value) (base : Heap) : Prop where
  kin : K.In base
  glob : base.Ns mainGlobals mg
  blt : ∃ mb, base.Ns builtinsNs mb ∧ ∀ x : Str, x ≠ "__name__" → mb x = bootBuiltins x
  nolimit : base.NoLimit
structure Cx where
  prog : Program
  w : World
  K : PySem.W.Frag
  mg : Str → Option Value
  base : Heap
  A : Around
  N : List Str
  s_0 : Shared
  H_0 : Hp
  env : Env
  outer : List Env
  stack : List Env
  ex : List Addr
  fn : Str → Bool
  calm : Bool
  pn : List (Addr × Obj)
  xe : Value → Shared → Prop
def frs (l : List Env) : List Addr := l.filterMap (·.frame)
abbrev Cx.fs (X : Cx) : List Addr := frs X.outer
def Vis (sc : Scope) (x : Str) : Prop := sc.names.lookup x = some .local ∨ sc.names.lookup x = some .cell ∨ sc.names.lookup x = some .free
def Loc (sc : Scope) (x : Str) : Prop := sc.names.lookup x = some .local ∨ sc.names.lookup x = some .cell
def Look (env : Env) (h : Heap) (m : Str → Option Value) (x : Str) (u : Value) : Prop :=
  (env.kindOf x = some .local ∧ m x = some u) ∨ ((env.kindOf x = some .cell ∨ env.kindOf x = some .free) ∧ ∃ c, env.cells.lookup x = some c ∧ h.IsCell c (some u))
structure Cx.Ok (X : Cx) : Prop where
  mod : Mod X.K X.mg X.base
  kind : X.env.scope.kind = .function
  glob : X.env.globals = mainGlobals
  blt : X.env.builtins = builtinsNs
  above : X.s_0.heap.objs.size ≤ X.env.locals
  inj : ∀ x y c, X.env.cells.lookup x = some c → X.env.cells.lookup y = some c → x = y
  has : ∀ x, (X.env.kindOf x = some .cell ∨ X.env.kindOf x = some .free) → ∃ c, X.env.cells.lookup x = some c
  cab : ∀ x c, X.fn x = true → X.env.cells.lookup x = some c → X.s_0.heap.objs.size ≤ c
  hd : X.calm = true → X.A.handled = none
  frames : X.A.frames = some X.stack
  stk : X.stack = X.outer ∨ (X.stack = X.env :: X.outer ∧ X.env.frame = some X.env.locals)
  exf : ∀ b ∈ X.ex, b ≠ X.env.locals ∧ ∀ x c, X.env.cells.lookup x = some c → c ≠ b
  bs : ∀ b o, X.base.get? b = some o → X.s_0.heap.get? b = some o ∧ X.H_0 b = none
  bsz : X.base.objs.size ≤ X.s_0.heap.objs.size
  noex : ∀ b o, X.base.get? b = some o → b ∉ X.ex
  exfs : ∀ b ∈ X.ex, b ∉ X.fs
  funs : X.s_0.heap.FunFrames X.base X.outer
  frf : ∀ b ∈ X.fs, X.H_0 b = none
structure Inv (X : Cx) (pins : List (Addr × Obj)) (σ : List (Option V)) (H : Hp) (s : Shared) : Prop where
  ok : X.Ok
  os : s.os = X.s_0.os
  bare : AllBare s.gens
  base : Un X.fs X.ex X.H_0 H X.s_0.heap s.heap
  loc : ∃ m, s.heap.Ns X.env.locals m ∧ ∀ (i : Nat) (x : Str) (v : V), X.N[i]? = some x → σ[i]? = some (some v) → Vis X.env.scope x → ∃ u, RelV v u ∧ Look X.env s.heap m x u
  cell : ∀ x c, X.env.cells.lookup x = some c → ∃ v, s.heap.IsCell c v
  free : H X.env.locals = none
  freeC : ∀ x c, X.env.cells.lookup x = some c → H c = none
  pin : ∀ p ∈ X.pn ++ pins, s.heap.get? p.1 = some p.2 ∧ H p.1 = none ∧ p.1 ≠ X.env.locals ∧ p.1 ∉ X.fs ∧ ∀ v, p.2.data ≠ .cell v
  hok : HOk X.prog X.w H s.heap
  len : σ.length = X.N.length
section
variable {X : Cx} {pins : List (Addr × Obj)} {σ : List (Option V)} {H H' : Hp} {s : Shared} {h' : Heap}
theorem Cx.Ok.nofr (ok : X.Ok) {b : Addr} {o : Obj} (e : X.base.get? b = some o) : b ∉ X.fs := fun hb => by
  have := (ok.funs.mem hb).1
  rw [e] at this; cases this
theorem Inv.bs (I : Inv X pins σ H s) : ∀ b o, X.base.get? b = some o → s.heap.get? b = some o ∧ H b = none := fun b o e =>
  ⟨I.base.keep b o (I.ok.bs b o e).1 (I.ok.bs b o e).2 (I.ok.nofr e) (I.ok.noex b o e), I.base.free b o (I.ok.bs b o e).1 (I.ok.bs b o e).2 (I.ok.noex b o e)⟩
theorem Inv.bk (I : Inv X pins σ H s) : ∀ b o, X.base.get? b = some o → s.heap.get? b = some o := fun b o e => (I.bs b o e).1
theorem Inv.mod (I : Inv X pins σ H s) : Mod X.K X.mg X.base := I.ok.mod
theorem Inv.kIn (I : Inv X pins σ H s) : X.K.In s.heap := I.ok.mod.kin.keeps I.bk
theorem Inv.nolimit (I : Inv X pins σ H s) : s.heap.NoLimit := I.ok.mod.nolimit.keeps I.bk
theorem Inv.lt (I : Inv X pins σ H s) : X.env.locals < s.heap.objs.size := let ⟨_, hn, _⟩ := I.loc; hn.lt
theorem Inv.sz (I : Inv X pins σ H s) : X.s_0.heap.objs.size ≤ s.heap.objs.size := Nat.le_trans I.ok.above (Nat.le_of_lt I.lt)
theorem Inv.nofs (I : Inv X pins σ H s) {a : Addr} (h : s.heap.objs.size ≤ a) : a ∉ X.fs := fun hb => by
  obtain ⟨_, o, ho, _⟩ := I.ok.funs.mem hb
  exact absurd (Nat.lt_of_lt_of_le (Heap.lt_size ho) (Nat.le_trans I.sz h)) (Nat.lt_irrefl _)
theorem Inv.cne (I : Inv X pins σ H s) : ∀ x c, X.env.cells.lookup x = some c → c ≠ X.env.locals := fun x c e z => by
  obtain ⟨v, o, ho, hd⟩ := I.cell x c e
  obtain ⟨m, ⟨o', es, ep, ho', hd', _⟩, _⟩ := I.loc
  rw [z, ho'] at ho; cases ho; rw [hd'] at hd; cases hd
theorem Inv.funs (I : Inv X pins σ H s) : s.heap.FunFrames X.base X.outer := by
  have all : ∀ (l : List Env), (∀ b ∈ frs l, b ∈ X.fs) → X.s_0.heap.FunFrames X.base l → s.heap.FunFrames X.base l := by
    intro l
    induction l with
    | nil => intro _ _; trivial
    | cons env r ih =>
      intro hs hl
      obtain ⟨hk, ⟨L, o, hf, hn, ho, hd⟩, hr⟩ := hl
      have hL : L ∈ X.fs := hs L (by unfold frs; rw [List.filterMap_cons, hf]; exact List.mem_cons_self)
      obtain ⟨sl, e⟩ := I.base.slot L o ho (I.ok.frf L hL) hL fun z => I.ok.exfs L z hL
      exact ⟨hk, ⟨L, _, hf, hn, e, hd⟩, ih (fun b hb => hs b (by unfold frs; rw [List.filterMap_cons, hf]; exact List.mem_cons_of_mem _ hb)) hr⟩
  exact all X.outer (fun _ hb => hb) I.ok.funs
theorem Inv.stack (I : Inv X pins σ H s) : s.heap.FunFrames X.base X.stack := by
  rcases I.ok.stk with e | ⟨e, hf⟩
  · rw [e]; exact I.funs
  · rw [e]
    obtain ⟨m, hn, _⟩ := I.loc
    refine .cons (by rw [I.ok.kind]; decide) hf hn ?_ I.funs
    exact Heap.get?_none_of_le (Nat.le_trans I.ok.bsz I.ok.above)
theorem Inv.stkSub (I : Inv X pins σ H s) : ∀ b ∈ frs X.stack, b ∈ X.env.locals :: X.fs := fun b hb => by
  rcases I.ok.stk with e | ⟨e, hf⟩
  · rw [e] at hb; exact List.mem_cons_of_mem _ hb
  · rw [e] at hb
    unfold frs at hb
    rw [List.filterMap_cons, hf] at hb
    exact hb
theorem Inv.stkFree (I : Inv X pins σ H s) : ∀ b ∈ frs X.stack, H b = none := fun b hb => by
  rcases List.mem_cons.mp (I.stkSub b hb) with e | hb
  · rw [e]; exact I.free
  · obtain ⟨_, o, ho, _⟩ := I.ok.funs.mem hb
    exact I.base.free b o ho (I.ok.frf b hb) fun z => I.ok.exfs b z hb
theorem Inv.step {g' : Array GenState} {t' : Nat} {d' : Drawn} {ch : List Addr} (I : Inv X pins σ H s)
    (hch : ∀ b ∈ ch, (b ∈ X.ex ∨ X.s_0.heap.objs.size ≤ b) ∧ b ≠ X.env.locals ∧ (∀ x c, X.env.cells.lookup x = some c → c ≠ b) ∧ ∀ p ∈ X.pn ++ pins, p.1 ≠ b)
    (keep : ∀ b o, b ≠ X.env.locals → b ∉ X.fs → b ∉ ch → s.heap.get? b = some o → H b = none → h'.get? b = some o)
    (slot : ∀ b o, b ≠ X.env.locals → b ∈ X.fs → b ∉ ch → s.heap.get? b = some o → H b = none → ∃ sl, h'.get? b = some { o with slots := sl }) (free : ∀ b o, b ∉ ch → s.heap.get? b = some o → H b = none → H' b = none)
    (there : ∀ b o, b ∉ ch → s.heap.get? b = some o → ∃ o', h'.get? b = some o')
    (tups : ∀ b xs, H b = some (.tup xs) → H' b = some (.tup xs)) (frzs : ∀ b o u, H b = some (.frz o u) → H' b = some (.frz o u)) (tbls : ∀ b ps, H b = some (.tbl ps) → ∃ more, H' b = some (.tbl (ps ++ more)))
    (ns : ∀ m, s.heap.Ns X.env.locals m → h'.Ns X.env.locals m) (hok : HOk X.prog X.w H' h') (hg : AllBare g') :
    Inv X pins σ H' { s with heap := h', gens := g', drawn := d', toks := t' } := by
  have neL : ∀ b o, X.s_0.heap.get? b = some o → b ≠ X.env.locals := fun b o e => Nat.ne_of_lt (Nat.lt_of_lt_of_le (Heap.lt_size e) I.ok.above)
  have neC : ∀ b o, X.s_0.heap.get? b = some o → b ∉ X.ex → b ∉ ch := fun b o e hx hb => by
    rcases (hch b hb).1 with z | z
    · exact hx z
    · exact absurd (Nat.lt_of_lt_of_le (Heap.lt_size e) z) (Nat.lt_irrefl _)
  have cellK : ∀ x c, X.env.cells.lookup x = some c → ∀ v, s.heap.IsCell c v → h'.IsCell c v := fun x c e v ⟨o, ho, hd⟩ => by
    have nch : c ∉ ch := fun z => (hch c z).2.2.1 x c e rfl
    by_cases hc : c ∈ X.fs
    · obtain ⟨sl, q⟩ := slot c o (I.cne x c e) hc nch ho (I.freeC x c e)
      exact ⟨_, q, hd⟩
    · exact ⟨o, keep c o (I.cne x c e) hc nch ho (I.freeC x c e), hd⟩
  refine ⟨I.ok, I.os, hg, ⟨fun b o e n hb hx => ?_, fun b o e n hb hx => ?_, fun b o e n hx => ?_, fun b o e hx => ?_, fun b xs e => tups b xs (I.base.tups b xs e), fun b o xs e => frzs b o xs (I.base.frzs b o xs e), fun b ps e => ?_⟩, ?_, fun x c e => ?_, ?_, fun x c e => ?_, fun p hp => ?_, hok, I.len⟩
  · exact keep b o (neL b o e) hb (neC b o e hx) (I.base.keep b o e n hb hx) (I.base.free b o e n hx)
  · obtain ⟨sl, e1⟩ := I.base.slot b o e n hb hx
    obtain ⟨sl', e2⟩ := slot b _ (neL b o e) hb (neC b o e hx) e1 (I.base.free b o e n hx)
    exact ⟨sl', e2⟩
  · obtain ⟨o', e1⟩ := I.base.there b o e hx
    exact free b o' (neC b o e hx) e1 (I.base.free b o e n hx)
  · obtain ⟨o', e1⟩ := I.base.there b o e hx
    exact there b o' (neC b o e hx) e1
  · obtain ⟨m1, e1⟩ := I.base.tbls b ps e
    obtain ⟨m2, e2⟩ := tbls b _ e1
    exact ⟨m1 ++ m2, by rw [e2, Array.append_assoc]⟩
  · obtain ⟨m, hn, hl⟩ := I.loc
    refine ⟨m, ns m hn, fun i x v e1 e2 e3 => ?_⟩
    obtain ⟨u, r, l⟩ := hl i x v e1 e2 e3
    refine ⟨u, r, ?_⟩
    rcases l with l | ⟨k, c, e, z⟩
    · exact .inl l
    · exact .inr ⟨k, c, e, cellK x c e _ z⟩
  · obtain ⟨v, z⟩ := I.cell x c e
    exact ⟨v, cellK x c e v z⟩
  · obtain ⟨m, ⟨o, _, _, ho, _⟩, _⟩ := I.loc
    exact free _ o (fun z => (hch _ z).2.1 rfl) ho I.free
  · obtain ⟨v, o, ho, hd⟩ := I.cell x c e
    exact free c o (fun z => (hch c z).2.2.1 x c e rfl) ho (I.freeC x c e)
  · obtain ⟨e, n, ne, nf, d⟩ := I.pin p hp
    have nch : p.1 ∉ ch := fun z => (hch p.1 z).2.2.2 p hp rfl
    exact ⟨keep p.1 p.2 ne nf nch e n, free p.1 p.2 nch e n, ne, nf, d⟩
theorem Inv.un {t' : Nat} (I : Inv X pins σ H s) (u : Un X.fs [] H H' s.heap h') (hok : HOk X.prog X.w H' h') : Inv X pins σ H' { s with heap := h', toks := t' } := by
  obtain ⟨m, ⟨o, es, ep, ho, r⟩, _⟩ := id I.loc
  obtain ⟨sl, hL⟩ := u.any ho I.free (by simp)
  exact I.step (g' := s.gens) (d' := s.drawn) (ch := []) (fun _ z => nomatch z) (fun b o _ hb _ e n => u.keep b o e n hb (by simp)) (fun b o _ hb _ e n => u.slot b o e n hb (by simp)) (fun b o _ e n => u.free b o e n (by simp)) (fun b o _ e => u.there b o e (by simp)) u.tups u.frzs u.tbls (fun m' hm => by
    obtain ⟨o', es', ep', ho', r'⟩ := hm
    rw [ho] at ho'; cases ho'
    exact ⟨_, es', ep', hL, r'⟩) hok I.bare
theorem Inv.call {g' : Array GenState} {t' : Nat} {d' : Drawn} {ch : List Addr} (I : Inv X pins σ H s) (u : Un (frs X.stack) ch H H' s.heap h') (hok : HOk X.prog X.w H' h') (hg : AllBare g')
    (hch : ∀ b ∈ ch, (b ∈ X.ex ∨ X.s_0.heap.objs.size ≤ b) ∧ b ≠ X.env.locals ∧ (∀ x c, X.env.cells.lookup x = some c → c ≠ b) ∧ ∀ p ∈ X.pn ++ pins, p.1 ≠ b) :
    Inv X pins σ H' { s with heap := h', gens := g', drawn := d', toks := t' } := by
  obtain ⟨m, ⟨o, es, ep, ho, r⟩, _⟩ := id I.loc
  obtain ⟨sl, hL⟩ := u.any ho I.free fun z => (hch _ z).2.1 rfl
  exact I.step (ch := ch) hch (fun b o hL hb hc e n => u.keep b o e n (fun z => (List.mem_cons.mp (I.stkSub b z)).elim hL hb) hc) (fun b o _ _ hc e n => u.any e n hc) (fun b o hc e n => u.free b o e n hc) (fun b o hc e => u.there b o e hc) u.tups u.frzs u.tbls (fun m' hm => by
    obtain ⟨o', es', ep', ho', r'⟩ := hm
    rw [ho] at ho'; cases ho'
    exact ⟨_, es', ep', hL, r'⟩) hok hg
theorem Inv.turned {t' : Nat} {it : Addr} (I : Inv X pins σ H s) (k : ∀ b o, b ≠ it → s.heap.get? b = some o → h'.get? b = some o) (hn : H it = none) (hL : it ≠ X.env.locals)
    (h1 : it ∈ X.ex ∨ X.s_0.heap.objs.size ≤ it) (h2 : ∀ x c, X.env.cells.lookup x = some c → c ≠ it) (h3 : ∀ p ∈ X.pn ++ pins, p.1 ≠ it) : Inv X pins σ H { s with heap := h', toks := t' } := by
  have nit : ∀ b u, H b = some u → b ≠ it := fun b u e z => by rw [z, hn] at e; cases e
  refine I.step (g' := s.gens) (d' := s.drawn) (ch := [it]) (fun b hb => ?_) (fun b o _ _ hc e _ => k b o (fun z => hc (by simp [z])) e) (fun b o _ _ hc e _ => ⟨o.slots, k b o (fun z => hc (by simp [z])) e⟩) (fun _ _ _ _ n => n)
    (fun b o hc e => ⟨o, k b o (fun z => hc (by simp [z])) e⟩) (fun _ _ e => e) (fun _ _ _ e => e) (fun b ps e => ⟨#[], by rw [e]; simp⟩) (fun m hm => ?_) (fun b u e => ?_) I.bare
  · have e : b = it := by simpa using hb
    subst e
    exact ⟨h1, hL, h2, h3⟩
  · obtain ⟨o, es, ep, ho, r⟩ := hm
    exact ⟨o, es, ep, k _ o (Ne.symm hL) ho, r⟩
  · refine (I.hok b u e).stay (fun c v hc q => k c v ?_ q) (fun _ q => q) fun _ _ q => q
    rcases hc with z | z
    · rw [z]; exact nit b u e
    · exact nit c _ z
theorem Inv.tok (I : Inv X pins σ H s) (t : Nat) : Inv X pins σ H { s with toks := t } := I.un (h' := s.heap) (t' := t) Un.refl I.hok
theorem Inv.kept {t' : Nat} (I : Inv X pins σ H s) (k : ∀ b u, s.heap.get? b = some u → h'.get? b = some u) : Inv X pins σ H { s with heap := h', toks := t' } := I.un (Un.kept k) (I.hok.kept k)
theorem Inv.laid {a : Addr} {o : HO} {t' : Nat} (I : Inv X pins σ H s) (k : ∀ b u, s.heap.get? b = some u → h'.get? b = some u) (hp : s.heap.objs.size ≤ a) (new : ObjOk X.prog X.w (upd H a o) h' a o) :
    Inv X pins σ (upd H a o) { s with heap := h', toks := t' } := I.un (Un.laid k hp (I.hok.fresh hp)) (I.hok.laid k hp new)
theorem Inv.write {x e : Addr} {o : HO} {t' : Nat} (I : Inv X pins σ H s) (mu : Mut (H x)) (he : e = x ∨ H e = some (.own x)) (k : ∀ b u, b ≠ e → s.heap.get? b = some u → h'.get? b = some u) (heo : ∃ u, h'.get? e = some u)
    (new : ObjOk X.prog X.w (upd H x o) h' x o) : Inv X pins σ (upd H x o) { s with heap := h', toks := t' } := I.un (Un.write mu he k heo) (I.hok.write mu he k heo new)
theorem Inv.weak {σ' : List (Option V)} (I : Inv X pins σ H s) (hl : σ'.length = σ.length) (w : ∀ (i : Nat) v, σ'[i]? = some (some v) → σ[i]? = some (some v)) : Inv X pins σ' H s :=
  ⟨I.ok, I.os, I.bare, I.base, let ⟨m, hn, hl'⟩ := I.loc; ⟨m, hn, fun i x v e1 e2 e3 => hl' i x v e1 (w i v e2) e3⟩, I.cell, I.free, I.freeC, I.pin, I.hok, hl.trans I.len⟩
theorem Inv.pins_of {pins' : List (Addr × Obj)} (I : Inv X pins σ H s) (h : ∀ p ∈ pins', s.heap.get? p.1 = some p.2 ∧ H p.1 = none ∧ p.1 ≠ X.env.locals ∧ p.1 ∉ X.fs ∧ ∀ v, p.2.data ≠ .cell v) : Inv X pins' σ H s :=
  ⟨I.ok, I.os, I.bare, I.base, I.loc, I.cell, I.free, I.freeC, fun p hp => (List.mem_append.mp hp).elim (fun z => I.pin p (List.mem_append_left _ z)) (h p), I.hok, I.len⟩
theorem nodup_ix {N : List Str} (hN : N.Nodup) {i j : Nat} {x : Str} (a : N[i]? = some x) (b : N[j]? = some x) : i = j := by
  obtain ⟨h1, e1⟩ := List.getElem?_eq_some_iff.mp a
  obtain ⟨h2, e2⟩ := List.getElem?_eq_some_iff.mp b
  exact (List.getElem_inj hN).mp (e1.trans e2.symm)
theorem store_ok2 {M : Model} {A : Around} {E : Value → Shared → Prop} {i : Nat} {x : Str} {v : V} {u : Value} {Q : Unit → Shared → Prop} (I : Inv X pins σ H s) (hN : X.N.Nodup) (hi : X.N[i]? = some x) (hx : Loc X.env.scope x) (r : RelV v u)
    (h : ∀ s', Inv X pins (σ.set i (some v)) H s' → (∃ a, Heap.SameBut a s.heap s'.heap ∧ (a = X.env.locals ∨ X.env.cells.lookup x = some a)) → Q () s') (hf : X.fn x = true ∨ X.env.scope.names.lookup x = some .local := by first | exact .inl rfl | exact .inr rfl | assumption) : wpAny M A (storeName X.env x u) Q E s := by
  obtain ⟨m, hn, hl⟩ := id I.loc
  have hcls : (X.env.scope.kind == .class || (X.env.scope.kind == .module && X.env.locals != X.env.globals)) = false := by rw [I.ok.kind]; rfl
  have hiσ : i < σ.length := by rw [I.len]; exact (List.getElem?_eq_some_iff.mp hi).1
  have cne := I.cne
  have tracked : ∀ {a : Addr} {h' : Heap}, (∃ o, s.heap.get? a = some o ∧ H a = none) → Heap.SameBut a s.heap h' → HOk X.prog X.w H h' := fun {a h'} ha hs b ob e => by
    obtain ⟨_, _, hfree⟩ := ha
    refine (I.hok b ob e).stay (fun c w' hc q => (hs.2 c ?_).trans q) (fun _ q => q) fun _ _ q => q
    rintro rfl
    rcases hc with rfl | hc
    · rw [hfree] at e; cases e
    · rw [hfree] at hc; cases hc
  rcases hx with hk | hk
  · refine wpAny_storeName_local hk hn (fun h' hn' hs => ?_) hcls
    obtain ⟨oL, _, _, hoL, _⟩ := id hn
    refine h _ ⟨I.ok, I.os, I.bare, ⟨fun b o e n hb hx => ?_, fun b o e n hb hx => ?_, I.base.free, fun b o e hx => ?_, I.base.tups, I.base.frzs, I.base.tbls⟩, ⟨_, hn', fun j y v' e1 e2 e3 => ?_⟩, fun y c e => ?_, I.free, I.freeC, fun p hp => ?_, tracked ⟨oL, hoL, I.free⟩ hs, by simpa using I.len⟩ ⟨_, hs, .inl rfl⟩
    · exact (hs.2 b (Nat.ne_of_lt (Nat.lt_of_lt_of_le (Heap.lt_size e) I.ok.above))).trans (I.base.keep b o e n hb hx)
    · obtain ⟨sl, e1⟩ := I.base.slot b o e n hb hx
      exact ⟨sl, (hs.2 b (Nat.ne_of_lt (Nat.lt_of_lt_of_le (Heap.lt_size e) I.ok.above))).trans e1⟩
    · obtain ⟨o', e1⟩ := I.base.there b o e hx
      exact ⟨o', (hs.2 b (Nat.ne_of_lt (Nat.lt_of_lt_of_le (Heap.lt_size e) I.ok.above))).trans e1⟩
    · by_cases hj : j = i
      · subst hj
        rw [hi] at e1; cases e1
        rw [List.getElem?_set_self hiσ] at e2
        cases e2
        exact ⟨u, r, .inl ⟨hk, by simp⟩⟩
      · rw [List.getElem?_set_ne (Ne.symm hj)] at e2
        obtain ⟨u', r', q⟩ := hl j y v' e1 e2 e3
        refine ⟨u', r', ?_⟩
        rcases q with ⟨k, e⟩ | ⟨k, c, e, z⟩
        · refine .inl ⟨k, ?_⟩
          have : y ≠ x := fun e => hj (nodup_ix hN e1 (e ▸ hi))
          simp [this, e]
        · exact .inr ⟨k, c, e, z.sameBut hs (cne y c e)⟩
    · obtain ⟨w', z⟩ := I.cell y c e
      exact ⟨w', z.sameBut hs (cne y c e)⟩
    · obtain ⟨e, n, ne, nf, d⟩ := I.pin p hp
      exact ⟨(hs.2 p.1 ne).trans e, n, ne, nf, d⟩
  · have hfn : X.fn x = true := by
      rcases hf with z | z
      · exact z
      · rw [z] at hk; cases hk
    obtain ⟨c, hc⟩ := I.ok.has x (.inl hk)
    obtain ⟨w', z⟩ := I.cell x c hc
    refine wpAny_storeName_cell I.ok.kind hk hc z (fun h' hc' hs => ?_)
    obtain ⟨oc, hoc, hocd⟩ := id z
    refine h { s with heap := h' } ⟨I.ok, I.os, I.bare, ⟨fun b o e n hb hx => ?_, fun b o e n hb hx => ?_, I.base.free, fun b o e hx => ?_, I.base.tups, I.base.frzs, I.base.tbls⟩, ⟨m, hn.sameBut hs (Ne.symm (cne x c hc)), fun j y v' e1 e2 e3 => ?_⟩, fun y c' e => ?_, I.free, I.freeC, fun p hp => ?_, tracked ⟨oc, hoc, I.freeC x c hc⟩ hs, by simpa using I.len⟩ ⟨c, hs, .inr hc⟩
    · exact (hs.2 b (Nat.ne_of_lt (Nat.lt_of_lt_of_le (Heap.lt_size e) (I.ok.cab x c hfn hc)))).trans (I.base.keep b o e n hb hx)
    · obtain ⟨sl, e1⟩ := I.base.slot b o e n hb hx
      exact ⟨sl, (hs.2 b (Nat.ne_of_lt (Nat.lt_of_lt_of_le (Heap.lt_size e) (I.ok.cab x c hfn hc)))).trans e1⟩
    · obtain ⟨o', e1⟩ := I.base.there b o e hx
      exact ⟨o', (hs.2 b (Nat.ne_of_lt (Nat.lt_of_lt_of_le (Heap.lt_size e) (I.ok.cab x c hfn hc)))).trans e1⟩
    · by_cases hj : j = i
      · subst hj
        rw [hi] at e1; cases e1
        rw [List.getElem?_set_self hiσ] at e2
        cases e2
        exact ⟨u, r, .inr ⟨.inl hk, c, hc, hc'⟩⟩
      · rw [List.getElem?_set_ne (Ne.symm hj)] at e2
        obtain ⟨u', r', q⟩ := hl j y v' e1 e2 e3
        refine ⟨u', r', ?_⟩
        rcases q with q | ⟨k, c', e, z'⟩
        · exact .inl q
        · refine .inr ⟨k, c', e, z'.sameBut hs ?_⟩
          rintro rfl
          exact hj (nodup_ix hN e1 (I.ok.inj _ _ _ e hc ▸ hi))
    · by_cases hcc : c' = c
      · subst hcc; exact ⟨_, hc'⟩
      · obtain ⟨w2, z2⟩ := I.cell y c' e
        exact ⟨w2, z2.sameBut hs hcc⟩
    · obtain ⟨e, n, ne, nf, d⟩ := I.pin p hp
      refine ⟨(hs.2 p.1 ?_).trans e, n, ne, nf, d⟩
      intro q
      rw [q, hoc] at e
      have q' : oc = p.2 := Option.some.inj e
      exact d w' (by rw [← q']; exact hocd)
theorem store_ok {M : Model} {A : Around} {E : Value → Shared → Prop} {i : Nat} {x : Str} {v : V} {u : Value} {Q : Unit → Shared → Prop} (I : Inv X pins σ H s) (hN : X.N.Nodup) (hi : X.N[i]? = some x) (hx : Loc X.env.scope x) (r : RelV v u)
    (h : ∀ s', Inv X pins (σ.set i (some v)) H s' → Q () s') (hf : X.fn x = true ∨ X.env.scope.names.lookup x = some .local := by first | exact .inl rfl | exact .inr rfl | assumption) : wpAny M A (storeName X.env x u) Q E s :=
  store_ok2 I hN hi hx r (fun s' I' _ => h s' I') hf
theorem Inv.call' {s' : Shared} {ch : List Addr} (I : Inv X pins σ H s) (ho : s'.os = s.os) (u : Un (frs X.stack) ch H H' s.heap s'.heap) (hok : HOk X.prog X.w H' s'.heap) (hg : AllBare s'.gens)
    (hch : ∀ b ∈ ch, (b ∈ X.ex ∨ X.s_0.heap.objs.size ≤ b) ∧ b ≠ X.env.locals ∧ (∀ x c, X.env.cells.lookup x = some c → c ≠ b) ∧ ∀ p ∈ X.pn ++ pins, p.1 ≠ b) : Inv X pins σ H' s' := by
  obtain ⟨h', g', d', t', o'⟩ := s'
  have e : o' = s.os := ho
  subst e
  exact I.call (g' := g') (t' := t') (d' := d') u hok hg hch
end
abbrev XK := Value → Option Addr → Hp → Prop
abbrev St := List (Option V)
abbrev VK := V → Hp → Prop
abbrev TE := St → Hp → VK → Prop
abbrev TT := St → Hp → (Bool → Hp → Prop) → Prop
abbrev TA := St → Hp → (List V → Hp → Prop) → Prop
structure Ends where
  nx : St → Hp → Prop
  rt : VK
  bk : St → Hp → Prop := fun _ _ => False
  ct : St → Hp → Prop := fun _ _ => False
abbrev TS := Ends → St → Hp → Prop
def EP (X : Cx) (pins : List (Addr × Obj)) (σ : St) (Q : VK) (u : Value) (s' : Shared) : Prop := ∃ v H', Inv X pins σ H' s' ∧ RelV v u ∧ Q v H'
def TP (X : Cx) (pins : List (Addr × Obj)) (σ : St) (Q : Bool → Hp → Prop) (b : Bool) (s' : Shared) : Prop := ∃ H', Inv X pins σ H' s' ∧ Q b H'
def AP (X : Cx) (pins : List (Addr × Obj)) (σ : St) (Q : List V → Hp → Prop) (us : List Value) (s' : Shared) : Prop := ∃ vs H', Inv X pins σ H' s' ∧ Vals vs us ∧ Q vs H'
def SP (X : Cx) (pins : List (Addr × Obj)) (D : Ends) (f : Flow) (s' : Shared) : Prop :=
  match f with
  | .next => ∃ σ' H', Inv X pins σ' H' s' ∧ D.nx σ' H'
  | .brk => ∃ σ' H', Inv X pins σ' H' s' ∧ D.bk σ' H'
  | .cont => ∃ σ' H', Inv X pins σ' H' s' ∧ D.ct σ' H'
  | .ret u => ∃ v σ' H', Inv X pins σ' H' s' ∧ RelV v u ∧ D.rt v H'
def PE (X : Cx) (e : Expr) (t : TE) : Prop :=
  ∀ (pins : List (Addr × Obj)) (s : Shared) (σ : St) (H : Hp) (Q : VK), Inv X pins σ H s → t σ H Q → wpAny (model X.prog X.w) X.A (eval e X.env) (EP X pins σ Q) X.xe s
def PT (X : Cx) (e : Expr) (t : TT) : Prop :=
  ∀ (pins : List (Addr × Obj)) (s : Shared) (σ : St) (H : Hp) (Q : Bool → Hp → Prop), Inv X pins σ H s → t σ H Q → wpAny (model X.prog X.w) X.A (isTrue e X.env (eval e X.env)) (TP X pins σ Q) X.xe s
def PW (X : Cx) (e : Expr) (t : TT) : Prop :=
  ∀ (whole : Sem Value) (pins : List (Addr × Obj)) (s : Shared) (σ : St) (H : Hp) (Q : Bool → Hp → Prop), Inv X pins σ H s → t σ H Q → wpAny (model X.prog X.w) X.A (isTrue e X.env whole) (TP X pins σ Q) X.xe s
theorem PW.pt {X : Cx} {e : Expr} {t : TT} (h : PW X e t) : PT X e t := h _
def PA (X : Cx) (es : List Expr) (t : TA) : Prop :=
  ∀ (pos : Pos) (pins : List (Addr × Obj)) (s : Shared) (σ : St) (H : Hp) (Q : List V → Hp → Prop), Inv X pins σ H s → t σ H Q → wpAny (model X.prog X.w) X.A (spliced (backTo pos (starEach es X.env))) (AP X pins σ Q) X.xe s
def PS (X : Cx) (st : Stmt) (t : TS) : Prop :=
  ∀ (pins : List (Addr × Obj)) (s : Shared) (σ : St) (H : Hp) (D : Ends), Inv X pins σ H s → t D σ H → wpAny (model X.prog X.w) X.A (exec st X.env) (SP X pins D) X.xe s
def PSs (X : Cx) (st : List Stmt) (t : TS) : Prop :=
  ∀ (pins : List (Addr × Obj)) (s : Shared) (σ : St) (H : Hp) (D : Ends), Inv X pins σ H s → t D σ H → wpAny (model X.prog X.w) X.A (execs st X.env) (SP X pins D) X.xe s
theorem thn {α : Type} {t : Sem α} {Q Q' : α → Shared → Prop} {M : Model} {A : Around} {E : Value → Shared → Prop} {s : Shared} (h : wpAny M A t Q E s) (hQ : ∀ a s, Q a s → Q' a s) : wpAny M A t Q' E s := wpAny_mono h hQ fun _ _ x => x
end L2
namespace L2
open PySem PySem.Spec PyProof.Rows
section
variable {X : Cx}
def tVar (i : Nat) : TE := fun σ H Q => ∃ v, σ[i]? = some (some v) ∧ Q v H
def tC (v : V) : TE := fun _ H Q => Q v H
theorem pe_var {i : Nat} {x : Str} {pos : Pos} (hN : X.N[i]? = some x) (hv : Vis X.env.scope x) (hd : (x == ("__debug__" : Str)) = false := by decide) (hcd : (x == ("__classdict__" : Str)) = false := by decide) : PE X (.Name x pos) (tVar i) := by
  intro pins s σ H Q I h
  obtain ⟨v, e, h⟩ := h
  obtain ⟨m, hn, hl⟩ := I.loc
  obtain ⟨u, r, l⟩ := hl i x v hN e hv
  have fin : EP X pins σ Q u s := ⟨v, H, I, r, h⟩
  rcases l with ⟨hk, hm⟩ | ⟨hk, c, hc, hcell⟩
  · exact wpAny_Name (wpAny_loadName_local I.ok.kind hk hn hm fin) hd
  · rcases hk with hk | hk
    · exact wpAny_Name (wpAny_loadName_cell I.ok.kind hk hc hcell fin) hd
    · exact wpAny_Name (wpAny_loadName_free I.ok.kind hk hc hcell fin hcd) hd
theorem pe_int {i j pos} : PE X (.Constant (.int i) j pos) (tC (.int i)) := fun _ _ _ H _ I h => wpAny_Constant_int ⟨.int i, H, I.tok _, ⟨_, rfl⟩, h⟩
theorem pe_bl {b j pos} : PE X (.Constant (.bool b) j pos) (tC (.bl b)) := fun _ _ _ H _ I h => Constant_bool ⟨.bl b, H, I, rfl, h⟩
theorem pe_non {j pos} : PE X (.Constant .none j pos) (tC .non) := fun _ _ _ H _ I h => Constant_none ⟨.non, H, I, rfl, h⟩
def Gl (X : Cx) (x : Str) : Prop := X.env.kindOf x = some .globalImplicit
theorem ld_glob {E : Value → Shared → Prop} {pins : List (Addr × Obj)} {s : Shared} {σ : St} {H : Hp} {x : Str} {u : Value} {pos : Pos} {Q : Value → Shared → Prop} (I : Inv X pins σ H s) (hg : Gl X x) (hm : X.mg x = some u) (h : Q u s)
    (hd : (x == ("__debug__" : Str)) = false := by decide) : wpAny (model X.prog X.w) X.A (eval (.Name x pos) X.env) Q E s :=
  Calls.Name_function_global I.ok.kind hg (Calls.loadGlobal_global (by rw [I.ok.glob]; exact I.mod.glob.keeps I.bk) hm h) hd
theorem ld_blt {E : Value → Shared → Prop} {pins : List (Addr × Obj)} {s : Shared} {σ : St} {H : Hp} {x : Str} {u : Value} {pos : Pos} {Q : Value → Shared → Prop} (I : Inv X pins σ H s) (hg : Gl X x) (hm : X.mg x = none) (hv : bootBuiltins x = some u) (h : Q u s)
    (hn : x ≠ "__name__" := by decide) (hd : (x == ("__debug__" : Str)) = false := by decide) : wpAny (model X.prog X.w) X.A (eval (.Name x pos) X.env) Q E s := by
  obtain ⟨mb, h1, h2⟩ := I.mod.blt
  exact Calls.Name_function_global I.ok.kind hg (Calls.loadGlobal_builtin (by rw [I.ok.glob]; exact I.mod.glob.keeps I.bk) hm (by rw [I.ok.blt]; exact h1.keeps I.bk) ((h2 x hn).trans hv) h) hd
theorem pe_glob {x : Str} {v : V} {u : Value} {pos : Pos} (hg : Gl X x) (hm : X.mg x = some u) (r : RelV v u) (hd : (x == ("__debug__" : Str)) = false := by decide) : PE X (.Name x pos) (tC v) :=
  fun _ _ _ H _ I h => ld_glob I hg hm ⟨v, H, I, r, h⟩ hd
theorem pe_bltn {x : Str} {v : V} {u : Value} {pos : Pos} (hg : Gl X x) (hm : X.mg x = none) (hv : bootBuiltins x = some u) (r : RelV v u) (hn : x ≠ "__name__" := by decide) (hd : (x == ("__debug__" : Str)) = false := by decide) : PE X (.Name x pos) (tC v) :=
  fun _ _ _ H _ I h => ld_blt I hg hm hv ⟨v, H, I, r, h⟩ hn hd
variable {a b : Expr} {ta tb : TE} {pos : Pos}
def tB (t : TE) : TT := fun σ H Q => t σ H fun x H1 => ∃ c, x = .bl c ∧ Q c H1
theorem pt_val {e : Expr} {t : TE} (h : PE X e t) (he : ∀ whole, isTrue e X.env whole = (do let v ← whole; standAt e.pos; holding [v] (truthy v)) := by intro _; rfl) : PT X e (tB t) := by
  intro pins s σ H Q I hw
  refine isTrue_plain (thn (h pins s σ H _ I hw) fun v s1 ⟨x, H1, I1, r1, q1⟩ => ?_) (he _)
  obtain ⟨d, rfl, q⟩ := q1
  cases r1
  exact wpAny_truthy_bool ⟨H1, I1, q⟩
variable {tA tB' : TT} {rest : List Expr}
def tAnd (t u : TT) : TT := fun σ H Q => t σ H fun c H1 => if c = true then u σ H1 Q else Q false H1
def tOr (t u : TT) : TT := fun σ H Q => t σ H fun c H1 => if c = true then Q true H1 else u σ H1 Q
def tNot (t : TT) : TT := fun σ H Q => t σ H fun c H1 => Q (!c) H1
theorem pw_and1 (ha : PT X a tA) : PW X (.BoolOp .And [a] pos) tA := by
  intro wh pins s σ H Q I h
  refine isTrue_and (thn (ha pins s σ H Q I h) fun c s1 e => ?_)
  cases c with
  | true => exact isTrue_and_nil e
  | false => exact e
theorem pw_or1 (ha : PT X a tA) : PW X (.BoolOp .Or [a] pos) tA := by
  intro wh pins s σ H Q I h
  refine isTrue_or (thn (ha pins s σ H Q I h) fun c s1 e => ?_)
  cases c with
  | false => exact isTrue_or_nil e
  | true => exact e
theorem pw_and (ha : PT X a tA) (hb : PW X (.BoolOp .And (b :: rest) pos) tB') : PW X (.BoolOp .And (a :: b :: rest) pos) (tAnd tA tB') := by
  intro wh pins s σ H Q I h
  refine isTrue_and (thn (ha pins s σ H _ I h) fun c s1 ⟨H1, I1, q1⟩ => ?_)
  cases c with
  | true => exact hb wh pins s1 σ H1 Q I1 q1
  | false => exact ⟨H1, I1, q1⟩
theorem pw_or (ha : PT X a tA) (hb : PW X (.BoolOp .Or (b :: rest) pos) tB') : PW X (.BoolOp .Or (a :: b :: rest) pos) (tOr tA tB') := by
  intro wh pins s σ H Q I h
  refine isTrue_or (thn (ha pins s σ H _ I h) fun c s1 ⟨H1, I1, q1⟩ => ?_)
  cases c with
  | true => exact ⟨H1, I1, q1⟩
  | false => exact hb wh pins s1 σ H1 Q I1 q1
theorem pt_not (ha : PT X a tA) : PT X (.UnaryOp .Not a pos) (tNot tA) := by
  intro pins s σ H Q I h
  exact isTrue_not (ha pins s σ H (fun c H1 => Q (!c) H1) I h)
def tAndV (ta tb : TE) : TE := fun σ H Q => ta σ H fun x H1 => ∃ c, x = .bl c ∧ if c = true then tb σ H1 Q else Q (.bl false) H1
def tOrV (ta tb : TE) : TE := fun σ H Q => ta σ H fun x H1 => ∃ c, x = .bl c ∧ if c = true then Q (.bl true) H1 else tb σ H1 Q
def tNotV (ta : TE) : TE := fun σ H Q => ta σ H fun x H1 => ∃ c, x = .bl c ∧ Q (.bl (!c)) H1
theorem pe_one {op} {t : TE} (h : PE X a t) : PE X (.BoolOp op [a] pos) t := fun pins s σ H Q I hw => BoolOp_one (h pins s σ H Q I hw)
theorem pe_and (ha : PE X a ta) (hb : PE X (.BoolOp .And (b :: rest) pos) tb) : PE X (.BoolOp .And (a :: b :: rest) pos) (tAndV ta tb) := by
  intro pins s σ H Q I h
  refine BoolOp_and (thn (ha pins s σ H _ I h) fun v s1 ⟨x, H1, I1, r1, q1⟩ => ?_)
  obtain ⟨c, rfl, q1⟩ := q1
  cases r1
  refine wpAny_truthy_bool ?_
  cases c with
  | true => exact hb pins s1 σ H1 Q I1 q1
  | false => exact ⟨.bl false, H1, I1, rfl, q1⟩
theorem pe_not (ha : PE X a ta) : PE X (.UnaryOp .Not a pos) (tNotV ta) := by
  intro pins s σ H Q I h
  refine UnaryOp_ (thn (ha pins s σ H _ I h) fun v s1 ⟨x, H1, I1, r1, q1⟩ => ?_)
  obtain ⟨c, rfl, q1⟩ := q1
  cases r1
  exact not_of (wpAny_truthy_bool ⟨.bl (!c), H1, I1, rfl, q1⟩)
def tIf (t : TT) (ta tb : TE) : TE := fun σ H Q => t σ H fun c H1 => if c = true then ta σ H1 Q else tb σ H1 Q
theorem pe_ifExp {c : Expr} (hc : PT X c tA) (ha : PE X a ta) (hb : PE X b tb) : PE X (.IfExp c a b pos) (tIf tA ta tb) := by
  intro pins s σ H Q I h
  refine wpAny_IfExp (thn (hc pins s σ H _ I h) fun d s1 ⟨H1, I1, q1⟩ => ?_)
  cases d with
  | true => exact ha pins s1 σ H1 Q I1 q1
  | false => exact hb pins s1 σ H1 Q I1 q1
end
end L2
namespace L2
open PySem PySem.Spec PyProof.Rows
def SqL (K : PySem.W.Frag) (H : Hp) (a : Addr) (xs : List V) : Prop :=
  Rd H a (.lst xs) ∨
    ∃ (o : Obj) (its : Array Value) (n : Nat), K.lookup a = some o ∧ o.cls = .type "list" ∧ o.dict = none ∧ o.data = .seq its n ∧ its.size ≤ sizeLine ∧ Vals xs its.toList
def SqT (K : PySem.W.Frag) (H : Hp) (a : Addr) (xs : List V) : Prop :=
  Rd H a (.tup xs) ∨
    ∃ (o : Obj) (its : Array Value) (n : Nat), K.lookup a = some o ∧ o.cls = .type "tuple" ∧ o.data = .seq its n ∧ its.size ≤ sizeLine ∧ Vals xs its.toList
def absV : Value → Option V
  | .none => some .non
  | .bool b => some (.bl b)
  | .int i _ => some (.int i)
  | .str x _ => some (.str x)
  | .bytes b _ => some (.byt b)
  | .float b _ => some (.flt b)
  | .ref a => some (.ref a)
  | .type n => some (.ty n)
  | _ => none
theorem RelV.abs {x : V} {u : Value} (r : RelV x u) : absV u = some x := by
  cases x with
  | non => cases r; rfl
  | bl _ => cases r; rfl
  | int _ => obtain ⟨t, rfl⟩ := r; rfl
  | str _ => obtain ⟨t, rfl⟩ := r; rfl
  | byt _ => obtain ⟨t, rfl⟩ := r; rfl
  | flt _ => obtain ⟨t, rfl⟩ := r; rfl
  | ref _ => cases r; rfl
  | ty _ => cases r; rfl
theorem RelV.inj {x y : V} {u : Value} (r : RelV x u) (q : RelV y u) : x = y := Option.some.inj (r.abs.symm.trans q.abs)
theorem Vals.inj : ∀ {xs ys : List V} {us : List Value}, Vals xs us → Vals ys us → xs = ys
  | _, _, _, .nil, .nil => rfl
  | _, _, _, .cons r t, .cons r' t' => by rw [r.inj r', Vals.inj t t']
section
variable {X : Cx} {pins : List (Addr × Obj)} {σ : St} {H : Hp} {s : Shared} {a : Addr} {xs ys : List V}
theorem SqL.of {K : PySem.W.Frag} (h : H a = some (.lst xs)) : SqL K H a xs := .inl (.inl h)
theorem SqT.of {K : PySem.W.Frag} (h : H a = some (.tup xs)) : SqT K H a xs := .inl (.inl h)
theorem Inv.list (I : Inv X pins σ H s) (h : SqL X.K H a xs) : ∃ its : List Value, Vals xs its ∧ PlainL s.heap a its.toArray ∧ xs.length ≤ sizeLine := by
  rcases h with h | ⟨o, its, n, hk, hc, hd, hs, hz, r⟩
  · obtain ⟨z, its, n, r, e⟩ := h.ok I.hok
    exact ⟨its, r, ⟨_, n, e, rfl, rfl, rfl⟩, z⟩
  · refine ⟨its.toList, r, ⟨o, n, I.kIn a o hk, hc, hd, by simpa using hs⟩, ?_⟩
    have e := r.length
    simp only [Array.length_toList] at e
    omega
theorem Inv.tuple (I : Inv X pins σ H s) (h : SqT X.K H a xs) : ∃ its : List Value, Vals xs its ∧ IsTup s.heap a its.toArray ∧ xs.length ≤ sizeLine := by
  rcases h with h | ⟨o, its, n, hk, hc, hs, hz, r⟩
  · obtain ⟨z, its, r, p⟩ := h.ok I.hok
    exact ⟨its, r, p, z⟩
  · refine ⟨its.toList, r, ⟨o, I.kIn a o hk, hc, n, by simpa using hs⟩, ?_⟩
    have e := r.length
    simp only [Array.length_toList] at e
    omega
theorem Inv.list_inj (I : Inv X pins σ H s) (h : SqL X.K H a xs) (h' : SqL X.K H a ys) : xs = ys := by
  obtain ⟨its, r, ⟨o, n, e, _, _, d⟩, _⟩ := I.list h
  obtain ⟨its', r', ⟨o', n', e', _, _, d'⟩, _⟩ := I.list h'
  rw [e] at e'; cases e'
  rw [d] at d'
  injection d' with d1 _
  have : its = its' := by simpa using congrArg Array.toList d1
  subst this
  exact r.inj r'
end
abbrev Cx.wish (X : Cx) (E : Value → Shared → Prop) : Cx := { X with xe := E }
abbrev Cx.nox (X : Cx) : Cx := X.wish fun _ _ => False
theorem Cx.Ok.wish {X : Cx} (ok : X.Ok) (E : Value → Shared → Prop) : (X.wish E).Ok :=
  ⟨ok.mod, ok.kind, ok.glob, ok.blt, ok.above, ok.inj, ok.has, ok.cab, ok.hd, ok.frames, ok.stk, ok.exf, ok.bs, ok.bsz, ok.noex, ok.exfs, ok.funs, ok.frf⟩
theorem Cx.Ok.unwish {X : Cx} {E : Value → Shared → Prop} (ok : (X.wish E).Ok) : X.Ok :=
  ⟨ok.mod, ok.kind, ok.glob, ok.blt, ok.above, ok.inj, ok.has, ok.cab, ok.hd, ok.frames, ok.stk, ok.exf, ok.bs, ok.bsz, ok.noex, ok.exfs, ok.funs, ok.frf⟩
section
variable {X : Cx} {pins : List (Addr × Obj)} {σ : St} {H : Hp} {s : Shared} {E : Value → Shared → Prop}
theorem Inv.wish (I : Inv X pins σ H s) (E : Value → Shared → Prop) : Inv (X.wish E) pins σ H s := ⟨I.ok.wish E, I.os, I.bare, I.base, I.loc, I.cell, I.free, I.freeC, I.pin, I.hok, I.len⟩
theorem Inv.unwish (I : Inv (X.wish E) pins σ H s) : Inv X pins σ H s := ⟨I.ok.unwish, I.os, I.bare, I.base, I.loc, I.cell, I.free, I.freeC, I.pin, I.hok, I.len⟩
theorem SP.unwish {D : Ends} {f : Flow} {s' : Shared} (h : SP (X.wish E) pins D f s') : SP X pins D f s' := by
  cases f with
  | next => obtain ⟨σ', H', I, q⟩ := h; exact ⟨σ', H', I.unwish, q⟩
  | brk => obtain ⟨σ', H', I, q⟩ := h; exact ⟨σ', H', I.unwish, q⟩
  | cont => obtain ⟨σ', H', I, q⟩ := h; exact ⟨σ', H', I.unwish, q⟩
  | ret u => obtain ⟨v, σ', H', I, r, q⟩ := h; exact ⟨v, σ', H', I.unwish, r, q⟩
theorem PE.nox {e : Expr} {t : TE} (h : PE X.nox e t) : PE X e t := fun pins s σ H Q I hw =>
  wpAny_mono (h pins s σ H Q (I.wish _) hw) (fun _ _ ⟨v, H', I', r, q⟩ => ⟨v, H', I'.unwish, r, q⟩) fun _ _ z => False.elim z
theorem PT.nox {e : Expr} {t : TT} (h : PT X.nox e t) : PT X e t := fun pins s σ H Q I hw =>
  wpAny_mono (h pins s σ H Q (I.wish _) hw) (fun _ _ ⟨H', I', q⟩ => ⟨H', I'.unwish, q⟩) fun _ _ z => False.elim z
theorem PSs.nox {st : List Stmt} {t : TS} (h : PSs X.nox st t) : PSs X st t := fun pins s σ H D I hw =>
  wpAny_mono (h pins s σ H D (I.wish _) hw) (fun _ _ q => q.unwish) fun _ _ z => False.elim z
end
section
variable {X : Cx} {st : Stmt} {rest : List Stmt} {t u : TS} {e : Expr} {te : TE} {pos : Pos}
def tNext : TS := fun D σ H => D.nx σ H
def tSeq (t u : TS) : TS := fun D σ H => t { D with nx := u D } σ H
theorem pss_nil : PSs X [] tNext := fun _ _ σ H _ I h => wpAny_execs_nil ⟨σ, H, I, h⟩
theorem pss_cons (h1 : PS X st t) (h2 : PSs X rest u) : PSs X (st :: rest) (tSeq t u) := by
  intro pins s σ H D I h
  refine wpAny_execs_cons (thn (h1 pins s σ H { D with nx := u D } I h) fun f s1 q => ?_)
  cases f with
  | next =>
    obtain ⟨σ', H', I', q⟩ := q
    exact h2 pins s1 σ' H' D I' q
  | ret v => exact q
  | brk => exact q
  | cont => exact q
theorem pss_one (h1 : PS X st t) : PSs X [st] t := by
  intro pins s σ H D I h
  refine wpAny_execs_cons (thn (h1 pins s σ H D I h) fun f s1 q => ?_)
  cases f with
  | next => exact wpAny_execs_nil q
  | ret v => exact q
  | brk => exact q
  | cont => exact q
theorem Inv.quiet {pins : List (Addr × Obj)} {σ : St} {H : Hp} {s : Shared} (I : Inv X pins σ H s) : interactive X.env = false := by simp [interactive, I.ok.kind]
def tDrop (te : TE) : TS := fun D σ H => te σ H fun _ H1 => D.nx σ H1
theorem ps_expr (he : PE X e te) (hs : swapsWith e none pos.line X.env = pure false := by rfl) : PS X (.Expr e pos) (tDrop te) := by
  intro pins s σ H D I h
  exact wpAny_Expr_any (thn (he pins s σ H _ I h) fun v s1 ⟨x, H1, I1, r1, q1⟩ => ⟨σ, H1, I1, q1⟩) I.quiet hs
def tRet (te : TE) : TS := fun D σ H => te σ H D.rt
theorem ps_ret (he : PE X e te) : PS X (.Return (some e) pos) (tRet te) := by
  intro pins s σ H D I h
  exact wpAny_Return_some (thn (he pins s σ H _ I h) fun v s1 ⟨x, H1, I1, r1, q1⟩ => ⟨x, σ, H1, I1, r1, q1⟩)
def tRetN : TS := fun D _ H => D.rt .non H
def tIfS (c : TT) (t u : TS) : TS := fun D σ H => c σ H fun b H1 => if b = true then t D σ H1 else u D σ H1
theorem ps_if {c : Expr} {a b : List Stmt} {tc : TT} (hc : PT X c tc) (ha : PSs X a t) (hb : PSs X b u) : PS X (.If c a b pos) (tIfS tc t u) := by
  intro pins s σ H D I h
  refine wpAny_If (thn (hc pins s σ H _ I h) fun d s1 ⟨H1, I1, q1⟩ => ?_)
  cases d with
  | true => exact ha pins s1 σ H1 D I1 q1
  | false => exact hb pins s1 σ H1 D I1 q1
def tNever : TS := fun _ _ _ => False
theorem ps_never : PS X st tNever := fun _ _ _ _ _ _ h => h.elim
end
abbrev TG := V → St → Hp → (St → Hp → Prop) → Prop
abbrev TGs := List V → St → Hp → (St → Hp → Prop) → Prop
def PG (X : Cx) (target : Expr) (t : TG) : Prop :=
  ∀ (pins : List (Addr × Obj)) (s : Shared) (σ : St) (H : Hp) (v : V) (u : Value) (Q : St → Hp → Prop), Inv X pins σ H s → RelV v u → t v σ H Q →
    wpAny (model X.prog X.w) X.A (assign target X.env u) (fun _ s' => ∃ σ' H', Inv X pins σ' H' s' ∧ Q σ' H') X.xe s
def PGs (X : Cx) (ts : List Expr) (t : TGs) : Prop :=
  ∀ (pins : List (Addr × Obj)) (s : Shared) (σ : St) (H : Hp) (vs : List V) (us : List Value) (Q : St → Hp → Prop), Inv X pins σ H s → Vals vs us → t vs σ H Q →
    wpAny (model X.prog X.w) X.A (assignInOrder ((assignEach ts X.env).map (·.2)) us) (fun _ s' => ∃ σ' H', Inv X pins σ' H' s' ∧ Q σ' H') X.xe s
abbrev TSet := V → V → V → Hp → (Hp → Prop) → Prop
def PSet (X : Cx) (t : TSet) : Prop :=
  ∀ (pins : List (Addr × Obj)) (s : Shared) (σ : St) (H : Hp) (o i v : V) (ov iv u : Value) (Q : Hp → Prop), Inv X pins σ H s → RelV o ov → RelV i iv → RelV v u → t o i v H Q →
    wpAny (model X.prog X.w) X.A (setItem ov iv u) (fun _ s' => ∃ H', Inv X pins σ H' s' ∧ Q H') X.xe s
abbrev TIp := V → V → Hp → VK → Prop
def PIp (X : Cx) (op : Operator) (t : TIp) : Prop :=
  ∀ (pins : List (Addr × Obj)) (s : Shared) (σ : St) (H : Hp) (x y : V) (v u : Value) (Q : VK), Inv X pins σ H s → RelV x v → RelV y u → t x y H Q →
    wpAny (model X.prog X.w) X.A (inplaceOp op v u) (EP X pins σ Q) X.xe s
section
variable {X : Cx} {pos : Pos}
def gName (i : Nat) : TG := fun v σ H Q => Q (σ.set i (some v)) H
theorem pg_name {i : Nat} {x : Str} (hN : X.N.Nodup) (hi : X.N[i]? = some x) (hx : Loc X.env.scope x) (hf : X.fn x = true ∨ X.env.scope.names.lookup x = some .local := by first | exact .inl rfl | exact .inr rfl | assumption) : PG X (.Name x pos) (gName i) := by
  intro pins s σ H v u Q I r h
  exact wpAny_assign_Name (store_ok I hN hi hx r (fun s' I' => ⟨_, H, I', h⟩) hf)
def gNil : TGs := fun vs σ H Q => vs = [] ∧ Q σ H
def gCons (t : TG) (u : TGs) : TGs := fun vs σ H Q => ∃ v r, vs = v :: r ∧ t v σ H fun σ' H' => u r σ' H' Q
theorem pgs_nil : PGs X [] gNil := by
  intro pins s σ H vs us Q I r h
  obtain ⟨e, h⟩ := h
  subst e
  cases r
  exact assignInOrder_nil ⟨σ, H, I, h⟩
theorem pgs_cons {e : Expr} {es : List Expr} {t : TG} {u : TGs} (h1 : PG X e t) (h2 : PGs X es u)
    (hs : (assignEach (e :: es) X.env).map (·.2) = assign e X.env :: (assignEach es X.env).map (·.2) := by rfl) : PGs X (e :: es) (gCons t u) := by
  intro pins s σ H vs us Q I r h
  obtain ⟨v, vr, e1, h⟩ := h
  subst e1
  cases r with
  | cons r rr =>
    rw [hs]
    refine assignInOrder_cons (thn (h1 pins s σ H _ _ _ I r h) fun _ s1 ⟨σ1, H1, I1, q1⟩ => ?_)
    exact h2 pins s1 σ1 H1 _ _ Q I1 rr q1
def gTup (K : PySem.W.Frag) (n : Nat) (t : TGs) : TG := fun v σ H Q => ∃ a xs, v = .ref a ∧ SqT K H a xs ∧ xs.length = n ∧ t xs σ H Q
theorem pg_tup {es : List Expr} {k : Nat} {t : TGs} {n : Nat} (hc : X.calm = true) (h : PGs X es t)
    (hn : (assignEach es X.env).length = n := by rfl) (hst : (assignEach es X.env).findIdx? (·.1) = none := by rfl) : PG X (.Tuple es k pos) (gTup X.K n t) := by
  intro pins s σ H v u Q I r hw
  obtain ⟨a, xs, e1, hq, hl, hw⟩ := hw
  subst e1
  cases r
  obtain ⟨its, rv, ht, hz⟩ := I.tuple hq
  refine assign_Tuple_tuple (I.ok.hd hc) ht (by simp [hn, ← hl, rv.length]) hst fun h' hx => ?_
  have I1 : Inv X pins σ H { s with heap := h' } := I.kept (t' := s.toks) fun b o e => hx b o (Nat.ne_of_lt (Heap.lt_size e)) e
  exact h pins _ σ H xs _ Q I1 (by simpa using rv) hw
def gSub (to ti : TE) (t : TSet) : TG := fun v σ H Q => to σ H fun o H1 => ti σ H1 fun i H2 => t o i v H2 fun H3 => Q σ H3
theorem pg_sub {o i : Expr} {to ti : TE} {t : TSet} (ho : PE X o to) (hi : PE X i ti) (hs : PSet X t)
    (ha : ∀ v, assign (.Subscript o i pos) X.env v = (do
      let ov ← holding [v] (eval o X.env)
      let iv ← holding [v, ov] (eval i X.env)
      standAt pos
      holding [v, ov, iv] (setItem ov iv v)
      release [v, ov, iv] []) := by intro _; rfl) : PG X (.Subscript o i pos) (gSub to ti t) := by
  intro pins s σ H v u Q I r h
  rw [ha]
  refine wpAny_bind (wpAny_holding (thn (ho pins s σ H _ I h) fun ov s1 ⟨x, H1, I1, r1, q1⟩ => ?_))
  refine wpAny_bind (wpAny_holding (thn (hi pins s1 σ H1 _ I1 q1) fun iv s2 ⟨y, H2, I2, r2, q2⟩ => ?_))
  refine wpAny_bind (wpAny_standAt (wpAny_bind (wpAny_holding (thn (hs pins s2 σ H2 x y v ov iv u _ I2 r1 r2 r q2) fun _ s3 ⟨H3, I3, q3⟩ => ?_))))
  exact wpAny_release ⟨σ, H3, I3, q3⟩
def tAsg (te : TE) (g : TG) : TS := fun D σ H => te σ H fun x H1 => g x σ H1 D.nx
theorem ps_asg {tg e : Expr} {te : TE} {g : TG} (he : PE X e te) (hg : PG X tg g) (hs : swapsWithSole [tg] e pos.line X.env = pure false := by rfl) (hw : swappedStores [tg] e X.env = pure none := by rfl)
    (h1 : (assignEach [tg] X.env).map (·.2) = [assign tg X.env] := by rfl) : PS X (.Assign [tg] e pos) (tAsg te g) := by
  intro pins s σ H D I h
  refine wpAny_Assign_stores (thn (he pins s σ H _ I h) fun v s1 ⟨x, H1, I1, r1, q1⟩ => ?_) hs hw
  rw [h1]
  exact thn (hg pins s1 σ H1 x v _ I1 r1 q1) fun _ s2 q => q
theorem ps_set {i : Nat} {x : Str} {e : Expr} {te : TE} {pos' : Pos} (hN : X.N.Nodup) (hi : X.N[i]? = some x) (hx : Loc X.env.scope x) (he : PE X e te) (hs : swapsWith e (some (.Name x pos')) pos.line X.env = pure false := by rfl) (hf : X.fn x = true ∨ X.env.scope.names.lookup x = some .local := by first | exact .inl rfl | exact .inr rfl | assumption) :
    PS X (.Assign [.Name x pos'] e pos) (tAsg te (gName i)) := by
  intro pins s σ H D I h
  refine wpAny_Assign_Name (thn (he pins s σ H _ I h) fun v s1 ⟨y, H1, I1, r1, q1⟩ => ?_) hs
  exact store_ok I1 hN hi hx r1 (fun s2 I2 => ⟨_, H1, I2, q1⟩) hf
def tPar (i j : Nat) (ta : TA) : TS := fun D σ H => ta σ H fun vs H1 => ∃ v w, vs = [v, w] ∧ D.nx ((σ.set i (some v)).set j (some w)) H1
theorem ps_par {i j : Nat} {x y : Str} {a b : Expr} {ta : TA} {px py pt : Pos} {kt k2 pt2} (hc : X.calm = true) (hN : X.N.Nodup) (hi : X.N[i]? = some x) (hj : X.N[j]? = some y) (hij : i ≠ j)
    (hx : X.env.scope.names.lookup x = some .local) (hy : X.env.scope.names.lookup y = some .local) (ha : PA X [a, b] ta)
    (hw : swappedStores [.Tuple [.Name x px, .Name y py] kt pt] (.Tuple [a, b] k2 pt2) X.env = pure (some [x, y]))
    (hs : swapsWithSole [.Tuple [.Name x px, .Name y py] kt pt] (.Tuple [a, b] k2 pt2) pos.line X.env = pure false := by rfl) :
    PS X (.Assign [.Tuple [.Name x px, .Name y py] kt pt] (.Tuple [a, b] k2 pt2) pos) (tPar i j ta) := by
  intro pins s σ H D I h
  rw [exec_Assign_arm]
  refine wpAny_bind (wpAny_standAt ?_)
  rw [hs]
  refine wpAny_bind (wpAny_pure ?_)
  rw [if_neg (by decide)]
  refine wpAny_bind (Tuple_ (thn (ha _ pins s σ H _ I h) fun us s1 ⟨vs, H1, I1, r1, q1⟩ => ?_))
  obtain ⟨v, w, e1, q1⟩ := q1
  subst e1
  obtain ⟨u1, u2, rfl, rv, rw'⟩ : ∃ u1 u2, us = [u1, u2] ∧ RelV v u1 ∧ RelV w u2 := by
    cases r1 with
    | cons p q =>
      cases q with
      | cons p' q' =>
        cases q'
        exact ⟨_, _, rfl, p, p'⟩
  refine wpAny_newObj_type ?_ (by show 2 ≤ sizeLine; decide)
  have I2 : Inv X pins σ H1 { s1 with heap := s1.heap.push { cls := .type "tuple", data := .seq [u1, u2].toArray } } := I1.kept (t' := s1.toks) fun b o e => Heap.get?_push_of_some _ e
  rw [hw]
  refine wpAny_bind (wpAny_pure ?_)
  show wpAny (model X.prog X.w) X.A (do rule "assign.swapped-stores"; let items ← unpackItems (.ref s1.heap.objs.size) 2 none; assignInOrder [fun v => bindName X.env y v, fun v => bindName X.env x v] items.reverse; pure Flow.next) _ _ _
  refine wpAny_bind (wpAny_rule (wpAny_bind (unpackItems_tuple (items := #[u1, u2]) (I.ok.hd hc) (IsTup.new s1.heap _) fun h' hx' => ?_)))
  have I3 := I2.kept (h' := h') (t' := s1.toks) fun b o e => hx' b o (Nat.ne_of_lt (Heap.lt_size e)) e
  show wpAny _ _ (assignInOrder [fun v => bindName X.env y v, fun v => bindName X.env x v] [u2, u1] >>= fun _ => pure Flow.next) _ _ _
  refine wpAny_bind (assignInOrder_cons (wpAny_bindName (store_ok I3 hN hj (.inl hy) rw' (fun s2 I4 => ?_) (.inr hy))))
  refine assignInOrder_cons (wpAny_bindName (store_ok I4 hN hi (.inl hx) rv (fun s3 I5 => assignInOrder_nil (wpAny_pure ?_)) (.inr hx)))
  rw [List.set_comm _ _ (Ne.symm hij)] at I5
  exact ⟨_, H1, I5, q1⟩
def tAug (i : Nat) (te : TE) (ti : TIp) : TS := fun D σ H => ∃ x, σ[i]? = some (some x) ∧ te σ H fun y H1 => ti x y H1 fun z H2 => D.nx (σ.set i (some z)) H2
theorem ps_aug {i : Nat} {x : Str} {e : Expr} {te : TE} {op : Operator} {ti : TIp} {pos' : Pos} (hN : X.N.Nodup) (hi : X.N[i]? = some x) (hx : Loc X.env.scope x) (he : PE X e te) (ho : PIp X op ti) (hf : X.fn x = true ∨ X.env.scope.names.lookup x = some .local := by first | exact .inl rfl | exact .inr rfl | assumption) :
    PS X (.AugAssign (.Name x pos') op e pos) (tAug i te ti) := by
  intro pins s σ H D I h
  obtain ⟨v, e1, h⟩ := h
  obtain ⟨m, hn, hl⟩ := I.loc
  have vis : Vis X.env.scope x := by rcases hx with k | k; exact .inl k; exact .inr (.inl k)
  obtain ⟨u, r, l⟩ := hl i x v hi e1 vis
  refine wpAny_AugAssign_Name ?_
  have go : wpAny (model X.prog X.w) X.A (eval e X.env) (fun w s₂ => wpAny (model X.prog X.w) X.A (inplaceOp op u w) (fun r s₃ => wpAny (model X.prog X.w) X.A (storeName X.env x r) (fun _ => SP X pins D .next) X.xe s₃) X.xe s₂) X.xe s := by
    refine thn (he pins s σ H _ I h) fun w s1 ⟨y, H1, I1, r1, q1⟩ => ?_
    refine thn (ho pins s1 σ H1 v y u w _ I1 r r1 q1) fun z s2 ⟨zv, H2, I2, r2, q2⟩ => ?_
    exact store_ok I2 hN hi hx r2 (fun s3 I3 => ⟨_, H2, I3, q2⟩) hf
  rcases l with ⟨hk, hm⟩ | ⟨hk, c, hc, hcell⟩
  · exact wpAny_loadName_local I.ok.kind hk hn hm go
  · rcases hk with hk | hk
    · exact wpAny_loadName_cell I.ok.kind hk hc hcell go
    · rcases hx with k | k
      · have : X.env.scope.names.lookup x = some .free := hk
        rw [k] at this; cases this
      · have : X.env.scope.names.lookup x = some .free := hk
        rw [k] at this; cases this
def ipI (f : Int → Int → Int) : TIp := fun x y H Q => ∃ i j, x = .int i ∧ y = .int j ∧ Q (.int (f i j)) H
theorem ip_add : PIp X .Add (ipI fun i j => i + j) := by
  intro pins s σ H x y v u Q I r1 r2 h
  obtain ⟨i, j, e1, e2, q⟩ := h
  subst e1; subst e2
  obtain ⟨t, rfl⟩ := r1
  obtain ⟨t', rfl⟩ := r2
  exact iadd_int ⟨.int _, H, I.tok _, ⟨_, rfl⟩, q⟩
end
section
variable {X : Cx} {pos : Pos}
def tWhile (c : TT) (tb : TS) : TS := fun D σ H => ∃ W : Nat → St → Hp → Prop, (∃ m, W m σ H) ∧ ∀ m σ H, W m σ H →
  c σ H fun b H1 => if b = true then ∃ N : St → Hp → Prop, (∀ σ' H', N σ' H' → ∃ m', m' < m ∧ W m' σ' H') ∧ tb { D with nx := N, ct := N, bk := D.nx } σ H1 else D.nx σ H1
theorem ps_while {c : Expr} {body : List Stmt} {tc : TT} {tb : TS} (hp : PassesOwn (model X.prog X.w) X.A X.env X.xe) (hc : PT X c tc) (hb : PSs X body tb) : PS X (.While c body [] pos) (tWhile tc tb) := by
  intro pins s σ H D I h
  obtain ⟨W, ⟨m0, w0⟩, turn⟩ := h
  refine wpAny_While (codeAny_whileLoop (fun n s' => ∃ σ' H', Inv X pins σ' H' s' ∧ W n σ' H') ?_ m0 ⟨σ, H, I, w0⟩)
  rintro n s1 ⟨σ1, H1, I1, w1⟩
  refine wpAny_passesOwn hp (thn (hc pins s1 σ1 H1 _ I1 (turn n σ1 H1 w1)) fun b s2 ⟨H2, I2, q2⟩ => ?_)
  cases b with
  | true =>
    obtain ⟨N, hN, q2⟩ := q2
    rw [if_pos rfl]
    refine wpAny_passesOwn hp (thn (hb pins s2 σ1 H2 _ I2 q2) fun f s3 q3 => ?_)
    cases f with
    | next =>
      obtain ⟨σ3, H3, I3, n3⟩ := q3
      obtain ⟨m', hm, w3⟩ := hN σ3 H3 n3
      exact ⟨m', hm, σ3, H3, I3, w3⟩
    | cont =>
      obtain ⟨σ3, H3, I3, n3⟩ := q3
      obtain ⟨m', hm, w3⟩ := hN σ3 H3 n3
      exact ⟨m', hm, σ3, H3, I3, w3⟩
    | brk => exact q3
    | ret v => exact q3
  | false =>
    rw [if_neg Bool.false_ne_true]
    exact wpAny_execs_nil ⟨σ1, H2, I2, q2⟩
end
structure It where
  go : Nat → Hp → Prop
  yld : Nat → Hp → V → Hp → Prop
  stop : Nat → Hp → Prop
def FpOk (X : Cx) (pins : List (Addr × Obj)) (H : Hp) (b : Addr) : Prop :=
  H b = none ∧ b ≠ X.env.locals ∧ b ∉ X.fs ∧ (b ∈ X.ex ∨ X.s_0.heap.objs.size ≤ b) ∧ (∀ x c, X.env.cells.lookup x = some c → c ≠ b) ∧ ∀ p ∈ X.pn ++ pins, p.1 ≠ b
theorem Inv.fpOk {X : Cx} {pins : List (Addr × Obj)} {σ : St} {H H' : Hp} {s : Shared} {b : Addr} (I : Inv X pins σ H s) (hb : s.heap.objs.size ≤ b) (hn : H' b = none) : FpOk X pins H' b := by
  refine ⟨hn, Nat.ne_of_gt (Nat.lt_of_lt_of_le I.lt hb), I.nofs hb, .inr (Nat.le_trans I.sz hb), fun x c e z => ?_, fun p hp z => ?_⟩
  · obtain ⟨v, q⟩ := I.cell x c e
    exact absurd (Nat.lt_of_lt_of_le q.lt (by rw [z]; exact hb)) (Nat.lt_irrefl _)
  · exact absurd (Nat.lt_of_lt_of_le (Heap.lt_size (I.pin p hp).1) (by rw [z]; exact hb)) (Nat.lt_irrefl _)
structure Turn (P : Program) (w : World) (K : PySem.W.Frag) (tg : Expr) (J : It) (fp : List Addr) (it : Addr) (tn : Nat → Heap → Prop) : Prop where
  mem : it ∈ fp
  obj : ∀ i h, tn i h → ∀ b ∈ fp, ∃ o, h.get? b = some o ∧ ∀ v, o.data ≠ .cell v
  keep : ∀ i h h', tn i h → (∀ b ∈ fp, ∀ o, h.get? b = some o → h'.get? b = some o) → tn i h'
  item : ∀ (X : Cx), X.prog = P → X.w = w → X.K = K → X.calm = true → ∀ (i : Nat) (pins : List (Addr × Obj)) (s : Shared) (σ : St) (H : Hp) (E : Value → Shared → Prop), Inv X pins σ H s → (∀ b ∈ fp, FpOk X pins H b) → tn i s.heap → J.go i H →
    wpAny (model P w) X.A (pyNext (.ref it)) (fun r s1 => ∃ u, r = some u ∧
      wpAny (model P w) X.A (letOwnedTupleGo tg (.ref it) u) (fun _ s2 => ∃ x H', Inv X pins σ H' s2 ∧ RelV x u ∧ J.yld i H x H' ∧ tn (i + 1) s2.heap ∧ ∀ b ∈ fp, H' b = none) E s1) E s
  done : ∀ (X : Cx), X.prog = P → X.w = w → X.K = K → X.calm = true → ∀ (i : Nat) (pins : List (Addr × Obj)) (s : Shared) (σ : St) (H : Hp) (E : Value → Shared → Prop), Inv X pins σ H s → (∀ b ∈ fp, FpOk X pins H b) → tn i s.heap → J.stop i H →
    wpAny (model P w) X.A (pyNext (.ref it)) (fun r s1 => r = none ∧ Inv X pins σ H s1) E s
  self : ∀ (A : Around) (i : Nat) (s : Shared) (Q : Value → Shared → Prop) (E : Value → Shared → Prop), tn i s.heap → Q (.ref it) s → wpAny (model P w) A (pyIter (.ref it)) Q E s
abbrev TI := St → Hp → (It → Hp → Prop) → Prop
def PIE (X : Cx) (pins : List (Addr × Obj)) (σ : St) (tg : Expr) (R : It → Hp → Prop) (itv : Value) (s2 : Shared) : Prop :=
  ∃ (it : Addr) (fp : List Addr) (tn : Nat → Heap → Prop) (J : It) (H' : Hp), itv = .ref it ∧ Inv X pins σ H' s2 ∧ Turn X.prog X.w X.K tg J fp it tn ∧ tn 0 s2.heap ∧ (∀ b ∈ fp, FpOk X pins H' b) ∧ R J H'
def PI (X : Cx) (tg iter : Expr) (wi : TI) : Prop :=
  ∀ (pins : List (Addr × Obj)) (s : Shared) (σ : St) (H : Hp) (R : It → Hp → Prop), Inv X pins σ H s → wi σ H R →
    wpAny (model X.prog X.w) X.A (eval iter X.env) (fun v s1 => wpAny (model X.prog X.w) X.A (pyIter v) (PIE X pins σ tg R) X.xe s1) X.xe s
theorem go_of {M : Model} {A : Around} {E : Value → Shared → Prop} {s : Shared} {tg : Expr} {it : Addr} {u : Value} {o : Obj} {n : String} {vs : Array Value} {Q : Unit → Shared → Prop} (ho : s.heap.get? it = some o) (hc : o.cls = .type n) (hd : o.data = .fields vs)
    (hn : ["enumerate", "zip", "dict_itemiterator", "dict_reverseitemiterator", "odict_iterator", "itertools.zip_longest", "itertools.pairwise"].contains n = false) (hQ : Q () s) : wpAny M A (letOwnedTupleGo tg (.ref it) u) Q E s := by
  unfold letOwnedTupleGo
  cases tg <;> first
    | exact wpAny_pure hQ
    | (cases u <;> first
        | exact wpAny_pure hQ
        | (refine wpAny_bind (wpAny_load ho ?_)
           rw [hc, hd]
           show wpAny M A (if (["enumerate", "zip", "dict_itemiterator", "dict_reverseitemiterator", "odict_iterator", "itertools.zip_longest", "itertools.pairwise"].contains n && vs[0]? == some (rawInt _)) = true then _ else _) Q E s
           rw [if_neg (by intro h; rw [hn, Bool.false_and] at h; cases h)]
           exact wpAny_pure hQ))
def Itl (K : PySem.W.Frag) (a : Addr) : It :=
  ⟨fun i H => ∃ xs x, SqL K H a xs ∧ xs[i]? = some x, fun i H x H' => H' = H ∧ ∀ xs, SqL K H a xs → xs[i]? = some x, fun i H => ∃ xs, SqL K H a xs ∧ xs.length ≤ i⟩
def Itt (K : PySem.W.Frag) (a : Addr) : It :=
  ⟨fun i H => ∃ xs x, SqT K H a xs ∧ xs[i]? = some x, fun i H x H' => H' = H ∧ ∀ xs, SqT K H a xs → xs[i]? = some x, fun i H => ∃ xs, SqT K H a xs ∧ xs.length ≤ i⟩
def Itr (lo : Int) (n : Nat) : It := ⟨fun i _ => i < n, fun i H x H' => H' = H ∧ x = .int (lo + i), fun i _ => n ≤ i⟩
theorem turn_list {P : Program} {w : World} {K : PySem.W.Frag} {tg : Expr} (a it : Addr) : Turn P w K tg (Itl K a) [it] it (fun i h => h.IsListIter it a i) where
  mem := by simp
  obj := fun i h st b hb => by
    have e : b = it := by simpa using hb
    subst e
    obtain ⟨o, e, c, d⟩ := st
    exact ⟨o, e, fun v z => by rw [d] at z; cases z⟩
  keep := fun i h h' st k => st.at fun o e => k it (by simp) o e
  item := by
    intro X hP hw hK hc i pins s σ H E I hf st hg
    subst hP hw hK
    obtain ⟨xs, x, hq, hx⟩ := hg
    obtain ⟨its, rv, p, hz⟩ := I.list hq
    obtain ⟨u, hu, ru⟩ := rv.get hx
    obtain ⟨f0, f1, f2, f3, f4, f5⟩ := hf it (by simp)
    refine wpAny_pyNext_list_item st p.isList (x := u) (by simpa using hu) fun h' st' sb => ?_
    have I1 : Inv X pins σ H { s with heap := h' } := I.turned (t' := s.toks) (fun b o hb e => (sb.2 b hb).trans e) f0 f1 f3 f4 f5
    obtain ⟨o, e, c, d⟩ := id st'
    exact ⟨u, rfl, go_of (s := { s with heap := h' }) e c d (by decide) ⟨x, H, I1, ru, ⟨rfl, fun ys hy => by rw [I.list_inj hy hq]; exact hx⟩, st', fun b hb => (hf b hb).1⟩⟩
  done := by
    intro X hP hw hK hc i pins s σ H E I hf st hg
    subst hP hw hK
    obtain ⟨xs, hq, hx⟩ := hg
    obtain ⟨its, rv, p, hz⟩ := I.list hq
    obtain ⟨f0, f1, f2, f3, f4, f5⟩ := hf it (by simp)
    have hl := rv.length
    exact wpAny_pyNext_list_end (I.ok.hd hc) st p.isList (by simp; omega) fun h' eb => ⟨rfl, I.turned (t' := s.toks) (fun b o hb e => eb b o hb e) f0 f1 f3 f4 f5⟩
  self := fun _ _ _ _ _ st h => wpAny_pyIter_listiter st h
theorem turn_range {P : Program} {w : World} {K : PySem.W.Frag} {tg : Expr} (it : Addr) (lo : Int) (n : Nat) : Turn P w K tg (Itr lo n) [it] it (fun i h => IsRangeIter h it (lo + (i : Nat) * 1) ((n : Int) - (i : Nat)) 1) where
  mem := by simp
  obj := fun i h st b hb => by
    have e : b = it := by simpa using hb
    subst e
    exact ⟨_, st, fun v z => by
      have z' : Data.fields _ = Data.cell v := z
      cases z'⟩
  keep := fun i h h' st k => k it (by simp) _ st
  item := by
    intro X hP hw hK hc i pins s σ H E I hf st hg
    subst hP hw hK
    obtain ⟨f0, f1, f2, f3, f4, f5⟩ := hf it (by simp)
    have W := Walks.range (prog := X.prog) (w := X.w) (I.ok.hd hc) it lo 1 n
    refine W.item i s _ _ hg st fun v h' tk hv st' kk => ?_
    obtain ⟨t, rfl⟩ := hv
    have I1 : Inv X pins σ H { s with heap := h', toks := tk } := I.turned (fun b o hb e => kk b o (by simpa using hb) e) f0 f1 f3 f4 f5
    refine ⟨_, rfl, go_of (s := { s with heap := h', toks := tk }) (n := "range_iterator") st' rfl rfl (by decide) ⟨.int (lo + i), H, I1, ⟨t, ?_⟩, ⟨rfl, rfl⟩, st', fun b hb => (hf b hb).1⟩⟩
    rw [Int.mul_one]
  done := by
    intro X hP hw hK hc i pins s σ H E I hf st hg
    subst hP hw hK
    obtain ⟨f0, f1, f2, f3, f4, f5⟩ := hf it (by simp)
    exact wpAny_pyNext_range_end (I.ok.hd hc) st (by have : n ≤ i := hg; omega) fun h' eb => ⟨rfl, I.turned (t' := s.toks) (fun b o hb e => eb b o hb e) f0 f1 f3 f4 f5⟩
  self := fun _ _ _ _ _ st h => wpAny_pyIter_rangeiter st h
end L2
namespace L2
open PySem PySem.Spec PyProof.Rows
section
variable {X : Cx} {tg : Expr}
def iList (K : PySem.W.Frag) (tl : TE) : TI := fun σ H R => tl σ H fun x H1 => ∃ a, x = .ref a ∧ (∃ xs, SqL K H1 a xs) ∧ R (Itl K a) H1
def iTup (K : PySem.W.Frag) (tl : TE) : TI := fun σ H R => tl σ H fun x H1 => ∃ a, x = .ref a ∧ (∃ xs, SqT K H1 a xs) ∧ R (Itt K a) H1
theorem pi_list {l : Expr} {tl : TE} (hl : PE X l tl) : PI X tg l (iList X.K tl) := by
  intro pins s σ H R I h
  refine thn (hl pins s σ H _ I h) fun v s1 ⟨x, H1, I1, r1, q1⟩ => ?_
  obtain ⟨a, e, ⟨xs, hq⟩, q⟩ := q1
  subst e
  cases r1
  obtain ⟨its, rv, p, hz⟩ := I1.list hq
  refine wpAny_pyIter_list p.isList ?_
  refine ⟨s1.heap.objs.size, [s1.heap.objs.size], _, _, H1, rfl, I1.kept (t' := s1.toks) fun b o e => Heap.get?_push_of_some _ e, turn_list a _, ⟨_, Heap.get?_push_size _ rfl, rfl, rfl⟩, fun b hb => ?_, q⟩
  have e : b = s1.heap.objs.size := by simpa using hb
  subst e
  exact I1.fpOk (Nat.le_refl _) (I1.hok.fresh (Nat.le_refl _))
theorem range_it {pins : List (Addr × Obj)} {σ : St} {H : Hp} {s : Shared} {R : It → Hp → Prop} {E : Value → Shared → Prop} {lo hi : Int} {t u v : Tok} {tk : Nat} (I : Inv X pins σ H s) (h1 : -(2 ^ 62) ≤ lo) (h2 : lo < 2 ^ 62) (h3 : -(2 ^ 62) ≤ hi) (h4 : hi < 2 ^ 62)
    (q : R (Itr lo (hi - lo).toNat) H) : wpAny (model X.prog X.w) X.A (pyIter (.ref s.heap.objs.size)) (PIE X pins σ tg R) E { s with heap := s.heap.push { cls := .type "range", data := .fields #[.int lo t, .int hi u, .int 1 v] }, toks := tk } := by
  refine wpAny_pyIter_range (IsRange.new ..) (small_one h1 h2 h3 h4) ?_
  have I1 : Inv X pins σ H { s with heap := s.heap.push { cls := .type "range", data := .fields #[.int lo t, .int hi u, .int 1 v] }, toks := tk } := I.kept fun b o e => Heap.get?_push_of_some _ e
  refine ⟨(s.heap.push { cls := .type "range", data := .fields #[.int lo t, .int hi u, .int 1 v] }).objs.size, [(s.heap.push { cls := .type "range", data := .fields #[.int lo t, .int hi u, .int 1 v] }).objs.size], _, _, H, rfl,
    I1.kept (t' := tk) fun b o e => Heap.get?_push_of_some _ e, turn_range _ lo (hi - lo).toNat, ?_, fun b hb => ?_, q⟩
  · have e1 : lo + ((0 : Nat) : Int) * 1 = lo := by simp
    have e2 : (((hi - lo).toNat : Nat) : Int) - ((0 : Nat) : Int) = Builtin.Range.rangeSize lo hi 1 := by rw [rangeSize_one]; split <;> omega
    show IsRangeIter _ _ (lo + ((0 : Nat) : Int) * 1) ((((hi - lo).toNat : Nat) : Int) - ((0 : Nat) : Int)) 1
    rw [e1, e2]
    exact Heap.get?_push_size _ rfl
  · have e : b = (s.heap.push { cls := .type "range", data := .fields #[.int lo t, .int hi u, .int 1 v] }).objs.size := by simpa using hb
    subst e
    exact I1.fpOk (Nat.le_refl _) (I1.hok.fresh (Nat.le_refl _))
def iRng1 (ta : TA) : TI := fun σ H R => ta σ H fun vs H1 => ∃ j : Int, vs = [.int j] ∧ -(2 ^ 62) ≤ j ∧ j < 2 ^ 62 ∧ R (Itr 0 j.toNat) H1
def iRng2 (ta : TA) : TI := fun σ H R => ta σ H fun vs H1 => ∃ i j : Int, vs = [.int i, .int j] ∧ (-(2 ^ 62) ≤ i ∧ i < 2 ^ 62 ∧ -(2 ^ 62) ≤ j ∧ j < 2 ^ 62) ∧ R (Itr i (j - i).toNat) H1
theorem pi_range1 {a : Expr} {ta : TA} {p pos : Pos} (hg : Gl X "range") (hm : X.mg "range" = none) (ha : PA X [a] ta) (hs : starEach [a] X.env = [(false, eval a X.env)] := by rfl) : PI X tg (.Call (.Name "range" p) [a] [] pos) (iRng1 ta) := by
  intro pins s σ H R I h
  refine Call_ (ld_blt I hg hm boot_range (PyProof.Rows.callWith_type1 (thn (ha pos pins s σ H _ I h) fun us s1 ⟨vs, H1, I1, r1, q1⟩ => ?_) hs rfl))
  obtain ⟨j, e, q1, q2, q⟩ := q1
  subst e
  cases r1 with
  | cons r rr =>
    cases rr
    obtain ⟨t, rfl⟩ := r
    exact call_range_1 (range_it I1 (by omega) (by omega) q1 q2 (by simpa using q))
theorem pi_range2 {a b : Expr} {ta : TA} {p pos : Pos} (hg : Gl X "range") (hm : X.mg "range" = none) (ha : PA X [a, b] ta) (hs : starEach [a, b] X.env = [(false, eval a X.env), (false, eval b X.env)] := by rfl) (hs2 : starEach [b] X.env = [(false, eval b X.env)] := by rfl) :
    PI X tg (.Call (.Name "range" p) [a, b] [] pos) (iRng2 ta) := by
  intro pins s σ H R I h
  refine Call_ (ld_blt I hg hm boot_range (PyProof.Rows.callWith_type1 (thn (ha pos pins s σ H _ I h) fun us s1 ⟨vs, H1, I1, r1, q1⟩ => ?_) (by rw [hs, hs2]) (by rw [hs2]; rfl)))
  obtain ⟨i, j, e, ⟨q1, q2, q3, q4⟩, q⟩ := q1
  subst e
  cases r1 with
  | cons r rr =>
    cases rr with
    | cons r' rr =>
      cases rr
      obtain ⟨t, rfl⟩ := r
      obtain ⟨t', rfl⟩ := r'
      exact call_range_2 (range_it I1 q1 q2 q3 q4 q)
def tFor (wi : TI) (g : TG) (tb : TS) : TS := fun D σ H => wi σ H fun J H1 => ∃ W : Nat → Nat → St → Hp → Prop, (∃ m, W 0 m σ H1) ∧ ∀ i m σ H, W i m σ H →
  (J.stop i H ∧ D.nx σ H) ∨ (J.go i H ∧ ∃ N : St → Hp → Prop, (∀ σ' H', N σ' H' → ∃ m', m' < m ∧ W (i + 1) m' σ' H') ∧ ∀ x H', J.yld i H x H' → g x σ H' fun σ2 H2 => tb { D with nx := N, ct := N, bk := D.nx } σ2 H2)
def pinsAt (fp : List Addr) (h : Heap) : List (Addr × Obj) := fp.filterMap fun b => (h.get? b).map fun o => (b, o)
theorem mem_pinsAt {fp : List Addr} {h : Heap} {b : Addr} {o : Obj} (hb : b ∈ fp) (e : h.get? b = some o) : (b, o) ∈ pinsAt fp h := List.mem_filterMap.mpr ⟨b, hb, by rw [e]; rfl⟩
theorem of_pinsAt {fp : List Addr} {h : Heap} {p : Addr × Obj} (hp : p ∈ pinsAt fp h) : p.1 ∈ fp ∧ h.get? p.1 = some p.2 := by
  obtain ⟨b, hb, e⟩ := List.mem_filterMap.mp hp
  cases q : h.get? b with
  | none => rw [q] at e; cases e
  | some o =>
    rw [q] at e
    have e' : (b, o) = p := Option.some.inj e
    subst e'
    exact ⟨hb, q⟩
theorem Inv.pinned {pins : List (Addr × Obj)} {σ : St} {H : Hp} {s : Shared} {fp : List Addr} (I : Inv X pins σ H s) (hf : ∀ b ∈ fp, FpOk X pins H b) (ho : ∀ b ∈ fp, ∃ o, s.heap.get? b = some o ∧ ∀ v, o.data ≠ .cell v) : Inv X (pins ++ pinsAt fp s.heap) σ H s :=
  I.pins_of fun p hp => (List.mem_append.mp hp).elim (fun z => I.pin p (List.mem_append_right _ z)) fun z => by
    obtain ⟨hb, e⟩ := of_pinsAt z
    obtain ⟨f0, f1, f2, _⟩ := hf p.1 hb
    obtain ⟨o, e', d⟩ := ho p.1 hb
    rw [e] at e'; cases e'
    exact ⟨e, f0, f1, f2, d⟩
theorem Inv.unpinned {pins pl : List (Addr × Obj)} {σ : St} {H : Hp} {s : Shared} (I : Inv X (pins ++ pl) σ H s) : Inv X pins σ H s := I.pins_of fun p hp => I.pin p (List.mem_append_right _ (List.mem_append_left _ hp))
theorem ps_for {iter : Expr} {body : List Stmt} {wi : TI} {g : TG} {tb : TS} {pos : Pos} (hp : PassesOwn (model X.prog X.w) X.A X.env X.xe) (hc : X.calm = true) (hi : PI X tg iter wi) (hg : PG X tg g) (hb : PSs X body tb)
    (hs : ∀ x, foldedSetIterable iter X.env x = pure x := by intro _; rfl) : PS X (.For tg iter body [] pos) (tFor wi g tb) := by
  intro pins s σ H D I h
  refine wpAny_For (thn (hi pins s σ H _ I h) fun v s1 h1 => thn h1 fun itv s2 h2 => ?_) hs
  obtain ⟨it, fp, tn, J, H2, e, I2, T, st2, f2, W, ⟨m0, w0⟩, turn⟩ := h2
  subst e
  have stat : ∀ {H' : Hp}, (∀ b ∈ fp, H' b = none) → ∀ b ∈ fp, FpOk X pins H' b := fun hn b hb => ⟨hn b hb, (f2 b hb).2⟩
  refine codeAny_forLoop_any (fun n s' => ∃ i σ' H', Inv X pins σ' H' s' ∧ tn i s'.heap ∧ (∀ b ∈ fp, H' b = none) ∧ W i n σ' H') ?_ m0 ⟨0, σ, H2, I2, st2, fun b hb => (f2 b hb).1, w0⟩
  rintro n s3 ⟨i, σ3, H3, I3, st3, fr3, w3⟩
  rcases turn i n σ3 H3 w3 with ⟨stop, qn⟩ | ⟨go, N, hN, step⟩
  · refine wpAny_passesOwn hp (thn (T.done X rfl rfl rfl hc i pins s3 σ3 H3 X.xe I3 (stat fr3) st3 stop) fun r s4 ⟨hr, I4⟩ => ?_)
    subst hr
    exact wpAny_execs_nil ⟨σ3, H3, I4, qn⟩
  · refine wpAny_passesOwn hp (thn (T.item X rfl rfl rfl hc i pins s3 σ3 H3 X.xe I3 (stat fr3) st3 go) fun r s4 ⟨u, hr, h4⟩ => ?_)
    subst hr
    refine wpAny_passesOwn hp (thn h4 fun _ s5 ⟨x, H5, I5, r5, y5, st5, fr5⟩ => ?_)
    have I5' := I5.pinned (stat fr5) (T.obj _ _ st5)
    refine wpAny_passesOwn hp (thn (hg _ s5 σ3 H5 x u _ I5' r5 (step x H5 y5)) fun _ s6 ⟨σ6, H6, I6, q6⟩ => ?_)
    refine wpAny_passesOwn hp (thn (hb _ s6 σ6 H6 _ I6 q6) fun f s7 q7 => ?_)
    have again : ∀ {σ7 : St} {H7 : Hp}, Inv X (pins ++ pinsAt fp s5.heap) σ7 H7 s7 → N σ7 H7 → ∃ m, m < n ∧ ∃ i σ' H', Inv X pins σ' H' s7 ∧ tn i s7.heap ∧ (∀ b ∈ fp, H' b = none) ∧ W i m σ' H' := fun {σ7 H7} I7 n7 => by
      obtain ⟨m', hm, w7⟩ := hN σ7 H7 n7
      refine ⟨m', hm, i + 1, σ7, H7, I7.unpinned, T.keep _ _ _ st5 fun b hb o e => (I7.pin (b, o) (List.mem_append_right _ (List.mem_append_right _ (mem_pinsAt hb e)))).1, fun b hb => ?_, w7⟩
      obtain ⟨o, e, d⟩ := T.obj _ _ st5 b hb
      exact (I7.pin (b, o) (List.mem_append_right _ (List.mem_append_right _ (mem_pinsAt hb e)))).2.1
    cases f with
    | next => obtain ⟨σ7, H7, I7, n7⟩ := q7; exact again I7 n7
    | cont => obtain ⟨σ7, H7, I7, n7⟩ := q7; exact again I7 n7
    | brk => obtain ⟨σ7, H7, I7, q7⟩ := q7; exact ⟨σ7, H7, I7.unpinned, q7⟩
    | ret v => obtain ⟨x7, σ7, H7, I7, r7, q7⟩ := q7; exact ⟨x7, σ7, H7, I7.unpinned, r7, q7⟩
end
theorem for_list {K : PySem.W.Frag} {a : Addr} {xs : List V} {g : TG} {tb : TS} {D : Ends} {σ : St} {H : Hp} (Pv : Nat → St → Hp → Prop) (h0 : Pv 0 σ H) (hl : ∀ i σ H, i ≤ xs.length → Pv i σ H → SqL K H a xs)
    (hs : ∀ i x σ H, xs[i]? = some x → Pv i σ H → g x σ H fun σ2 H2 => tb { D with nx := Pv (i + 1), ct := Pv (i + 1), bk := D.nx } σ2 H2) (hd : ∀ σ H, Pv xs.length σ H → D.nx σ H) :
    ∃ W : Nat → Nat → St → Hp → Prop, (∃ m, W 0 m σ H) ∧ ∀ i m σ H, W i m σ H →
      ((Itl K a).stop i H ∧ D.nx σ H) ∨ ((Itl K a).go i H ∧ ∃ N : St → Hp → Prop, (∀ σ' H', N σ' H' → ∃ m', m' < m ∧ W (i + 1) m' σ' H') ∧ ∀ x H', (Itl K a).yld i H x H' → g x σ H' fun σ2 H2 => tb { D with nx := N, ct := N, bk := D.nx } σ2 H2) := by
  refine ⟨fun i m σ H => m = xs.length - i ∧ i ≤ xs.length ∧ Pv i σ H, ⟨xs.length, by simp, Nat.zero_le _, h0⟩, ?_⟩
  rintro i m σ H ⟨rfl, hi, p⟩
  have q := hl i σ H hi p
  by_cases hlt : i < xs.length
  · refine .inr ⟨⟨xs, xs[i], q, by simp [hlt]⟩, Pv (i + 1), fun σ' H' p' => ⟨xs.length - (i + 1), by omega, rfl, hlt, p'⟩, fun x H' y => ?_⟩
    obtain ⟨e, y⟩ := y
    subst e
    exact hs i x σ _ (y xs q) p
  · have e : i = xs.length := by omega
    subst e
    exact .inl ⟨⟨xs, q, Nat.le_refl _⟩, hd σ H p⟩
theorem for_range {lo : Int} {n : Nat} {g : TG} {tb : TS} {D : Ends} {σ : St} {H : Hp} (Pv : Nat → St → Hp → Prop) (h0 : Pv 0 σ H)
    (hs : ∀ i σ H, i < n → Pv i σ H → g (.int (lo + i)) σ H fun σ2 H2 => tb { D with nx := Pv (i + 1), ct := Pv (i + 1), bk := D.nx } σ2 H2) (hd : ∀ σ H, Pv n σ H → D.nx σ H) :
    ∃ W : Nat → Nat → St → Hp → Prop, (∃ m, W 0 m σ H) ∧ ∀ i m σ H, W i m σ H →
      ((Itr lo n).stop i H ∧ D.nx σ H) ∨ ((Itr lo n).go i H ∧ ∃ N : St → Hp → Prop, (∀ σ' H', N σ' H' → ∃ m', m' < m ∧ W (i + 1) m' σ' H') ∧ ∀ x H', (Itr lo n).yld i H x H' → g x σ H' fun σ2 H2 => tb { D with nx := N, ct := N, bk := D.nx } σ2 H2) := by
  refine ⟨fun i m σ H => m = n - i ∧ i ≤ n ∧ Pv i σ H, ⟨n, by simp, Nat.zero_le _, h0⟩, ?_⟩
  rintro i m σ H ⟨rfl, hi, p⟩
  by_cases hlt : i < n
  · refine .inr ⟨hlt, Pv (i + 1), fun σ' H' p' => ⟨n - (i + 1), by omega, rfl, hlt, p'⟩, fun x H' y => ?_⟩
    obtain ⟨e, y⟩ := y
    subst e y
    exact hs i σ _ hlt p
  · have e : i = n := by omega
    subst e
    exact .inl ⟨Nat.le_refl _, hd σ H p⟩
end L2
namespace L2
open PySem PySem.Spec PyProof.Rows
abbrev R2 := V → V → Hp → VK → Prop
def OpR (X : Cx) (f : Value → Value → Sem Value) (r : R2) : Prop :=
  ∀ (pins : List (Addr × Obj)) (s : Shared) (σ : St) (H : Hp) (x y : V) (v u : Value) (Q : VK), Inv X pins σ H s → RelV x v → RelV y u → r x y H Q →
    wpAny (model X.prog X.w) X.A (f v u) (EP X pins σ Q) X.xe s
def UnR (X : Cx) (f : Value → Sem Value) (r : V → Hp → VK → Prop) : Prop :=
  ∀ (pins : List (Addr × Obj)) (s : Shared) (σ : St) (H : Hp) (x : V) (v : Value) (Q : VK), Inv X pins σ H s → RelV x v → r x H Q →
    wpAny (model X.prog X.w) X.A (f v) (EP X pins σ Q) X.xe s
def CallR (X : Cx) (f : Value) (r : List V → Hp → VK → Prop) : Prop :=
  ∀ (pins : List (Addr × Obj)) (s : Shared) (σ : St) (H : Hp) (xs : List V) (us : List Value) (Q : VK), Inv X pins σ H s → Vals xs us → r xs H Q →
    wpAny (model X.prog X.w) X.A (call f us) (EP X pins σ Q) X.xe s
def tOp (r : R2) (ta tb : TE) : TE := fun σ H Q => ta σ H fun x H1 => tb σ H1 fun y H2 => r x y H2 Q
def tUn (r : V → Hp → VK → Prop) (ta : TE) : TE := fun σ H Q => ta σ H fun x H1 => r x H1 Q
def rI (C : Int → Int → Prop) (g : Int → Int → V) : R2 := fun x y H Q => ∃ i j, x = .int i ∧ y = .int j ∧ C i j ∧ Q (g i j) H
def rI0 (g : Int → Int → V) : R2 := fun x y H Q => ∃ i j, x = .int i ∧ y = .int j ∧ Q (g i j) H
def rU (g : Int → V) : V → Hp → VK → Prop := fun x H Q => ∃ i, x = .int i ∧ Q (g i) H
section
variable {X : Cx} {a b c : Expr} {ta tb tc : TE} {pos : Pos}
theorem binT (ha : PE X a ta) (hb : PE X b tb) {pins : List (Addr × Obj)} {s : Shared} {σ : St} {H : Hp} {R : V → V → Hp → Prop} (I : Inv X pins σ H s)
    (h : ta σ H fun x H1 => tb σ H1 fun y H2 => R x y H2) {Q : Value → Shared → Prop} {f : Value → Value → Sem Value}
    (hf : ∀ v u s2 x y H2, Inv X pins σ H2 s2 → RelV x v → RelV y u → R x y H2 → wpAny (model X.prog X.w) X.A (f v u) Q X.xe s2) :
    wpAny (model X.prog X.w) X.A (eval a X.env) (fun v s₁ => wpAny (model X.prog X.w) X.A (eval b X.env) (fun u s₂ => wpAny (model X.prog X.w) X.A (f v u) Q X.xe s₂) X.xe s₁) X.xe s := by
  refine thn (ha pins s σ H _ I h) fun v s1 ⟨x, H1, I1, r1, q1⟩ => ?_
  refine thn (hb pins s1 σ H1 _ I1 q1) fun u s2 ⟨y, H2, I2, r2, q2⟩ => ?_
  exact hf v u s2 x y H2 I2 r1 r2 q2
theorem pe_op {op : Operator} {r : R2} (ho : OpR X (binaryOp op) r) (ha : PE X a ta) (hb : PE X b tb) : PE X (.BinOp a op b pos) (tOp r ta tb) := by
  intro pins s σ H Q I h
  exact wpAny_BinOp (binT ha hb I h fun v u s2 x y H2 I2 rx ry q => ho pins s2 σ H2 x y v u Q I2 rx ry q)
theorem pe_un {op : UnaryOp} {r : V → Hp → VK → Prop} (ho : UnR X (unaryOp op) r) (ha : PE X a ta) : PE X (.UnaryOp op a pos) (tUn r ta) := by
  intro pins s σ H Q I h
  exact UnaryOp_ (thn (ha pins s σ H _ I h) fun v s1 ⟨x, H1, I1, r1, q1⟩ => ho pins s1 σ H1 x v Q I1 r1 q1)
theorem opI {f : Value → Value → Sem Value} {C : Int → Int → Prop} {g : Int → Int → Int}
    (rule : ∀ (i j : Int) (t u : Tok) (s : Shared) (Q : Value → Shared → Prop) (E : Value → Shared → Prop), C i j → Q (.int (g i j) s.toks) { s with toks := s.toks + 1 } → wpAny (model X.prog X.w) X.A (f (.int i t) (.int j u)) Q E s) :
    OpR X f (rI C fun i j => .int (g i j)) := by
  intro pins s σ H x y v u Q I rx ry h
  obtain ⟨i, j, rfl, rfl, hc, q⟩ := h
  obtain ⟨t, rfl⟩ := rx
  obtain ⟨t', rfl⟩ := ry
  exact rule i j t t' s _ _ hc ⟨.int (g i j), H, I.tok _, ⟨_, rfl⟩, q⟩
theorem opI0 {f : Value → Value → Sem Value} {g : Int → Int → Int}
    (rule : ∀ (i j : Int) (t u : Tok) (s : Shared) (Q : Value → Shared → Prop) (E : Value → Shared → Prop), Q (.int (g i j) s.toks) { s with toks := s.toks + 1 } → wpAny (model X.prog X.w) X.A (f (.int i t) (.int j u)) Q E s) :
    OpR X f (rI0 fun i j => .int (g i j)) := by
  intro pins s σ H x y v u Q I rx ry h
  obtain ⟨i, j, rfl, rfl, q⟩ := h
  obtain ⟨t, rfl⟩ := rx
  obtain ⟨t', rfl⟩ := ry
  exact rule i j t t' s _ _ ⟨.int (g i j), H, I.tok _, ⟨_, rfl⟩, q⟩
theorem opB0 {f : Value → Value → Sem Value} {g : Int → Int → Bool}
    (rule : ∀ (i j : Int) (t u : Tok) (s : Shared) (Q : Value → Shared → Prop) (E : Value → Shared → Prop), Q (.bool (g i j)) s → wpAny (model X.prog X.w) X.A (f (.int i t) (.int j u)) Q E s) :
    OpR X f (rI0 fun i j => .bl (g i j)) := by
  intro pins s σ H x y v u Q I rx ry h
  obtain ⟨i, j, rfl, rfl, q⟩ := h
  obtain ⟨t, rfl⟩ := rx
  obtain ⟨t', rfl⟩ := ry
  exact rule i j t t' s _ _ ⟨.bl (g i j), H, I, rfl, q⟩
def CDiv (i j : Int) : Prop := 0 < j ∧ j < 1073741824
def CPow (i j : Int) : Prop := 0 ≤ j ∧ j ≤ 1000000 ∧ i.natAbs < 2 ^ 64
def CMul (i j : Int) : Prop := (-(2 ^ 64) < i ∧ i < 2 ^ 64) ∨ (-(2 ^ 64) < j ∧ j < 2 ^ 64)
theorem CMul.ok {i j : Int} (h : CMul i j) : IntMulOk i j := by
  rcases h with ⟨h1, h2⟩ | ⟨h1, h2⟩
  · exact .of_left (intBits_le_64 h1 h2)
  · exact .of_right (intBits_le_64 h1 h2)
theorem op_add : OpR X (binaryOp .Add) (rI0 fun i j => .int (i + j)) := opI0 fun _ _ _ _ _ _ _ q => add_int q
theorem op_sub : OpR X (binaryOp .Sub) (rI0 fun i j => .int (i - j)) := opI0 fun _ _ _ _ _ _ _ q => sub_int q
theorem op_mul : OpR X (binaryOp .Mult) (rI CMul fun i j => .int (i * j)) := opI fun _ _ _ _ _ _ _ hc q => mul_int q hc.ok
theorem op_fdiv : OpR X (binaryOp .FloorDiv) (rI CDiv fun i j => .int (i / j)) := opI fun i j _ _ _ _ _ hc q => by
  have h1 : (0 : Int) < j := hc.1
  have h2 : j < 1073741824 := hc.2
  exact floordiv_int (by omega) (by rw [Int.fdiv_eq_ediv_of_nonneg i (by omega)]; exact q) (.inl (PyProof.noPylong_small (by omega)))
theorem op_mod : OpR X (binaryOp .Mod) (rI (fun _ j => 0 < j) fun i j => .int (i % j)) := opI fun i j _ _ _ _ _ hc q => by
  have h1 : (0 : Int) < j := hc
  exact mod_int' (by omega) (by rw [Int.fmod_eq_emod_of_nonneg i (by omega)]; exact q)
theorem op_pow : OpR X (binaryOp .Pow) (rI CPow fun i j => .int (i ^ j.toNat)) := opI fun _ _ _ _ _ _ _ hc q => pow_int_small hc.1 hc.2.1 hc.2.2 q
theorem unI {f : Value → Sem Value} {g : Int → Int}
    (rule : ∀ (i : Int) (t : Tok) (s : Shared) (Q : Value → Shared → Prop) (E : Value → Shared → Prop), Q (.int (g i) s.toks) { s with toks := s.toks + 1 } → wpAny (model X.prog X.w) X.A (f (.int i t)) Q E s) :
    UnR X f (rU fun i => .int (g i)) := by
  intro pins s σ H x v Q I rx h
  obtain ⟨i, rfl, q⟩ := h
  obtain ⟨t, rfl⟩ := rx
  exact rule i t s _ _ ⟨.int (g i), H, I.tok _, ⟨_, rfl⟩, q⟩
theorem un_neg : UnR X (unaryOp .USub) (rU fun i => .int (-i)) := unI fun _ _ _ _ _ q => neg_int q
end
def scal : V → V → Bool
  | .non, .non => true | .non, .int _ => true | .int _, .non => true | .non, .bl _ => true | .bl _, .non => true | .non, .str _ => true | .str _, .non => true
  | .int _, .int _ => true | .bl _, .bl _ => true | .str _, .str _ => true | .byt _, .byt _ => true
  | .int _, .str _ => true | .str _, .int _ => true | .bl _, .str _ => true | .str _, .bl _ => true
  | _, _ => false
def rEq : R2 := fun x y H Q => scal x y = true ∧ Q (.bl (decide (x = y))) H
def rNe : R2 := fun x y H Q => scal x y = true ∧ Q (.bl (!decide (x = y))) H
theorem dec_int {i j : Int} : decide (V.int i = V.int j) = (i == j) := by
  rw [Bool.eq_iff_iff]
  simp
theorem dec_bl {i j : Bool} : decide (V.bl i = V.bl j) = (i == j) := by
  rw [Bool.eq_iff_iff]
  simp
theorem dec_str {i j : Str} : decide (V.str i = V.str j) = (i == j) := by
  rw [Bool.eq_iff_iff]
  simp
theorem dec_byt {i j : Array UInt8} : decide (V.byt i = V.byt j) = (i.toList == j.toList) := by
  rw [Bool.eq_iff_iff]
  cases i
  cases j
  simp
section
variable {X : Cx} {a b c : Expr} {ta tb tc : TE} {pos : Pos}
theorem fin_bl {pins : List (Addr × Obj)} {σ : St} {H : Hp} {s : Shared} {Q : VK} {k k' : Bool} (I : Inv X pins σ H s) (q : Q (.bl k) H) (e : k = k') : EP X pins σ Q (.bool k') s := by
  subst e
  exact ⟨.bl k, H, I, rfl, q⟩
theorem op_eq : OpR X (compareOp .Eq) rEq := by
  intro pins s σ H x y v u Q I rx ry h
  obtain ⟨hs, q⟩ := h
  cases x with
  | non =>
    cases rx
    cases y with
    | non => cases ry; exact PySem.EqNone.eq_none_none (fin_bl I q (by simp))
    | bl j => cases ry; exact PySem.EqNone.eq_none_bool (fin_bl I q (by simp))
    | int j => obtain ⟨t', rfl⟩ := ry; exact PySem.EqNone.eq_none_int (fin_bl I q (by simp))
    | str j => obtain ⟨t', rfl⟩ := ry; exact PySem.EqNone.eq_none_str (fin_bl I q (by simp))
    | _ => exact absurd (show false = true from hs) Bool.false_ne_true
  | bl i =>
    cases rx
    cases y with
    | non => cases ry; exact PySem.EqNone.eq_bool_none (fin_bl I q (by simp))
    | bl j => cases ry; exact eq_bool (fin_bl I q dec_bl)
    | str j => obtain ⟨t', rfl⟩ := ry; exact PySem.EqMixed.eq_bool_str (fin_bl I q (by simp))
    | _ => exact absurd (show false = true from hs) Bool.false_ne_true
  | int i =>
    obtain ⟨t, rfl⟩ := rx
    cases y with
    | non => cases ry; exact PySem.EqNone.eq_int_none (fin_bl I q (by simp))
    | int j => obtain ⟨t', rfl⟩ := ry; exact eq_int (fin_bl I q dec_int)
    | str j => obtain ⟨t', rfl⟩ := ry; exact PySem.EqMixed.eq_int_str (fin_bl I q (by simp))
    | _ => exact absurd (show false = true from hs) Bool.false_ne_true
  | str i =>
    obtain ⟨t, rfl⟩ := rx
    cases y with
    | non => cases ry; exact PySem.EqNone.eq_str_none (fin_bl I q (by simp))
    | bl j => cases ry; exact PySem.EqMixed.eq_str_bool (fin_bl I q (by simp))
    | int j => obtain ⟨t', rfl⟩ := ry; exact PySem.EqMixed.eq_str_int (fin_bl I q (by simp))
    | str j => obtain ⟨t', rfl⟩ := ry; exact eq_str (fin_bl I q dec_str)
    | _ => exact absurd (show false = true from hs) Bool.false_ne_true
  | byt i =>
    obtain ⟨t, rfl⟩ := rx
    cases y with
    | byt j => obtain ⟨t', rfl⟩ := ry; exact PySem.W.eq_bytes (fin_bl I q dec_byt)
    | _ => exact absurd (show false = true from hs) Bool.false_ne_true
  | _ => cases y <;> exact absurd (show false = true from hs) Bool.false_ne_true
theorem op_ne : OpR X (compareOp .NotEq) rNe := by
  intro pins s σ H x y v u Q I rx ry h
  obtain ⟨hs, q⟩ := h
  cases x with
  | non =>
    cases rx
    cases y with
    | non => cases ry; exact PySem.EqNone.ne_none_none (fin_bl I q (by simp))
    | bl j => cases ry; exact PySem.EqNone.ne_none_bool (fin_bl I q (by simp))
    | int j => obtain ⟨t', rfl⟩ := ry; exact PySem.EqNone.ne_none_int (fin_bl I q (by simp))
    | str j => obtain ⟨t', rfl⟩ := ry; exact PySem.EqNone.ne_none_str (fin_bl I q (by simp))
    | _ => exact absurd (show false = true from hs) Bool.false_ne_true
  | bl i =>
    cases rx
    cases y with
    | non => cases ry; exact PySem.EqNone.ne_bool_none (fin_bl I q (by simp))
    | bl j => cases ry; exact ne_bool (fin_bl I q (congrArg not dec_bl))
    | str j => obtain ⟨t', rfl⟩ := ry; exact PySem.EqMixed.ne_bool_str (fin_bl I q (by simp))
    | _ => exact absurd (show false = true from hs) Bool.false_ne_true
  | int i =>
    obtain ⟨t, rfl⟩ := rx
    cases y with
    | non => cases ry; exact PySem.EqNone.ne_int_none (fin_bl I q (by simp))
    | int j => obtain ⟨t', rfl⟩ := ry; exact ne_int (fin_bl I q (congrArg not dec_int))
    | str j => obtain ⟨t', rfl⟩ := ry; exact PySem.EqMixed.ne_int_str (fin_bl I q (by simp))
    | _ => exact absurd (show false = true from hs) Bool.false_ne_true
  | str i =>
    obtain ⟨t, rfl⟩ := rx
    cases y with
    | non => cases ry; exact PySem.EqNone.ne_str_none (fin_bl I q (by simp))
    | bl j => cases ry; exact PySem.EqMixed.ne_str_bool (fin_bl I q (by simp))
    | int j => obtain ⟨t', rfl⟩ := ry; exact PySem.EqMixed.ne_str_int (fin_bl I q (by simp))
    | str j => obtain ⟨t', rfl⟩ := ry; exact ne_str (fin_bl I q (congrArg not dec_str))
    | _ => exact absurd (show false = true from hs) Bool.false_ne_true
  | byt i =>
    obtain ⟨t, rfl⟩ := rx
    cases y with
    | byt j => obtain ⟨t', rfl⟩ := ry; exact PySem.W.ne_bytes (fin_bl I q (congrArg not dec_byt))
    | _ => exact absurd (show false = true from hs) Bool.false_ne_true
  | _ => cases y <;> exact absurd (show false = true from hs) Bool.false_ne_true
theorem op_lt : OpR X (compareOp .Lt) (rI0 fun i j => .bl (decide (i < j))) := opB0 fun _ _ _ _ _ _ _ q => lt_int q
theorem op_le : OpR X (compareOp .LtE) (rI0 fun i j => .bl (decide (i ≤ j))) := opB0 fun _ _ _ _ _ _ _ q => le_int q
theorem op_gt : OpR X (compareOp .Gt) (rI0 fun i j => .bl (decide (j < i))) := opB0 fun _ _ _ _ _ _ _ q => gt_int q
theorem op_ge : OpR X (compareOp .GtE) (rI0 fun i j => .bl (decide (j ≤ i))) := opB0 fun _ _ _ _ _ _ _ q => ge_int q
theorem op_isN : OpR X (compareOp .Is) (fun x y H Q => y = .non ∧ Q (.bl (decide (x = .non))) H) := by
  intro pins s σ H x y v u Q I rx ry h
  obtain ⟨rfl, q⟩ := h
  cases ry
  refine is_none_gen (fin_bl I q ?_)
  cases x <;> first
    | (cases rx; rfl)
    | (obtain ⟨t, rfl⟩ := rx; rfl)
theorem OpR.or {f : Value → Value → Sem Value} {r r' : R2} (h : OpR X f r) (h' : OpR X f r') : OpR X f (fun x y H Q => r x y H Q ∨ r' x y H Q) := by
  intro pins s σ H x y v u Q I rx ry q
  rcases q with q | q
  · exact h pins s σ H x y v u Q I rx ry q
  · exact h' pins s σ H x y v u Q I rx ry q
theorem nomark (b : Expr) {op : CmpOp} (h : op ≠ .In := by decide) (h2 : op ≠ .NotIn := by decide) : behindInMarks op b = false := by
  have e1 : (op == CmpOp.In) = false := by cases op <;> first | rfl | exact absurd rfl h
  have e2 : (op == CmpOp.NotIn) = false := by cases op <;> first | rfl | exact absurd rfl h2
  cases b <;> simp [behindInMarks, e1, e2]
theorem pe_cmpR {op : CmpOp} {r : R2} (ho : OpR X (compareOp op) r) (ha : PE X a ta) (hb : PE X b tb) (hm : behindInMarks op b = false) : PE X (.Compare a [op] [b] pos) (tOp r ta tb) := by
  intro pins s σ H Q I h
  exact wpAny_Compare1 (binT ha hb I h fun v u s2 x y H2 I2 rx ry q => ho pins s2 σ H2 x y v u Q I2 rx ry q) hm
def tTest (t : TE) : TT := fun σ H Q => t σ H fun x H' => ∃ k, x = .bl k ∧ Q k H'
theorem pt_cmpR {op : CmpOp} {r : R2} (ho : OpR X (compareOp op) r) (ha : PE X a ta) (hb : PE X b tb) (hm : behindInMarks op b = false) : PT X (.Compare a [op] [b] pos) (tTest (tOp r ta tb)) := by
  intro pins s σ H Q I h
  refine wpAny_isTrue_Compare1 (thn (ha pins s σ H _ I h) fun v s1 ⟨x, H1, I1, r1, q1⟩ => thn (hb pins s1 σ H1 _ I1 q1) fun u s2 ⟨y, H2, I2, r2, q2⟩ =>
    thn (ho pins s2 σ H2 x y v u _ I2 r1 r2 q2) fun c s3 ⟨z, H3, I3, r3, k, e, q3⟩ => ?_) hm
  subst e
  cases r3
  exact wpAny_truthy_bool ⟨H3, I3, q3⟩
def tChain (r r' : R2) (ta tb tc : TE) : TE := fun σ H Q => ta σ H fun x H1 => tb σ H1 fun y H2 => r x y H2 fun z H3 => ∃ k, z = .bl k ∧
  (if k = true then tc σ H3 fun w' H4 => r' y w' H4 Q else Q (.bl false) H3)
theorem pe_chain {op op' : CmpOp} {r r' : R2} (ho : OpR X (compareOp op) r) (ho' : OpR X (compareOp op') r') (ha : PE X a ta) (hb : PE X b tb) (hc : PE X c tc)
    (hm : lastMarks [op, op'] [b, c] = false := by with_unfolding_all rfl) : PE X (.Compare a [op, op'] [b, c] pos) (tChain r r' ta tb tc) := by
  intro pins s σ H Q I h
  refine Compare_chain (thn (ha pins s σ H _ I h) fun v s1 ⟨x, H1, I1, r1, q1⟩ => chain_link (thn (hb pins s1 σ H1 _ I1 q1) fun u s2 ⟨y, H2, I2, r2, q2⟩ =>
    thn (ho pins s2 σ H2 x y v u _ I2 r1 r2 q2) fun d s3 ⟨z, H3, I3, r3, k, e, q3⟩ => ?_)) hm
  subst e
  cases r3
  refine wpAny_truthy_bool ?_
  cases k with
  | false => exact ite_ff ⟨.bl false, H3, I3, rfl, q3⟩
  | true => exact ite_tt (chain_last (thn (hc pins s3 σ H3 _ I3 q3) fun w' s4 ⟨z', H4, I4, r4, q4⟩ => ho' pins s4 σ H4 y z' u w' Q I4 r2 r4 q4))
theorem pt_chain {op op' : CmpOp} {r r' : R2} (ho : OpR X (compareOp op) r) (ho' : OpR X (compareOp op') r') (ha : PE X a ta) (hb : PE X b tb) (hc : PE X c tc)
    (hm : lastMarks [op, op'] [b, c] = false := by with_unfolding_all rfl) : PT X (.Compare a [op, op'] [b, c] pos) (tTest (tChain r r' ta tb tc)) := by
  intro pins s σ H Q I h
  refine isTrue_chain (thn (ha pins s σ H _ I h) fun v s1 ⟨x, H1, I1, r1, q1⟩ => test_link (thn (hb pins s1 σ H1 _ I1 q1) fun u s2 ⟨y, H2, I2, r2, q2⟩ =>
    thn (ho pins s2 σ H2 x y v u _ I2 r1 r2 q2) fun d s3 ⟨z, H3, I3, r3, k, e, q3⟩ => ?_)) hm
  subst e
  cases r3
  refine wpAny_truthy_bool ?_
  cases k with
  | false =>
    obtain ⟨k', e', q'⟩ := q3
    cases e'
    exact ite_ff ⟨H3, I3, q'⟩
  | true =>
    refine ite_tt (test_last (thn (hc pins s3 σ H3 _ I3 q3) fun w' s4 ⟨z', H4, I4, r4, q4⟩ => thn (ho' pins s4 σ H4 y z' u w' _ I4 r2 r4 q4) fun d' s5 ⟨z2, H5, I5, r5, k2, e2, q5⟩ => ?_))
    subst e2
    cases r5
    exact wpAny_truthy_bool ⟨H5, I5, q5⟩
theorem line63 : (sizeLine : Nat) < 2 ^ 63 := by rw [sizeLine_eq]; decide
theorem vals1 {x : V} {us : List Value} (r : Vals [x] us) : ∃ u, us = [u] ∧ RelV x u := by
  cases r with
  | cons r1 r2 => cases r2; exact ⟨_, rfl, r1⟩
theorem vals2 {x y : V} {us : List Value} (r : Vals [x, y] us) : ∃ u w', us = [u, w'] ∧ RelV x u ∧ RelV y w' := by
  cases r with
  | cons r1 r2 =>
    cases r2 with
    | cons r3 r4 => cases r4; exact ⟨_, _, rfl, r1, r3⟩
theorem call_max2 (hc : X.calm = true) : CallR X (.builtin "max") (fun xs H Q => ∃ i j, xs = [.int i, .int j] ∧ Q (.int (if j > i then j else i)) H) := by
  intro pins s σ H xs us Q I r h
  obtain ⟨i, j, rfl, q⟩ := h
  obtain ⟨u, w', rfl, ⟨t, rfl⟩, ⟨t', rfl⟩⟩ := vals2 r
  refine max_two_ints (I.ok.hd hc) fun h' tk k => ⟨_, H, I.kept k, ?_, q⟩
  by_cases hj : j > i
  · rw [if_pos hj, if_pos hj]; exact ⟨_, rfl⟩
  · rw [if_neg hj, if_neg hj]; exact ⟨_, rfl⟩
theorem call_min2 (hc : X.calm = true) : CallR X (.builtin "min") (fun xs H Q => ∃ i j, xs = [.int i, .int j] ∧ Q (.int (if j < i then j else i)) H) := by
  intro pins s σ H xs us Q I r h
  obtain ⟨i, j, rfl, q⟩ := h
  obtain ⟨u, w', rfl, ⟨t, rfl⟩, ⟨t', rfl⟩⟩ := vals2 r
  refine min_two_ints (I.ok.hd hc) fun h' tk k => ⟨_, H, I.kept k, ?_, q⟩
  by_cases hj : j < i
  · rw [if_pos hj, if_pos hj]; exact ⟨_, rfl⟩
  · rw [if_neg hj, if_neg hj]; exact ⟨_, rfl⟩
theorem call_int1 : CallR X (.type "int") (fun xs H Q => (∃ i, xs = [.int i] ∧ Q (.int i) H) ∨ ∃ k, xs = [.bl k] ∧ Q (.int (if k then 1 else 0)) H) := by
  intro pins s σ H xs us Q I r h
  rcases h with ⟨i, rfl, q⟩ | ⟨k, rfl, q⟩
  · obtain ⟨u, rfl, t, rfl⟩ := vals1 r
    exact call_int_int ⟨.int i, H, I, ⟨_, rfl⟩, q⟩
  · obtain ⟨u, rfl, r1⟩ := vals1 r
    cases r1
    exact call_int_bool ⟨.int (if k then 1 else 0), H, I.tok _, ⟨_, rfl⟩, q⟩
end
end L2
namespace L2
open PySem PySem.Spec PyProof.Rows
structure ObjM (h : Heap) (x dx C : Addr) (mA : Str → Option Value) : Prop where
  obj : h.get? x = some (PySem.W.instObj C dx)
  ns : h.Ns1 dx mA
  ne : dx ≠ x
theorem lookIn_ns {h : Heap} {dx : Addr} {mA : Str → Option Value} (n : h.Ns1 dx mA) : ∃ od, h.get? dx = some od ∧ ∀ name, PySem.W.lookIn name od = some (mA name) := by
  obtain ⟨o, es, ep, ho, hd, hk, _, hm⟩ := n
  refine ⟨o, ho, fun name => ?_⟩
  have e := hm name
  unfold nsFind findBy at e
  rw [← Array.find?_toList] at e
  unfold PySem.W.lookIn
  rw [hd]
  dsimp only
  split
  · rename_i y q
    rw [q] at e
    exact congrArg some e
  · rename_i q
    rw [q] at e
    have a : es.toList.any (·.refKey) = false := by
      rw [List.any_eq_false]
      intro y hy
      obtain ⟨z, t, hkey⟩ := hk y (Array.mem_toList_iff.mp hy)
      simp [DictEntry.refKey, hkey]
    have a' : ¬ es.toList.any (·.refKey) = true := by rw [a]; exact Bool.false_ne_true
    rw [if_neg a']
    exact congrArg some e
theorem ObjM.look {h : Heap} {x dx C : Addr} {mA : Str → Option Value} (I : ObjM h x dx C mA) : ∃ od, PySem.W.InstAt h x (PySem.W.instObj C dx) C (some od) ∧ ∀ name, PySem.W.lookIn name od = some (mA name) :=
  let ⟨od, ho, hl⟩ := lookIn_ns I.ns
  ⟨od, ⟨I.obj, rfl, rfl, ho⟩, hl⟩
section
variable {prog : Program} {w : World} {A : Around} {E : Value → Shared → Prop} {s : Shared} {K : PySem.W.Frag} {x dx C f : Addr} {mA : Str → Option Value} {name : Str} {v : Value}
end
theorem RelO.some_of {v : V} {o : Option Value} (r : RelO (some v) o) : ∃ u, o = some u ∧ RelV v u := by
  cases o with
  | none => exact (show False from r).elim
  | some u => exact ⟨u, rfl, r⟩
section
variable {P : Program} {w : World} {H H' : Hp} {h h' : Heap} {a C dx : Addr} {fs fs' : List (Str × V)}
theorem ins_get (hok : HOk P w H h) (e : H a = some (.ins C dx fs)) : ∃ mA, ObjM h a dx C mA ∧ (∀ f, RelO (fs.lookup f) (mA f)) ∧ PySem.Within mA (fs.map (·.1)) ∧ fs.length ≤ 1000 ∧ H dx = some (.own a) := by
  obtain ⟨d, z, ne, ob, mA, n, r, q⟩ := (show ObjOk P w H h a (.ins C dx fs) from hok a _ e)
  exact ⟨mA, ⟨ob, n, ne⟩, r, q, z, d⟩
end
structure Cls (K : PySem.W.Frag) (C : Addr) : Prop where
  pg : PySem.W.plainGet K C Str.empty = true
  hd : PySem.W.hasDictIn K C = true
  po : PySem.W.plainOver K C = true
  sa : PySem.W.findIn K (.ref C) "__setattr__" = some (some (.builtin "object.__setattr__"))
theorem Cls.get {K : PySem.W.Frag} {C : Addr} (c : Cls K C) (f : Str) : PySem.W.plainGet K C f = true := c.pg
def NoAttr (K : PySem.W.Frag) (C : Addr) (f : Str) : Prop := PySem.W.findIn K (.ref C) f = some none
structure Con (K : PySem.W.Frag) (C : Addr) (f : Str) (v : V) (u : Value) : Prop where
  at_ : PySem.W.findIn K (.ref C) f = some (some u)
  rel : RelV v u
  get : PySem.W.specialIn K u "__get__" = some none
  cp : PySem.W.copiedNames.contains f = false
structure Meth (K : PySem.W.Frag) (C : Addr) (m : Str) (f : Addr) : Prop where
  at_ : PySem.W.findIn K (.ref C) m = some (some (.ref f))
  fn : PySem.W.isFn K (.ref f) = true
  kp : PySem.W.keepIn K (.ref f) = true
section
variable {X : Cx} {pins : List (Addr × Obj)} {σ : St} {H : Hp} {s : Shared} {a C dx : Addr} {fs : List (Str × V)} {f : Str} {v : V} {A : Around} {E : Value → Shared → Prop}
theorem Inv.made (I : Inv X pins σ H s) : Inv X pins σ (upd (upd H s.heap.objs.size (.own (s.heap.objs.size + 1))) (s.heap.objs.size + 1) (.ins C s.heap.objs.size []))
    { s with heap := (s.heap.push PySem.W.emptyDict).push (PySem.W.instObj C s.heap.objs.size) } := by
  have e1 : (s.heap.push PySem.W.emptyDict).get? s.heap.objs.size = some PySem.W.emptyDict := Heap.get?_push_size s.heap rfl
  have e2 : ((s.heap.push PySem.W.emptyDict).push (PySem.W.instObj C s.heap.objs.size)).get? (s.heap.objs.size + 1) = some (PySem.W.instObj C s.heap.objs.size) := by
    have := Heap.get?_push_size (s.heap.push PySem.W.emptyDict) (o := PySem.W.instObj C s.heap.objs.size) rfl
    rwa [Heap.size_push] at this
  have e3 : (s.heap.push PySem.W.emptyDict).Ns s.heap.objs.size (fun _ => none) := ⟨PySem.W.emptyDict, #[], _, e1, rfl, (fun e he => absurd he (by simp)), fun _ => rfl⟩
  have I1 := I.laid (a := s.heap.objs.size) (o := .own (s.heap.objs.size + 1)) (h' := s.heap.push PySem.W.emptyDict) (t' := s.toks) (fun b u q => Heap.get?_push_of_some _ q) (Nat.le_refl _) ⟨_, e1⟩
  refine I1.laid (a := s.heap.objs.size + 1) (o := .ins C s.heap.objs.size []) (t' := s.toks) (fun b u q => Heap.get?_push_of_some _ q) (Nat.le_of_eq (Heap.size_push _ _)) ?_
  have ne : s.heap.objs.size ≠ s.heap.objs.size + 1 := Nat.ne_of_lt (Nat.lt_succ_self _)
  refine ⟨by rw [upd_ne ne, upd_same], Nat.zero_le _, ne, e2, fun _ => none, (Heap.Ns1.of_empty e3).at fun o q => Heap.get?_push_of_some _ q, fun _ => True.intro, fun y hy => absurd rfl hy⟩
end
section
variable {X : Cx} {o e value : Expr} {f : Str} {pos pos' tpos : Pos} {ta tv : TE}
end
section
variable {X : Cx} {pins : List (Addr × Obj)} {σ : St} {H : Hp} {s : Shared} {A : Around} {E : Value → Shared → Prop} {Q : Value → Shared → Prop} {c : Value} {b : Bool}
inductive TyOf (K : PySem.W.Frag) (H : Hp) : V → Value → Prop where
  | non : TyOf K H .non (.type "NoneType")
  | bl (x : Bool) : TyOf K H (.bl x) (.type "bool")
  | int (i : Int) : TyOf K H (.int i) (.type "int")
  | str (x : Str) : TyOf K H (.str x) (.type "str")
  | flt (x : UInt64) : TyOf K H (.flt x) (.type "float")
  | lst {a : Addr} {xs : List V} (e : H a = some (.lst xs)) : TyOf K H (.ref a) (.type "list")
  | frz {a : Addr} {o : Obj} {xs : List V} (e : H a = some (.frz o (.lst xs))) : TyOf K H (.ref a) (.type "list")
  | tup {a : Addr} {xs : List V} (e : H a = some (.tup xs)) : TyOf K H (.ref a) (.type "tuple")
  | dK {a : Addr} {kvs : List (Key × V)} (e : H a = some (.dK kvs)) : TyOf K H (.ref a) (.type "dict")
  | dT {a : Addr} {kvs : List (List Key × V)} (e : H a = some (.dT kvs)) : TyOf K H (.ref a) (.type "dict")
  | ins {a C dx : Addr} {fs : List (Str × V)} (e : H a = some (.ins C dx fs)) (cl : Cls K C) (ha : PySem.W.findIn K (.ref C) "__class__" = some (some (.builtin "object.__class__")))
      (hn : PySem.W.specialIn K (.builtin "object.__class__") "__get__" = some (some (.builtin "getset_descriptor.__get__"))) (htk : PySem.W.takesIn K (.builtin "object.__class__") = some true)
      (hm : PySem.W.mroIn K C (.type "object") = some true) : TyOf K H (.ref a) (.ref C)
theorem isinst_ok {x : V} {u t : Value} (I : Inv X pins σ H s) (rx : RelV x u) (ty : TyOf X.K H x t) (e : PySem.W.kitOne X.K t c = some b) (h : ∀ tk, Q (.bool b) { s with toks := tk }) :
    wpAny (model X.prog X.w) A (call (.builtin "isinstance") [u, c]) Q E s := by
  cases ty with
  | non => cases (show u = Value.none from rx); exact PySem.W.kia_one PySem.W.kitx_none I.kIn True.intro e (fun z => nomatch z) h
  | bl y => cases (show u = Value.bool y from rx); exact PySem.W.kia_one PySem.W.kitx_bool I.kIn True.intro e (fun z => nomatch z) h
  | int i => obtain ⟨t, q⟩ := (show ∃ t, u = Value.int i t from rx); cases q; exact PySem.W.kia_one PySem.W.kitx_int I.kIn True.intro e (fun z => nomatch z) h
  | str y => obtain ⟨t, q⟩ := (show ∃ t, u = Value.str y t from rx); cases q; exact PySem.W.kia_one PySem.W.kitx_str I.kIn True.intro e (fun z => nomatch z) h
  | flt y => obtain ⟨t, q⟩ := (show ∃ t, u = Value.float y t from rx); cases q; exact PySem.W.kia_one PySem.W.kitx_float I.kIn True.intro e (fun z => nomatch z) h
  | @lst a xs ea =>
    cases (show u = Value.ref a from rx)
    obtain ⟨_, _, n, _, h1⟩ := (show ObjOk X.prog X.w H s.heap a (.lst xs) from I.hok a _ ea)
    exact PySem.W.kia_one PySem.W.kitx_list I.kIn ⟨_, h1, rfl⟩ e (fun z => nomatch z) h
  | @frz a ob xs ea =>
    cases (show u = Value.ref a from rx)
    obtain ⟨_, _, _, n, _, h1⟩ := (show ObjOk X.prog X.w H s.heap a (.frz ob (.lst xs)) from I.hok a _ ea)
    exact PySem.W.kia_one PySem.W.kitx_list I.kIn ⟨_, h1, rfl⟩ e (fun z => nomatch z) h
  | @tup a xs ea =>
    cases (show u = Value.ref a from rx)
    obtain ⟨_, _, _, p⟩ := (show ObjOk X.prog X.w H s.heap a (.tup xs) from I.hok a _ ea)
    obtain ⟨o, h1, h2, _⟩ := p
    exact PySem.W.kia_one PySem.W.kitx_tuple I.kIn ⟨o, h1, h2⟩ e (fun z => nomatch z) h
  | @dK a kvs ea =>
    cases (show u = Value.ref a from rx)
    obtain ⟨_, _, vs, _, p⟩ := (show ObjOk X.prog X.w H s.heap a (.dK kvs) from I.hok a _ ea)
    obtain ⟨o, es, ep, h1, h2, _⟩ := p
    exact PySem.W.kia_one PySem.W.kitx_dict I.kIn ⟨o, h1, h2.1⟩ e (fun z => nomatch z) h
  | @dT a kvs ea =>
    cases (show u = Value.ref a from rx)
    obtain ⟨_, _, xs, _, o, es, ep, h1, h2, _⟩ := (show ObjOk X.prog X.w H s.heap a (.dT kvs) from I.hok a _ ea)
    exact PySem.W.kia_one PySem.W.kitx_dict I.kIn ⟨o, h1, h2.1⟩ e (fun z => nomatch z) h
  | @ins a C dx fs ea cl ha hn htk hm =>
    cases (show u = Value.ref a from rx)
    obtain ⟨mA, O, _⟩ := ins_get I.hok ea
    obtain ⟨od, J, _⟩ := O.look
    exact PySem.W.kia_one (PySem.W.kitx_own (cl.get _) cl.hd ha hn htk hm) I.kIn J e (fun z => nomatch z) h
end
end L2
namespace L2
open PySem PySem.Spec PyProof.Rows
structure Room (k : Nat) (A : Around) : Prop where
  hd : A.handled = none
  dp : A.depth + 3 * k + 5 < recursionLimit
  un : A.units + 16 * k + 200 < cLine
theorem Room.mono {j k : Nat} {A : Around} (r : Room k A) (h : j ≤ k) : Room j A := ⟨r.hd, by have := r.dp; omega, by have := r.un; omega⟩
theorem Room.deeper {k : Nat} {A : Around} (r : Room (k + 1) A) (env : Env) : Room k (A.deeper env) :=
  ⟨r.hd, by have := r.dp; show A.depth + 1 + 3 * k + 5 < _; omega, by have := r.un; show A.units + 3 + 16 * k + 200 < _; omega⟩
theorem Room.in1 {k : Nat} {A : Around} (r : Room (k + 1) A) : Room k A.in1 :=
  ⟨r.hd, by have := r.dp; show A.depth + 3 * k + 5 < _; omega, by have := r.un; show A.units + 1 + 16 * k + 200 < _; omega⟩
theorem Room.depth {k : Nat} {A : Around} (r : Room k A) : A.depth < recursionLimit := by have := r.dp; omega
theorem Room.units {k : Nat} {A : Around} (r : Room k A) : A.units + 64 < cLine := by have := r.un; omega
def tNil : TA := fun _ H Q => Q [] H
def tCons (ta : TE) (tr : TA) : TA := fun σ H Q => ta σ H fun x H1 => tr σ H1 fun xs H2 => Q (x :: xs) H2
section
variable {X : Cx} {e : Expr} {es : List Expr} {te : TE} {t : TA} {pos : Pos}
theorem pa_nil : PA X [] tNil := fun _ _ _ _ H Q I h => Calls.spliced_nil ⟨[], H, I, .nil, h⟩
theorem pa_cons (ha : PE X e te) (hr : PA X es t) (hs : starEach (e :: es) X.env = (false, eval e X.env) :: starEach es X.env := by rfl) : PA X (e :: es) (tCons te t) := by
  intro pos pins s σ H Q I h
  rw [hs]
  show wpAny _ _ (spliced ((false, eval e X.env) :: backTo pos (starEach es X.env))) _ _ s
  refine Calls.spliced_cons (thn (ha pins s σ H _ I h) fun u s1 ⟨x, H1, I1, r1, q1⟩ => ?_)
  exact thn (hr pos pins s1 σ H1 _ I1 q1) fun us s2 ⟨xs, H2, I2, r2, q2⟩ => ⟨x :: xs, H2, I2, .cons r1 r2, q2⟩
def tTup (t : TA) : TE := fun σ H Q => t σ H fun xs H1 => xs.length ≤ sizeLine ∧ ∀ p, H1 p = none → Q (.ref p) (upd H1 p (.tup xs))
def tLst (t : TA) : TE := fun σ H Q => t σ H fun xs H1 => xs.length ≤ sizeLine ∧ ∀ p, H1 p = none → Q (.ref p) (upd H1 p (.lst xs))
theorem pe_tup {x1} (h : PA X es t) : PE X (.Tuple es x1 pos) (tTup t) := by
  intro pins s σ H Q I hq
  refine wpAny_Tuple_spliced (thn (h pos pins s σ H _ I hq) fun us s1 ⟨xs, H1, I1, r, z, q⟩ => ⟨by rw [← r.length]; exact z, ?_⟩)
  have hf : H1 s1.heap.objs.size = none := I1.hok.fresh (Nat.le_refl _)
  refine ⟨.ref s1.heap.objs.size, upd H1 s1.heap.objs.size (.tup xs), I1.laid (t' := s1.toks) (fun b u e => Heap.get?_push_of_some _ e) (Nat.le_refl _) ?_, rfl, q _ hf⟩
  exact ⟨z, us, r, ⟨_, Heap.get?_push_size _ rfl, rfl, _, rfl⟩⟩
theorem pe_lst (h : PA X es t) : PE X (.List es pos) (tLst t) := by
  intro pins s σ H Q I hq
  refine wpAny_List_spliced (thn (h pos pins s σ H _ I hq) fun us s1 ⟨xs, H1, I1, r, z, q⟩ => ⟨by rw [← r.length]; exact z, ?_⟩)
  have hf : H1 s1.heap.objs.size = none := I1.hok.fresh (Nat.le_refl _)
  refine ⟨.ref s1.heap.objs.size, upd H1 s1.heap.objs.size (.lst xs), I1.laid (t' := s1.toks) (fun b u e => Heap.get?_push_of_some _ e) (Nat.le_refl _) ?_, rfl, q _ hf⟩
  exact ⟨z, us, 0, r, Heap.get?_push_size _ rfl⟩
end
abbrev Sp := List V → Hp → VK → XK → Prop
abbrev CXT := List Env → Hp → Shared → XK → Value → Shared → Prop
structure Env0 (P : Program) (w : World) (K : PySem.W.Frag) (mg : Str → Option Value) (base : Heap) (A : Around) (outer : List Env) (s : Shared) (H : Hp) : Prop where
  frames : A.frames = some outer
  mod : Mod K mg base
  bs : ∀ b o, base.get? b = some o → s.heap.get? b = some o ∧ H b = none
  bsz : base.objs.size ≤ s.heap.objs.size
  funs : s.heap.FunFrames base outer
  frf : ∀ b ∈ frs outer, H b = none
  hok : HOk P w H s.heap
  bare : AllBare s.gens
def CE (outer : List Env) (P : Program) (w : World) (H : Hp) (s : Shared) (Q : VK) (u : Value) (s' : Shared) : Prop :=
  ∃ v H', s'.os = s.os ∧ AllBare s'.gens ∧ Un (frs outer) [] H H' s.heap s'.heap ∧ HOk P w H' s'.heap ∧ RelV v u ∧ Q v H'
def CR (CX : CXT) (outer : List Env) (P : Program) (w : World) (H : Hp) (s : Shared) (Q : VK) (E : XK) (r : Result) (s' : Shared) : Prop :=
  match r with
  | .ok (.ret u) => CE outer P w H s Q u s'
  | .ok _ => False
  | .error e => CX outer H s E e s'
structure FnOk (P : Program) (w : World) (K : PySem.W.Frag) (mg : Str → Option Value) (base : Heap) (CX : CXT) (k : Nat) (f : Addr) (fd : FuncData) (ps : List Str) (sp : Sp) : Prop where
  len : ∀ vs H Q E, sp vs H Q E → vs.length = ps.length
  run : ∀ (A : Around) (outer : List Env) (s : Shared) (H : Hp) (args : Args) (us : List Value) (vs : List V) (Q : VK) (E : XK), Room k A → Env0 P w K mg base A outer s H → BindsTo s fd args (ps.zip us) → Vals vs us → sp vs H Q E →
    codeAny (model P w) A (.call (.ref f) args) (CR CX outer P w H s Q E) s
theorem FnOk.mono {P : Program} {w : World} {K : PySem.W.Frag} {mg : Str → Option Value} {base : Heap} {CX : CXT} {j k : Nat} {f : Addr} {fd : FuncData} {ps : List Str} {sp : Sp} (F : FnOk P w K mg base CX j f fd ps sp) (h : j ≤ k) :
    FnOk P w K mg base CX k f fd ps sp := ⟨F.len, fun A outer s H args us vs Q E hr => F.run A outer s H args us vs Q E (hr.mono h)⟩
theorem FnOk.imp {P : Program} {w : World} {K : PySem.W.Frag} {mg : Str → Option Value} {base : Heap} {CX : CXT} {k : Nat} {f : Addr} {fd : FuncData} {ps : List Str} {sp sp' : Sp} (F : FnOk P w K mg base CX k f fd ps sp)
    (h : ∀ vs H Q E, sp' vs H Q E → sp vs H Q E) : FnOk P w K mg base CX k f fd ps sp' :=
  ⟨fun vs H Q E q => F.len vs H Q E (h _ _ _ _ q), fun A outer s H args us vs Q E hr he hb hv hs => F.run A outer s H args us vs Q E hr he hb hv (h _ _ _ _ hs)⟩
theorem Env0.in1 {P : Program} {w : World} {K : PySem.W.Frag} {mg : Str → Option Value} {base : Heap} {A : Around} {outer : List Env} {s : Shared} {H : Hp} (e : Env0 P w K mg base A outer s H) :
    Env0 P w K mg base A.in1 outer s H := ⟨e.frames, e.mod, e.bs, e.bsz, e.funs, e.frf, e.hok, e.bare⟩
section
variable {X : Cx} {pins : List (Addr × Obj)} {σ : St} {H : Hp} {s s' : Shared}
theorem Inv.env0 (I : Inv X pins σ H s) : Env0 X.prog X.w X.K X.mg X.base X.A X.stack s H :=
  ⟨I.ok.frames, I.ok.mod, I.bs, Nat.le_trans I.ok.bsz I.sz, I.stack, I.stkFree, I.hok, I.bare⟩
theorem Inv.after {Q : VK} {u : Value} (I : Inv X pins σ H s) (h : CE X.stack X.prog X.w H s Q u s') : EP X pins σ Q u s' := by
  obtain ⟨v, H', os, bare, un, hok, r, q⟩ := h
  obtain ⟨hh, g, d, t, os'⟩ := s'
  obtain rfl : os' = s.os := os
  exact ⟨v, H', I.call (h' := hh) (g' := g) (d' := d) (t' := t) (ch := []) un hok bare (fun b z => absurd z (by simp)), r, q⟩
end
def tCall (sp : Sp) (dvs : List V) (E : XK) (t : TA) : TE := fun σ H Q => t σ H fun vs H1 => sp (vs ++ dvs) H1 Q E
def Binds (K : PySem.W.Frag) (fd : FuncData) (ps : List Str) (ds : List Value) : Prop :=
  ∀ (s : Shared) (us : List Value), K.In s.heap → (us ++ ds).length = ps.length → BindsTo s fd ⟨us, []⟩ (ps.zip (us ++ ds))
theorem Binds.all {K : PySem.W.Frag} {fd : FuncData} {ps : List Str} (h : ∀ us : List Value, us.length = ps.length → bindArgs fd ⟨us, []⟩ = pure (ps.zip us)) : Binds K fd ps [] := fun s us _ hl => by
  rw [List.append_nil] at hl ⊢
  exact .of_eq (h us hl)
def Passes (CX : CXT) (X : Cx) (E : XK) : Prop := ∀ (pins : List (Addr × Obj)) (σ : St) (H : Hp) (s : Shared) (e : Value) (s' : Shared), Inv X pins σ H s → CX X.stack H s E e s' → X.xe e s'
section
variable {X : Cx} {CX : CXT} {k : Nat} {f C : Addr} {fd : FuncData} {ps : List Str} {sp : Sp} {dvs : List V} {ds : List Value} {E : XK} {x m : Str} {p pos apos : Pos} {e o : Expr} {es : List Expr} {ta : TE} {t : TA}
theorem run_fn {pins : List (Addr × Obj)} {σ : St} {H : Hp} {s : Shared} {Q : VK} {us : List Value} {vs : List V} (F : FnOk X.prog X.w X.K X.mg X.base CX k f fd ps sp) (hr : Room k X.A) (hb : Binds X.K fd ps ds) (hd : Vals dvs ds) (hx : Passes CX X E)
    (I : Inv X pins σ H s) (r : Vals vs us) (h : sp (vs ++ dvs) H Q E) : wpAny (model X.prog X.w) X.A (call (.ref f) us) (EP X pins σ Q) X.xe s := by
  have r2 : Vals (vs ++ dvs) (us ++ ds) := r.append hd
  have hl : (us ++ ds).length = ps.length := by rw [← r2.length]; exact F.len _ _ _ _ h
  refine wpAny_call (codeAny_mono (F.run X.A X.stack s H ⟨us, []⟩ (us ++ ds) (vs ++ dvs) Q E hr I.env0 (hb s us I.kIn hl) r2 h) fun r s' hq => ?_)
  cases r with
  | error e => exact hx pins σ H s e s' I hq
  | ok fl =>
    cases fl with
    | ret u => exact I.after hq
    | next => exact False.elim hq
    | brk => exact False.elim hq
    | cont => exact False.elim hq
theorem pe_call (F : FnOk X.prog X.w X.K X.mg X.base CX k f fd ps sp) (hr : Room k X.A) (hg : Gl X x) (hm : X.mg x = some (.ref f)) (hk : PySem.W.keepIn X.K (.ref f) = true) (hb : Binds X.K fd ps ds) (hd : Vals dvs ds) (hx : Passes CX X E)
    (ha : PA X (e :: es) t) (hdb : (x == ("__debug__" : Str)) = false := by decide) (he : starEach (e :: es) X.env = (false, eval e X.env) :: starEach es X.env := by rfl) (hpl : (backTo pos (starEach es X.env)).any (·.1) = false := by rfl) :
    PE X (.Call (.Name x p) (e :: es) [] pos) (tCall sp dvs E t) := by
  intro pins s σ H Q I h
  refine wpAny_Call_Name_kw (ld_glob I hg hm ?_ hdb)
  refine PySem.W.callWith_K (h₀ := X.base) I.ok.mod.kin hk (thn (ha pos pins s σ H _ I h) fun us s1 ⟨vs, H1, I1, r, q⟩ => ⟨I1.kIn, ?_⟩) he hpl
  exact run_fn F hr hb hd hx I1 r q
structure Mk (K : PySem.W.Frag) (C f : Addr) : Prop where
  makes : PySem.W.makesIn K C = true
  init : PySem.W.findIn K (.ref C) "__init__" = some (some (.ref f))
  fn : PySem.W.isFn K (.ref f) = true
  kp : PySem.W.keepIn K (.ref C) = true
end
section
variable {X : Cx} {CX : CXT} {k : Nat} {f C : Addr} {fd : FuncData} {ps ks : List Str} {sp : Sp} {E : XK} {x m : Str} {p pos apos kpos : Pos} {e o : Expr} {es : List Expr} {kws : List Keyword} {te ta : TE} {t tk : TA} {nm : Option Str}
structure KBinds (K : PySem.W.Frag) (fd : FuncData) (ps ks : List Str) (g : List Value → List Value → List Value) (gV : List V → List V → List V) : Prop where
  to : ∀ (s : Shared) (us ws : List Value), K.In s.heap → (g us ws).length = ps.length → BindsTo s fd ⟨us, ks.zip ws⟩ (ps.zip (g us ws))
  rel : ∀ {vs : List V} {us : List Value} {zs : List V} {ws : List Value}, Vals vs us → Vals zs ws → Vals (gV vs zs) (g us ws)
variable {g : List Value → List Value → List Value} {gV : List V → List V → List V}
end
structure FnScope (N P : List Str) (sc : Scope) : Prop where
  kind : sc.kind = .function
  co : sc.isCoroutine = false
  gen : sc.isGenerator = false
  nd : N.Nodup
  pre : N.take P.length = P
  par : ∀ x ∈ P, sc.names.lookup x = some .local ∨ sc.names.lookup x = some .cell
  nofree : ∀ y ∈ sc.names, y.2 ≠ .free
theorem bindL_out {kindOf : Str → Option NameKind} {x : Str} : ∀ {binds : List (Str × Value)} {m : Str → Option Value}, (∀ v, (x, v) ∉ binds) → bindL kindOf binds m x = m x
  | [], _, _ => rfl
  | (n, v) :: r, m, h => by
    unfold bindL
    rw [bindL_out fun w hw => h w (List.mem_cons_of_mem _ hw)]
    split
    · have : x ≠ n := by rintro rfl; exact h v List.mem_cons_self
      simp [this]
    · rfl
theorem bindC_out {kindOf : Str → Option NameKind} {x : Str} : ∀ {binds : List (Str × Value)} {m : Str → Option Value}, (∀ v, (x, v) ∉ binds) → bindC kindOf binds m x = m x
  | [], _, _ => rfl
  | (n, v) :: r, m, h => by
    unfold bindC
    rw [bindC_out fun w hw => h w (List.mem_cons_of_mem _ hw)]
    split
    · rfl
    · have : x ≠ n := by rintro rfl; exact h v List.mem_cons_self
      simp [this]
theorem bindL_get {kindOf : Str → Option NameKind} {x : Str} {v : Value} : ∀ {P : List Str} {vs : List Value} {i : Nat} {m : Str → Option Value}, P.Nodup → P[i]? = some x → vs[i]? = some v → kindOf x = some .local →
    bindL kindOf (P.zip vs) m x = some v
  | [], _, _, _, _, h, _, _ => by simp at h
  | _ :: _, [], _, _, _, _, h, _ => by simp at h
  | p :: P, w :: vs, 0, m, nd, h1, h2, hk => by
    simp at h1 h2; subst h1; subst h2
    show bindL kindOf ((p, w) :: P.zip vs) m p = _
    unfold bindL
    rw [bindL_out fun v hv => (List.nodup_cons.mp nd).1 (List.of_mem_zip hv).1, if_pos hk]
    simp
  | p :: P, w :: vs, i + 1, m, nd, h1, h2, hk => by
    show bindL kindOf ((p, w) :: P.zip vs) m x = _
    unfold bindL
    exact bindL_get (i := i) (List.nodup_cons.mp nd).2 (by simpa using h1) (by simpa using h2) hk
theorem bindC_get {kindOf : Str → Option NameKind} {x : Str} {v : Value} : ∀ {P : List Str} {vs : List Value} {i : Nat} {m : Str → Option Value}, P.Nodup → P[i]? = some x → vs[i]? = some v → kindOf x ≠ some .local →
    bindC kindOf (P.zip vs) m x = some v
  | [], _, _, _, _, h, _, _ => by simp at h
  | _ :: _, [], _, _, _, _, h, _ => by simp at h
  | p :: P, w :: vs, 0, m, nd, h1, h2, hk => by
    simp at h1 h2; subst h1; subst h2
    show bindC kindOf ((p, w) :: P.zip vs) m p = _
    unfold bindC
    rw [bindC_out fun v hv => (List.nodup_cons.mp nd).1 (List.of_mem_zip hv).1, if_neg hk]
    simp
  | p :: P, w :: vs, i + 1, m, nd, h1, h2, hk => by
    show bindC kindOf ((p, w) :: P.zip vs) m x = _
    unfold bindC
    exact bindC_get (i := i) (List.nodup_cons.mp nd).2 (by simpa using h1) (by simpa using h2) hk
def start (N : List Str) (vs : List V) : St := vs.map some ++ List.replicate (N.length - vs.length) none
def cxOf (CX : CXT) (P : Program) (w : World) (K : PySem.W.Frag) (mg : Str → Option Value) (base : Heap) (N : List Str) (qual : Str) (scope : Scope) (f : Addr) (cd : Value) (A : Around) (outer : List Env) (s : Shared) (H : Hp) (E : XK) : Cx where
  prog := P
  w := w
  K := K
  mg := mg
  base := base
  A := A.deeper (envOfC qual scope s.heap.objs.size f cd)
  N := N
  s_0 := s
  H_0 := H
  env := envOfC qual scope s.heap.objs.size f cd
  outer := outer
  stack := envOfC qual scope s.heap.objs.size f cd :: outer
  ex := []
  calm := true
  fn := fun _ => true
  pn := []
  xe := fun e s' => wpAny (model P w) (A.deeper (envOfC qual scope s.heap.objs.size f cd)) (leaving (envOfC qual scope s.heap.objs.size f cd) e) (fun _ s'' => CX outer H s E e s'') (fun e' s'' => CX outer H s E e' s'') s'
theorem cell_has {sc : Scope} {n : Nat} {x : Str} (h : sc.names.lookup x = some .cell) : ∃ c, (cellsFrom n sc.names []).lookup x = some c := by
  have q := PySem.W.cellsFrom_some sc.names n [] (.inl h)
  exact Option.isSome_iff_exists.mp q
theorem inv_start {CX : CXT} {P : Program} {w : World} {K : PySem.W.Frag} {mg : Str → Option Value} {base : Heap} {N ps : List Str} {qual : Str} {scope : Scope} {f : Addr} {cd : Value} {A : Around} {outer : List Env} {s s1 : Shared} {H : Hp} {E : XK} {us : List Value} {vs : List V}
    (S : FnScope N ps scope) (hd : A.handled = none) (e0 : Env0 P w K mg base A outer s H) (hl : vs.length = ps.length) (r : Vals vs us)
    (x : InCallC s s.heap.objs.size (bindL (envOfC qual scope s.heap.objs.size f cd).kindOf (ps.zip us) fun _ => none) (cellsFrom (s.heap.objs.size + 1) scope.names []) (bindC (envOfC qual scope s.heap.objs.size f cd).kindOf (ps.zip us) fun _ => none) s1) :
    Inv (cxOf CX P w K mg base N qual scope f cd A outer s H E) [] (start N vs) H s1 := by
  have hpl : ps.length ≤ N.length := by have := congrArg List.length S.pre; rw [List.length_take] at this; omega
  obtain ⟨h1, tk, rfl, hk⟩ := x.done
  have noA : ∀ b : Addr, b ∉ (cxOf CX P w K mg base N qual scope f cd A outer s H E).ex := fun b z => absurd (show b ∈ ([] : List Addr) from z) (by simp)
  refine ⟨⟨e0.mod, S.kind, rfl, rfl, Nat.le_refl _, fun y z c h1 h2 => ?_, fun y hy => ?_, fun y c _ h => ?_, fun _ => hd, Around.frames_deeper e0.frames, .inr ⟨rfl, rfl⟩, fun b z => absurd z (noA b), e0.bs, e0.bsz, fun b _ _ => noA b, fun b z => absurd z (noA b), e0.funs, e0.frf⟩,
    rfl, e0.bare, Un.kept hk, ⟨_, x.toInCall.ns, fun i y v h1 h2 h3 => ?_⟩, fun y c h => ⟨_, x.cell y c h⟩, e0.hok.fresh (Nat.le_refl _), fun y c h => ?_, fun p hp => absurd (show p ∈ ([] : List (Addr × Obj)) from hp) (by simp), e0.hok.kept hk, ?_⟩
  · exact name_of_addr x.apart (PySem.mem_of_lookup h1) (PySem.mem_of_lookup h2)
  · have hy : scope.names.lookup y = some .cell ∨ scope.names.lookup y = some .free := hy
    rcases hy with hy | hy
    · exact cell_has hy
    · exact absurd rfl (S.nofree _ (PySem.mem_of_lookup hy))
  · exact Nat.le_of_lt (x.above y c (PySem.mem_of_lookup h))
  · have hi : i < vs.length := by
      unfold start at h2
      by_cases hi : i < vs.length
      · exact hi
      · rw [List.getElem?_append_right (by simpa using hi)] at h2
        rw [List.getElem?_replicate] at h2
        split at h2 <;> cases h2
    have ha : vs[i]? = some v := by
      unfold start at h2
      rw [List.getElem?_append_left (by simpa using hi), List.getElem?_map] at h2
      cases e : vs[i]? with
      | none => rw [e] at h2; cases h2
      | some a => rw [e] at h2; cases h2; rfl
    obtain ⟨u, hu, rv⟩ := r.get ha
    have hp : ps[i]? = some y := by
      rw [← S.pre, List.getElem?_take_of_lt (by omega)]; exact h1
    have ndP : ps.Nodup := by rw [← S.pre]; exact S.nd.sublist (List.take_sublist _ _)
    refine ⟨u, rv, ?_⟩
    rcases S.par y (List.mem_of_getElem? hp) with k | k
    · exact .inl ⟨k, bindL_get ndP hp hu k⟩
    · obtain ⟨c, e⟩ := cell_has (n := s.heap.objs.size + 1) k
      refine .inr ⟨.inl k, c, e, ?_⟩
      have q := x.cell y c e
      rw [bindC_get ndP hp hu (by show scope.names.lookup y ≠ _; rw [k]; decide)] at q
      exact q
  · exact e0.hok.fresh (Nat.le_of_lt (x.above y c (PySem.mem_of_lookup h)))
  · unfold start
    show _ = N.length
    rw [List.length_append, List.length_map, List.length_replicate]
    omega
theorem fn_of {CX : CXT} {P : Program} {w : World} {K : PySem.W.Frag} {mg : Str → Option Value} {base : Heap} {k : Nat} {f : Addr} {name qual : Str} {params : Arguments} {body : List Stmt} {scope : Scope} {dV kV doc pm cdv ct oc : Value} {an od : Option Addr}
    {osl : Array (Option Value)} {N ps : List Str} {sp : Sp} (lk : K.lookup f = some ⟨oc, od, .func (PySem.W.fnOf name qual params body scope dV kV doc pm an cdv ct), osl⟩) (hcd : PySem.W.codeIn K cdv qual = true) (S : FnScope N ps scope)
    (len : ∀ vs H Q E, sp vs H Q E → vs.length = ps.length)
    (hbody : ∀ (A : Around) (outer : List Env) (s : Shared) (H : Hp) (vs : List V) (Q : VK) (E : XK), Room k (A.deeper (envOfC qual scope s.heap.objs.size f cdv)) → sp vs H Q E →
      ∃ t, PSs (cxOf CX P w K mg base N qual scope f cdv A outer s H E) body t ∧ t { nx := fun _ H' => Q .non H', rt := Q } (start N vs) H) :
    FnOk P w K mg base CX (k + 1) f (PySem.W.fnOf name qual params body scope dV kV doc pm an cdv ct) ps sp := by
  refine ⟨len, fun A outer s H args us vs Q E hr e0 hb r hsp => ?_⟩
  have hl := len _ _ _ _ hsp
  have KX : K.In s.heap := e0.mod.kin.keeps fun b o e => (e0.bs b o e).1
  have lim : s.heap.NoLimit := e0.mod.nolimit.keeps fun b o e => (e0.bs b o e).1
  have hkind : ∀ y ∈ ps.zip us, scope.names.lookup y.1 = some .local ∨ (scope.names.lookup y.1 = some .cell ∧ ((cellsFrom (s.heap.objs.size + 1) scope.names []).lookup y.1).isSome = true) := fun ⟨n, v⟩ hy => by
    rcases S.par n (List.of_mem_zip hy).1 with q | q
    · exact .inl q
    · exact .inr ⟨q, PySem.W.cellsFrom_some _ _ _ (.inl q)⟩
  refine codeAny_call_function hr.depth (KX _ _ lk) rfl S.co S.gen rfl (PySem.W.codeRec_of KX hcd) (hb _ _ _ _ ?_)
  refine wpAny_newFunctionEnv_cells S.kind hkind fun env he s1 x => ?_
  subst he
  refine ⟨lim.keeps x.toInCall.keep, codeAny_func ?_⟩
  obtain ⟨t, ht, hq⟩ := hbody A outer s H vs Q E (hr.deeper _) hsp
  have I : Inv (cxOf CX P w K mg base N qual scope f cdv A outer s H E) [] (start N vs) H s1 := inv_start S hr.hd e0 hl r x
  refine wpAny_mono (ht [] s1 (start N vs) H _ I hq) (fun fl s' hs => ?_) fun e s' hs => hs
  have fin : ∀ {σ' : St} {H' : Hp} {v : V} {u : Value}, Inv (cxOf CX P w K mg base N qual scope f cdv A outer s H E) [] σ' H' s' → RelV v u → Q v H' → CE outer P w H s Q u s' :=
    fun {σ' H' v u} J rv q => ⟨v, H', J.os, J.bare, J.base, J.hok, rv, q⟩
  cases fl with
  | ret u =>
    obtain ⟨v, σ', H', J, rv, q⟩ := hs
    exact fin J rv q
  | next =>
    obtain ⟨σ', H', J, q⟩ := hs
    exact fin (v := V.non) (u := Value.none) J rfl q
  | brk =>
    obtain ⟨_, _, _, q⟩ := hs
    exact False.elim q
  | cont =>
    obtain ⟨_, _, _, q⟩ := hs
    exact False.elim q
end L2
namespace L2
open PySem PySem.Spec PyProof.Rows
section
variable {X : Cx} {x : Str} {p pos : Pos} {e : Expr} {es : List Expr} {t : TA} {id T : String} {r : List V → Hp → VK → Prop}
def tCB (r : List V → Hp → VK → Prop) (t : TA) : TE := fun σ H Q => t σ H fun vs H1 => r vs H1 Q
theorem pe_callB (hc : CallR X (.builtin id) r) (hg : Gl X x) (hm : X.mg x = none) (hv : bootBuiltins x = some (.builtin id)) (ha : PA X (e :: es) t) (hn : x ≠ "__name__" := by decide) (hdb : (x == ("__debug__" : Str)) = false := by decide)
    (he : starEach (e :: es) X.env = (false, eval e X.env) :: starEach es X.env := by rfl) (hpl : (backTo pos (starEach es X.env)).any (·.1) = false := by rfl) : PE X (.Call (.Name x p) (e :: es) [] pos) (tCB r t) := by
  intro pins s σ H Q I h
  refine wpAny_Call_Name_kw (ld_blt I hg hm hv ?_ hn hdb)
  exact PyProof.Rows.callWith_builtin1 (thn (ha pos pins s σ H _ I h) fun us s1 ⟨vs, H1, I1, r1, q1⟩ => hc pins s1 σ H1 vs us Q I1 r1 q1) he hpl
theorem pe_callTy (hc : CallR X (.type T) r) (hg : Gl X x) (hm : X.mg x = none) (hv : bootBuiltins x = some (.type T)) (ha : PA X (e :: es) t) (hn : x ≠ "__name__" := by decide) (hdb : (x == ("__debug__" : Str)) = false := by decide)
    (he : starEach (e :: es) X.env = (false, eval e X.env) :: starEach es X.env := by rfl) (hpl : (backTo pos (starEach es X.env)).any (·.1) = false := by rfl) : PE X (.Call (.Name x p) (e :: es) [] pos) (tCB r t) := by
  intro pins s σ H Q I h
  refine wpAny_Call_Name_kw (ld_blt I hg hm hv ?_ hn hdb)
  exact PyProof.Rows.callWith_type1 (thn (ha pos pins s σ H _ I h) fun us s1 ⟨vs, H1, I1, r1, q1⟩ => hc pins s1 σ H1 vs us Q I1 r1 q1) he hpl
end
end L2
namespace HT
open PySem PyProof.Rows
def lexLt : List Int → List Int → Bool
  | [], [] => false
  | [], _ :: _ => true
  | _ :: _, [] => false
  | x :: xs, y :: ys => if x = y then lexLt xs ys else decide (x < y)
theorem lexLt_cons (x y : Int) (xs ys : List Int) : lexLt (x :: xs) (y :: ys) = if x = y then lexLt xs ys else decide (x < y) := rfl
theorem lexLt_nil_nil : lexLt [] [] = false := rfl
theorem lexLt_nil_cons (y : Int) (ys : List Int) : lexLt [] (y :: ys) = true := rfl
theorem eqAt_int (A : Around) (s : Shared) (a : Int) (t : Tok) (c : Int) (u : Tok) : ∃ e, SeqAt.EqAt A s (.int a t) (.int c u) e ∧ (e = true ↔ a = c) :=
  ⟨(a == c), SeqAt.EqAt.int_int a t c u, by simp⟩
theorem rcLt_int (A : Around) (s : Shared) (a : Int) (t : Tok) (c : Int) (u : Tok) (prog : Program) (w : World) (E : Value → Shared → Prop) (Q : Value → Shared → Prop) (h : Q (.bool (decide (a < c))) s) :
    wpAny (model prog w) A (richCompare .Lt (.int a t) (.int c u)) Q E s :=
  (PyProof.Rows.lt_int h : wpAny (model prog w) A (compareOp .Lt (.int a t) (.int c u)) Q E s)
section
open PySem.SeqAt
open PySem.AutoSeq1 (wpAny_loadPart')
open PySem.MeetsSeq PySem.MeetsSeq2 PySem.MeetsSeq3
end
section
variable {prog : Program} {w : World} {A : Around} {E : Value → Shared → Prop} {s : Shared}
def sIx (n d : Nat) : Option Int → Nat
  | none => d
  | some v => if v < 0 then (v + (n : Int)).toNat else min v.toNat n
end
end HT
namespace L2
open PySem PySem.Spec PyProof.Rows
abbrev TO := St → Hp → (Option Int → Hp → Prop) → Prop
def PO (X : Cx) (e : Option Expr) (t : TO) : Prop :=
  ∀ (pins : List (Addr × Obj)) (s : Shared) (σ : St) (H : Hp) (Q : Option Int → Hp → Prop), Inv X pins σ H s → t σ H Q →
    wpAny (model X.prog X.w) X.A (evalPart e X.env) (fun u s' => ∃ o H', Inv X pins σ H' s' ∧ IsPart u o ∧ Q o H') X.xe s
def tNoPart : TO := fun _ H Q => Q none H
def tPart (t : TE) : TO := fun σ H Q => t σ H fun x H1 => ∃ i, x = .int i ∧ Q (some i) H1
theorem intsAre_of {ns : List Int} : ∀ {us : List Value}, Vals (ns.map V.int) us → IntsAre us ns := by
  induction ns with
  | nil => intro us r; rw [List.map_nil] at r; cases r; exact .nil
  | cons n ns ih =>
    intro us r
    rw [List.map_cons] at r
    cases r with
    | cons r1 r2 =>
      obtain ⟨t, e⟩ := r1
      subst e
      exact .cons n t (ih r2)
section
variable {X : Cx} {e : Expr} {te : TE} {lo hi : Option Expr} {tl th : TO} {pos p2 : Pos}
theorem po_none : PO X none tNoPart := by
  intro pins s σ H Q I h
  rw [evalPart_none]
  exact wpAny_pure ⟨none, H, I, .none, h⟩
theorem po_some (h : PE X e te) : PO X (some e) (tPart te) := by
  intro pins s σ H Q I hw
  rw [evalPart_some]
  refine thn (h pins s σ H _ I hw) fun u s1 ⟨x, H1, I1, r1, q1⟩ => ?_
  obtain ⟨i, rfl, q⟩ := q1
  obtain ⟨t, rfl⟩ := r1
  exact ⟨some i, H1, I1, .int i t, q⟩
def SlR (X : Cx) (r : V → Option Int → Option Int → Hp → VK → Prop) : Prop :=
  ∀ (pins : List (Addr × Obj)) (s : Shared) (σ : St) (H : Hp) (x : V) (v vl vu : Value) (lo hi : Option Int) (sl : Addr) (Q : VK), Inv X pins σ H s → RelV x v → s.heap.IsSliceOf sl vl vu .none → IsPart vl lo → IsPart vu hi → r x lo hi H Q →
    ∃ T id, typeLookup (.type T) "__getitem__" = pure (some (.builtin id)) ∧ s.TypeIs v T ∧ wpAny (model X.prog X.w) X.A (getItem v (.ref sl)) (EP X pins σ Q) X.xe s
theorem SlR.or {r r' : V → Option Int → Option Int → Hp → VK → Prop} (h : SlR X r) (h' : SlR X r') : SlR X (fun x lo hi H Q => r x lo hi H Q ∨ r' x lo hi H Q) := by
  intro pins s σ H x v vl vu lo hi sl Q I rx hs pl pu q
  rcases q with q | q
  · exact h pins s σ H x v vl vu lo hi sl Q I rx hs pl pu q
  · exact h' pins s σ H x v vl vu lo hi sl Q I rx hs pl pu q
def tSl (r : V → Option Int → Option Int → Hp → VK → Prop) (te : TE) (tl th : TO) : TE := fun σ H Q => te σ H fun x H1 => tl σ H1 fun l H2 => th σ H2 fun u H3 => r x l u H3 Q
theorem pe_slice {r : V → Option Int → Option Int → Hp → VK → Prop} (hr : SlR X r) (he : PE X e te) (hl : PO X lo tl) (hu : PO X hi th) : PE X (.Subscript e (.Slice lo hi none p2) pos) (tSl r te tl th) := by
  intro pins s σ H Q I h
  refine Subscript_ (thn (he pins s σ H _ I h) fun v s1 ⟨x, H1, I1, r1, q1⟩ => ?_)
  refine wpAny_Slice (thn (hl pins s1 σ H1 _ I1 q1) fun vl s2 ⟨l, H2, I2, pl, q2⟩ => thn (hu pins s2 σ H2 _ I2 q2) fun vu s3 ⟨u, H3, I3, pu, q3⟩ => ?_)
  rw [evalPart_none]
  refine wpAny_pure ?_
  have I4 : Inv X pins σ H3 { s3 with heap := s3.heap.push { cls := .type "slice", data := .fields #[vl, vu, .none] } } := I3.kept (t' := s3.toks) fun b ob q => Heap.get?_push_of_some _ q
  obtain ⟨T, id, hT, ht, hg⟩ := hr pins { s3 with heap := s3.heap.push { cls := .type "slice", data := .fields #[vl, vu, .none] } } σ H3 x v vl vu l u s3.heap.objs.size Q I4 r1 (Heap.IsSliceOf.new ..) pl pu q3
  show wpAny (model X.prog X.w) X.A (subscriptTail e (.Slice lo hi none p2) v (.ref s3.heap.objs.size)) (EP X pins σ Q) X.xe { s3 with heap := s3.heap.push { cls := .type "slice", data := .fields #[vl, vu, .none] } }
  exact tail_any (ops := [.ref s3.heap.objs.size, v]) ht hT hg (by with_unfolding_all rfl)
def cutV (xs : List V) (lo hi : Option Int) : List V := (xs.drop (HT.sIx xs.length 0 lo)).take (HT.sIx xs.length xs.length hi - HT.sIx xs.length 0 lo)
theorem cutV_length (xs : List V) (lo hi : Option Int) : (cutV xs lo hi).length ≤ xs.length := by
  unfold cutV
  rw [List.length_take, List.length_drop]
  omega
end
end L2
namespace L2
open PySem PySem.Spec PyProof.Rows
def ixN (n : Nat) (i : Int) : Option Nat := if 0 ≤ i then (if i < n then some i.toNat else none) else if -(n : Int) ≤ i then some (i + n).toNat else none
def atI {α : Type} (xs : List α) (i : Int) : Option α := (ixN xs.length i).bind fun j => xs[j]?
theorem ixN_seq {n : Nat} {i : Int} {j : Nat} (h : ixN n i = some j) : seqIndex? i n = some j ∧ j < n ∧ -(n : Int) ≤ i ∧ i < n := by
  unfold ixN at h
  by_cases h0 : 0 ≤ i
  · rw [if_pos h0] at h
    by_cases h1 : i < n
    · rw [if_pos h1] at h
      have e : i.toNat = j := Option.some.inj h
      exact ⟨by rw [seqIndex_of h0 h1, e], by omega, by omega, h1⟩
    · rw [if_neg h1] at h; cases h
  · rw [if_neg h0] at h
    by_cases h1 : -(n : Int) ≤ i
    · rw [if_pos h1] at h
      have e : (i + n).toNat = j := Option.some.inj h
      exact ⟨by rw [seqIndex_neg (by omega) h1, e], by omega, h1, by omega⟩
    · rw [if_neg h1] at h; cases h
theorem atI_get {α : Type} {xs : List α} {i : Int} {v : α} (h : atI xs i = some v) : ∃ j, seqIndex? i xs.length = some j ∧ xs[j]? = some v ∧ j < xs.length ∧ -(xs.length : Int) ≤ i ∧ i < xs.length := by
  unfold atI at h
  cases e : ixN xs.length i with
  | none => rw [e] at h; cases h
  | some j =>
    rw [e] at h
    obtain ⟨h1, h2, h3, h4⟩ := ixN_seq e
    exact ⟨j, h1, h, h2, h3, h4⟩
theorem atI_nat {α : Type} {xs : List α} {j : Nat} {v : α} (h : xs[j]? = some v) : atI xs (j : Int) = some v := by
  have hj : j < xs.length := (List.getElem?_eq_some_iff.mp h).1
  have e : ixN xs.length (j : Int) = some j := by
    unfold ixN
    rw [if_pos (by omega), if_pos (by omega)]; simp
  unfold atI; rw [e]; exact h
def PlainIx (b : Expr) : Prop := ∀ o i, subscripted b false o i = operate [o, i] (getItem o i)
def IxR (X : Cx) (r : R2) : Prop :=
  ∀ (value slice : Expr) (pins : List (Addr × Obj)) (s : Shared) (σ : St) (H : Hp) (x y : V) (v u : Value) (Q : VK), Inv X pins σ H s → RelV x v → RelV y u → r x y H Q →
    subscripted slice false v u = operate [v, u] (getItem v u) → wpAny (model X.prog X.w) X.A (subscriptTail value slice v u) (EP X pins σ Q) X.xe s
def MtR (X : Cx) (id : String) (r : V → List V → Hp → VK → Prop) : Prop :=
  ∀ (pins : List (Addr × Obj)) (s : Shared) (σ : St) (H : Hp) (x : V) (xs : List V) (v : Value) (us : List Value) (Q : VK), Inv X pins σ H s → RelV x v → Vals xs us → r x xs H Q →
    wpAny (model X.prog X.w) X.A (call (.builtin id) (v :: us)) (EP X pins σ Q) X.xe s
section
variable {X : Cx} {a b : Expr} {ta tb : TE} {pos : Pos}
theorem IxR.or {r r' : R2} (h : IxR X r) (h' : IxR X r') : IxR X (fun x y H Q => r x y H Q ∨ r' x y H Q) := by
  intro value slice pins s σ H x y v u Q I rx ry q hs
  rcases q with q | q
  · exact h value slice pins s σ H x y v u Q I rx ry q hs
  · exact h' value slice pins s σ H x y v u Q I rx ry q hs
theorem MtR.or {id : String} {r r' : V → List V → Hp → VK → Prop} (h : MtR X id r) (h' : MtR X id r') : MtR X id (fun x xs H Q => r x xs H Q ∨ r' x xs H Q) := by
  intro pins s σ H x xs v us Q I rx rs q
  rcases q with q | q
  · exact h pins s σ H x xs v us Q I rx rs q
  · exact h' pins s σ H x xs v us Q I rx rs q
theorem pe_ix {r : R2} (hr : IxR X r) (ha : PE X a ta) (hb : PE X b tb) (hs : PlainIx b) : PE X (.Subscript a b pos) (tOp r ta tb) := by
  intro pins s σ H Q I h
  exact Subscript_ (binT ha hb I h fun v u s2 x y H2 I2 rx ry q => hr a b pins s2 σ H2 x y v u Q I2 rx ry q (hs _ _))
def rIxL (K : PySem.W.Frag) : R2 := fun x y H Q => ∃ p xs i v, x = .ref p ∧ y = .int i ∧ SqL K H p xs ∧ atI xs i = some v ∧ Q v H
def rIxT (K : PySem.W.Frag) : R2 := fun x y H Q => ∃ p xs i v, x = .ref p ∧ y = .int i ∧ SqT K H p xs ∧ atI xs i = some v ∧ Q v H
def rIxS : R2 := fun x y H Q => ∃ z i c, x = .str z ∧ y = .int i ∧ z.length ≤ sizeLine ∧ atI z.cps.toList i = some c ∧ Q (.str ⟨#[c]⟩) H
theorem ix_list : IxR X (rIxL X.K) := by
  intro value slice pins s σ H x y v u Q I rx ry h hs
  obtain ⟨p, xs, i, z, rfl, rfl, hq, he, q⟩ := h
  cases rx
  obtain ⟨t, rfl⟩ := ry
  obtain ⟨its, r, pl, hz⟩ := I.list hq
  obtain ⟨j, h1, h2, h3, h4, h5⟩ := atI_get he
  obtain ⟨w, ew, rw'⟩ := r.get h2
  have hl := r.length
  have hn := line63
  have fin : EP X pins σ Q w s := ⟨z, H, I, rw', q⟩
  by_cases h0 : 0 ≤ i
  · have hj : i.toNat = j := by
      rw [seqIndex_of h0 h5] at h1
      exact Option.some.inj h1
    exact item_listR pl.isList h0 (by omega) (by rw [hj]; simpa using ew) fin hs
  · have hj : (i + (its.toArray.size : Int)).toNat = j := by
      rw [seqIndex_neg (by omega) h4] at h1
      rw [List.size_toArray, ← hl]
      exact Option.some.inj h1
    exact subscriptTail_builtinR (x := w) pl.isList.typeIs slot_list_getitem.lookup
      (wpAny_getItem_list_neg (Q := fun r s' => r = w ∧ EP X pins σ Q r s') pl.isList (by omega) (by rw [List.size_toArray] <;> omega) (by omega) (by rw [hj]; simpa using ew) ⟨rfl, fin⟩) hs
theorem ix_tup : IxR X (rIxT X.K) := by
  intro value slice pins s σ H x y v u Q I rx ry h hs
  obtain ⟨p, xs, i, z, rfl, rfl, hq, he, q⟩ := h
  cases rx
  obtain ⟨t, rfl⟩ := ry
  obtain ⟨its, r, pl, hz⟩ := I.tuple hq
  obtain ⟨j, h1, h2, h3, h4, h5⟩ := atI_get he
  obtain ⟨w, ew, rw'⟩ := r.get h2
  have hl := r.length
  have hn := line63
  have fin : EP X pins σ Q w s := ⟨z, H, I, rw', q⟩
  exact subscriptTail_builtinR (x := w) pl.typeIs slot_tuple_getitem.lookup
    (getItem_tuple (j := j) (Q := fun r s' => r = w ∧ EP X pins σ Q r s') pl (by omega) (by omega) (by rw [List.size_toArray, ← hl]; exact h1) (by simpa using ew) ⟨rfl, fin⟩) hs
theorem ix_str : IxR X rIxS := by
  intro value slice pins s σ H x y v u Q I rx ry h hs
  obtain ⟨z, i, c, rfl, rfl, hz, he, q⟩ := h
  obtain ⟨t, rfl⟩ := rx
  obtain ⟨t', rfl⟩ := ry
  obtain ⟨j, h1, h2, h3, h4, h5⟩ := atI_get he
  have hl : z.cps.toList.length = z.length := by simp [Str.length]
  rw [hl] at h1 h4 h5
  have hn := line63
  exact tail_any (typeIs_str s z t) slot_str_getitem.lookup (getItem_str (c := c) (by
    have e1 : decide (i < -(2 ^ 63 : Int)) = false := decide_eq_false (by omega)
    have e2 : decide (i ≥ 2 ^ 63) = false := decide_eq_false (by omega)
    rw [e1, e2, Bool.or_false]) (by rw [h1]; simpa using h2) ⟨.str ⟨#[c]⟩, H, I.tok _, ⟨_, rfl⟩, q⟩) hs
def rIx (K : PySem.W.Frag) : R2 := fun x y H Q => rIxL K x y H Q ∨ rIxT K x y H Q ∨ rIxS x y H Q
theorem ix_seq : IxR X (rIx X.K) := ix_list.or (ix_tup.or ix_str)
theorem mapSeq_set (its : List Value) (n j : Nat) (u : Value) : Obj.mapSeq (·.setIfInBounds j u) { cls := .type "list", data := .seq its.toArray n } = { cls := .type "list", data := .seq (its.set j u).toArray n } := by
  simp [Obj.mapSeq]
theorem Inv.lst {pins : List (Addr × Obj)} {σ : St} {H : Hp} {s : Shared} {p : Addr} {xs : List V} (I : Inv X pins σ H s) (h : H p = some (.lst xs)) :
    ∃ (its : List Value) (n : Nat), Vals xs its ∧ s.heap.get? p = some { cls := .type "list", data := .seq its.toArray n } ∧ xs.length ≤ sizeLine := by
  obtain ⟨z, its, n, r, e⟩ := I.hok p _ h
  exact ⟨its, n, r, e, z⟩
theorem Inv.lstUpd {pins : List (Addr × Obj)} {σ : St} {H : Hp} {s : Shared} {p : Addr} {xs ys : List V} {its its' : List Value} {n n' : Nat} {f : Obj → Obj} (I : Inv X pins σ H s) (h : H p = some (.lst xs))
    (ho : s.heap.get? p = some { cls := .type "list", data := .seq its.toArray n }) (hf : f { cls := .type "list", data := .seq its.toArray n } = { cls := .type "list", data := .seq its'.toArray n' }) (r : Vals ys its') (hz : ys.length ≤ sizeLine) (t : Nat) :
    Inv X pins σ (upd H p (.lst ys)) { s with heap := s.heap.update p f, toks := t } := by
  have e : (s.heap.update p f).get? p = some { cls := .type "list", data := .seq its'.toArray n' } := by
    rw [Heap.get?_update_self f ho (by rw [hf] <;> rfl), hf]
  refine I.write (x := p) (e := p) (by rw [h]; trivial) (.inl rfl) (fun b u hb q => (Heap.get?_update_other _ _ (Ne.symm hb)).trans q) ⟨_, e⟩ ?_
  exact ⟨hz, its', n', r, e⟩
def rSetL : V → V → V → Hp → (Hp → Prop) → Prop := fun o i v H Q => ∃ p xs k j, o = .ref p ∧ i = .int k ∧ H p = some (.lst xs) ∧ ixN xs.length k = some j ∧ Q (upd H p (.lst (xs.set j v)))
theorem set_list : PSet X rSetL := by
  intro pins s σ H o i v ov iv u Q I ro ri rv h
  obtain ⟨p, xs, k, j, rfl, rfl, hp, hj, q⟩ := h
  cases ro
  obtain ⟨t, rfl⟩ := ri
  obtain ⟨its, n, r, ho, hz⟩ := I.lst hp
  obtain ⟨h1, h2, h3, h4⟩ := ixN_seq hj
  have hl := r.length
  have hn := line63
  have I' : Inv X pins σ (upd H p (.lst (xs.set j v))) { s with heap := s.heap.update p (Obj.mapSeq (·.setIfInBounds j u)) } :=
    I.lstUpd hp ho (mapSeq_set its n j u) (r.set rv j) (by rw [List.length_set]; exact hz) s.toks
  by_cases h0 : 0 ≤ k
  · have hk : k.toNat = j := by
      rw [seqIndex_of h0 h4] at h1
      exact Option.some.inj h1
    exact PySem.W.ki_setAt ho h0 (by omega) (by rw [List.size_toArray, ← hl]; exact h4) (by rw [hk]; exact ⟨_, I', q⟩)
  · have hk : (k + (its.toArray.size : Int)).toNat = j := by
      rw [seqIndex_neg (by omega) h3] at h1
      rw [List.size_toArray, ← hl]
      exact Option.some.inj h1
    exact PySem.W.ki_setBack ho (by omega) (by rw [List.size_toArray, ← hl]; exact h3) (by omega) (by rw [hk]; exact ⟨_, I', q⟩)
theorem slice_bounds (lo hi : Option Int) (n : Nat) : (sliceBounds lo hi none n).1 = ((HT.sIx n 0 lo : Nat) : Int) ∧ (sliceBounds lo hi none n).2.1 = ((HT.sIx n n hi : Nat) : Int) ∧ (sliceBounds lo hi none n).2.2 = 1 := by
  refine ⟨?_, ?_, rfl⟩
  · cases lo with
    | none => simp [sliceBounds, HT.sIx]
    | some i =>
      simp only [sliceBounds, HT.sIx, Option.getD_none, show (1 : Int) > 0 by decide, if_true]
      by_cases h : i < 0
      · simp only [h, if_true] <;> omega
      · simp only [h, if_false] <;> omega
  · cases hi with
    | none => simp [sliceBounds, HT.sIx]
    | some i =>
      simp only [sliceBounds, HT.sIx, Option.getD_none, show (1 : Int) > 0 by decide, if_true]
      by_cases h : i < 0
      · simp only [h, if_true] <;> omega
      · simp only [h, if_false] <;> omega
theorem slicePick_cut (its : List Value) (lo hi : Option Int) : slicePick its.toArray lo hi none = ((its.drop (HT.sIx its.length 0 lo)).take (HT.sIx its.length its.length hi - HT.sIx its.length 0 lo)).toArray := by
  obtain ⟨h1, h2, h3⟩ := slice_bounds lo hi its.toArray.size
  unfold slicePick
  rw [h1, h2, h3]
  simp only [sliceRange_one, pick_run, List.size_toArray] <;> rfl
def rSlL (K : PySem.W.Frag) : V → Option Int → Option Int → Hp → VK → Prop := fun x lo hi H Q => ∃ a xs, x = .ref a ∧ SqL K H a xs ∧ ∀ p, H p = none → Q (.ref p) (upd H p (.lst (cutV xs lo hi)))
theorem sl_list : SlR X (rSlL X.K) := by
  intro pins s σ H x v vl vu lo hi sl Q I rx hs pl pu h
  obtain ⟨a, xs, rfl, hx, q⟩ := h
  cases rx
  obtain ⟨its, r, ht, hz⟩ := I.list hx
  have hlen := r.length
  refine ⟨"list", _, slot_list_getitem.lookup, ht.isList.typeIs, ?_⟩
  refine wpAny_getItem_list_slice ht.isList hs pl pu .none (by simp) ?_ (by rw [List.size_toArray] <;> omega)
  rw [slicePick_cut, ← hlen]
  refine ⟨.ref s.heap.objs.size, _, I.laid (t' := s.toks) (o := .lst (cutV xs lo hi)) (fun b ob q => Heap.get?_push_of_some _ q) (Nat.le_refl _) ?_, rfl, q _ (I.hok.fresh (Nat.le_refl _))⟩
  exact ⟨Nat.le_trans (cutV_length xs lo hi) hz, _, 0, (r.drop (HT.sIx xs.length 0 lo)).take (HT.sIx xs.length xs.length hi - HT.sIx xs.length 0 lo), Heap.get?_push_size _ rfl⟩
def flatV : V → Bool
  | .non => true
  | .bl _ => true
  | .int _ => true
  | .str _ => true
  | _ => false
def eqV : V → V → Bool
  | .non, .non => true
  | .bl a, .bl b => a == b
  | .bl a, .int b => (if a then 1 else 0) == b
  | .int a, .bl b => a == (if b then 1 else 0)
  | .int a, .int b => a == b
  | .str a, .str b => a == b
  | _, _ => false
theorem eqAt_V {A : Around} {s : Shared} {y x : V} {u v : Value} (ry : RelV y u) (rx : RelV x v) (fy : flatV y = true) (fx : flatV x = true) : SeqAt.EqAt A s u v (eqV y x) := by
  cases y with
  | non =>
    cases ry
    cases x with
    | non => cases rx; exact SeqAt.EqAt.same _
    | bl b => cases rx; exact SeqAt.EqAt.none_bool b
    | int b => obtain ⟨t, rfl⟩ := rx; exact SeqAt.EqAt.none_int b t
    | str b => obtain ⟨t, rfl⟩ := rx; exact SeqAt.EqAt.none_str b t
    | _ => exact absurd (show false = true from fx) Bool.false_ne_true
  | bl a =>
    cases ry
    cases x with
    | non => cases rx; exact SeqAt.EqAt.bool_none a
    | bl b => cases rx; exact SeqAt.EqAt.bool_bool a b
    | int b => obtain ⟨t, rfl⟩ := rx; exact SeqAt.EqAt.bool_int a b t
    | str b => obtain ⟨t, rfl⟩ := rx; exact SeqAt.EqAt.bool_str a b t
    | _ => exact absurd (show false = true from fx) Bool.false_ne_true
  | int a =>
    obtain ⟨t', rfl⟩ := ry
    cases x with
    | non => cases rx; exact SeqAt.EqAt.int_none a t'
    | bl b => cases rx; exact SeqAt.EqAt.int_bool a t' b
    | int b => obtain ⟨t, rfl⟩ := rx; exact SeqAt.EqAt.int_int a t' b t
    | str b => obtain ⟨t, rfl⟩ := rx; exact SeqAt.EqAt.int_str a t' b t
    | _ => exact absurd (show false = true from fx) Bool.false_ne_true
  | str a =>
    obtain ⟨t', rfl⟩ := ry
    cases x with
    | non => cases rx; exact SeqAt.EqAt.str_none a t'
    | bl b => cases rx; exact SeqAt.EqAt.str_bool a t' b
    | int b => obtain ⟨t, rfl⟩ := rx; exact SeqAt.EqAt.str_int a t' b t
    | str b => obtain ⟨t, rfl⟩ := rx; exact SeqAt.EqAt.str_str a t' b t
    | _ => exact absurd (show false = true from fx) Bool.false_ne_true
  | _ => exact absurd (show false = true from fy) Bool.false_ne_true
def eqU (x : V) (u : Value) : Bool := match u with
  | .none => eqV .non x
  | .bool b => eqV (.bl b) x
  | .int i _ => eqV (.int i) x
  | .str z _ => eqV (.str z) x
  | _ => false
theorem eqU_of {x y : V} {u : Value} (r : RelV y u) (f : flatV y = true) : eqU x u = eqV y x := by
  cases y with
  | non => cases r; rfl
  | bl b => cases r; rfl
  | int i => obtain ⟨t, rfl⟩ := r; rfl
  | str z => obtain ⟨t, rfl⟩ := r; rfl
  | _ => exact absurd (show false = true from f) Bool.false_ne_true
theorem any_eqU {x : V} : ∀ {xs : List V} {us : List Value}, Vals xs us → xs.all flatV = true → us.any (eqU x) = xs.any fun y => eqV y x
  | _, _, .nil, _ => rfl
  | y :: xs, u :: us, .cons r t, f => by
    rw [List.all_cons, Bool.and_eq_true] at f
    rw [List.any_cons, List.any_cons, eqU_of r f.1, any_eqU t f.2]
theorem mem_eqAt {A : Around} {s : Shared} {x : V} {v : Value} (rx : RelV x v) (fx : flatV x = true) : ∀ {xs : List V} {us : List Value}, Vals xs us → xs.all flatV = true → ∀ u ∈ us, SeqAt.EqAt A s u v (eqU x u)
  | _, _, .nil, _ => fun u hu => by cases hu
  | y :: xs, u :: us, .cons r t, f => fun u' hu => by
    rw [List.all_cons, Bool.and_eq_true] at f
    rcases List.mem_cons.mp hu with rfl | hu
    · rw [eqU_of r f.1]; exact eqAt_V r rx f.1 fx
    · exact mem_eqAt rx fx t f.2 u' hu
def inV (x : V) (xs : List V) : Bool := xs.any fun y => eqV y x
def rIn (K : PySem.W.Frag) (neg : Bool) : R2 := fun x y H Q => ∃ p xs, y = .ref p ∧ (SqL K H p xs ∨ SqT K H p xs) ∧ flatV x = true ∧ xs.all flatV = true ∧ Q (.bl (if neg then !inV x xs else inV x xs)) H
theorem op_in_seq : OpR X (compareOp .In) (rIn X.K false) := by
  intro pins s σ H x y v u Q I rx ry h
  obtain ⟨p, xs, rfl, hq, fx, fs, q⟩ := h
  cases ry
  rcases hq with hq | hq
  · obtain ⟨its, r, pl, hz⟩ := I.list hq
    refine SeqAt.in_listAt (eqU x) pl.isList (fun w hw => mem_eqAt rx fx r fs w (by simpa using hw)) ⟨.bl _, H, I, rfl, ?_⟩
    rw [show its.toArray.any (eqU x) = its.any (eqU x) by simp, any_eqU r fs]
    exact q
  · obtain ⟨its, r, pl, hz⟩ := I.tuple hq
    refine SeqAt.in_tupleAt (eqU x) pl (fun w hw => mem_eqAt rx fx r fs w (by simpa using hw)) ⟨.bl _, H, I, rfl, ?_⟩
    rw [show its.toArray.any (eqU x) = its.any (eqU x) by simp, any_eqU r fs]
    exact q
theorem call_len_seq : CallR X (.builtin "len") (fun xs H Q => ∃ p ys, xs = [.ref p] ∧ (SqL X.K H p ys ∨ SqT X.K H p ys) ∧ Q (.int ys.length) H) := by
  intro pins s σ H xs us Q I r h
  obtain ⟨p, ys, rfl, hq, q⟩ := h
  obtain ⟨u, rfl, rx⟩ := vals1 r
  cases rx
  have hn := line63
  rcases hq with hq | hq
  · obtain ⟨its, r', pl, hz⟩ := I.list hq
    have hlen := r'.length
    exact Calls.call_len_list pl.isList (by simp only [List.size_toArray] <;> omega) ⟨.int ys.length, H, I.tok _, ⟨s.toks + 1, by rw [List.size_toArray, hlen]⟩, q⟩
  · obtain ⟨its, r', pl, hz⟩ := I.tuple hq
    have hlen := r'.length
    exact len_tuple pl (by simp only [List.size_toArray] <;> omega) ⟨.int ys.length, H, I.tok _, ⟨s.toks + 1, by rw [List.size_toArray, hlen]⟩, q⟩
theorem CallR.or {f : Value} {r r' : List V → Hp → VK → Prop} (h : CallR X f r) (h' : CallR X f r') : CallR X f (fun xs H Q => r xs H Q ∨ r' xs H Q) := by
  intro pins s σ H xs us Q I rs q
  rcases q with q | q
  · exact h pins s σ H xs us Q I rs q
  · exact h' pins s σ H xs us Q I rs q
def tyV (K : PySem.W.Frag) (T : String) (x : V) (H : Hp) : Prop := match x with
  | .str _ => T = "str"
  | .int _ => T = "int"
  | .ref p => (T = "list" ∧ ∃ xs, SqL K H p xs) ∨ (T = "tuple" ∧ ∃ o, K.lookup p = some o ∧ o.cls = .type "tuple" ∧ o.dict = none) ∨
      (T = "dict" ∧ ((∃ kvs, H p = some (.dK kvs)) ∨ ∃ kvs, H p = some (.dT kvs))) ∨ (T = "set" ∧ ∃ S n, H p = some (.set S n))
  | _ => False
theorem tyV_is {pins : List (Addr × Obj)} {σ : St} {H : Hp} {s : Shared} {T : String} {x : V} {v : Value} (I : Inv X pins σ H s) (r : RelV x v) (ty : tyV X.K T x H) :
    s.TypeIs v T ∧ ∀ a, v = .ref a → ∃ ob, s.heap.get? a = some ob ∧ ob.dict = none := by
  cases x with
  | str z =>
    obtain ⟨t, rfl⟩ := r
    cases (show T = "str" from ty)
    exact ⟨typeIs_str s z t, fun _ e => nomatch e⟩
  | int i =>
    obtain ⟨t, rfl⟩ := r
    cases (show T = "int" from ty)
    exact ⟨typeIs_int s i t, fun _ e => nomatch e⟩
  | ref p =>
    cases r
    rcases ty with ⟨rfl, xs, hq⟩ | ⟨rfl, o, hk, hc, hd⟩ | ⟨rfl, hk⟩ | ⟨rfl, S, n, hk⟩
    · obtain ⟨its, _, pl, _⟩ := I.list hq
      refine ⟨pl.isList.typeIs, fun a e => ?_⟩
      cases e
      obtain ⟨o, n, e, c, hd, _⟩ := pl
      exact ⟨o, e, hd⟩
    · refine ⟨⟨o, I.kIn p o hk, hc⟩, fun a e => ?_⟩
      cases e
      exact ⟨o, I.kIn _ o hk, hd⟩
    · have z : ∃ o, s.heap.get? p = some o ∧ o.ExactDict := by
        rcases hk with ⟨kvs, hk⟩ | ⟨kvs, hk⟩
        · obtain ⟨_, _, _, _, o, _, _, e, ex, _⟩ := I.hok p _ hk
          exact ⟨o, e, ex⟩
        · obtain ⟨_, _, _, _, o, _, _, e, ex, _⟩ := I.hok p _ hk
          exact ⟨o, e, ex⟩
      obtain ⟨o, e, ex⟩ := z
      refine ⟨⟨o, e, ex.1⟩, fun a e2 => ?_⟩
      cases e2
      exact ⟨o, e, ex.2.1⟩
    · obtain ⟨o, _, _, _, e, ex, _⟩ := I.hok p _ hk
      refine ⟨⟨o, e, ex.1⟩, fun a e2 => ?_⟩
      cases e2
      exact ⟨o, e, ex.2.1⟩
  | _ => exact False.elim ty
def tBM0 (K : PySem.W.Frag) (T : String) (r : V → List V → Hp → VK → Prop) (to : TE) : TE := fun σ H Q => to σ H fun x H1 => tyV K T x H1 ∧ r x [] H1 Q
def tBM (K : PySem.W.Frag) (T : String) (r : V → List V → Hp → VK → Prop) (to : TE) (t : TA) : TE := fun σ H Q => to σ H fun x H1 => tyV K T x H1 ∧ t σ H1 fun xs H2 => r x xs H2 Q
variable {o e : Expr} {es : List Expr} {to : TE} {t : TA} {name : Str} {apos cpos : Pos} {T id : String} {r : V → List V → Hp → VK → Prop}
theorem pe_bm (pa : PlainAttrs T) (slot : Slot T name id) (hty : typeOf (.builtin id) = pure (.type "method_descriptor")) (hm : MtR X id r) (ho : PE X o to) (ha : PA X (e :: es) t)
    (hbase : attributeBase o name X.env (eval o X.env) = eval o X.env := by rfl)
    (hfew : ((backTo cpos (starEach (e :: es) X.env)).all (fun x => !x.1) && (backToKw cpos (keywordEach [] X.env)).all (fun x => x.1.isSome)
      && decide ((e :: es).length + ([] : List Keyword).length + (if ([] : List Keyword).isEmpty then 0 else 1) < 30)) = true := by rfl)
    (hline : (apos.endLine == cpos.line) = true := by rfl) (hs : starEach (e :: es) X.env = (false, eval e X.env) :: starEach es X.env := by rfl) (hplain : (backTo cpos (starEach es X.env)).any (·.1) = false := by rfl) :
    PE X (.Call (.Attribute o name apos) (e :: es) [] cpos) (tBM X.K T r to t) := by
  intro pins s σ H Q I h
  refine wpAny_Call_method_late hbase hfew hline rfl (thn (ho pins s σ H _ I h) fun v s1 ⟨x, H1, I1, r1, ty, q1⟩ => ?_)
  obtain ⟨h1, h2⟩ := tyV_is I1 r1 ty
  refine ⟨T, id, pa, slot, hty, h1, h2, ?_⟩
  have hA := ha cpos pins s1 σ H1 _ I1 q1
  rw [hs] at hA ⊢
  refine Calls.callWith_builtin (by show (false || (backTo cpos (starEach es X.env)).any (·.1)) = false; rw [hplain] <;> rfl) (Calls.evalArgs_plain ?_)
  exact thn hA fun us s2 ⟨vs, H2, I2, r2, q2⟩ => hm pins s2 σ H2 x vs v us Q I2 r1 r2 q2
end
end L2
namespace L2
open PySem PySem.Spec PyProof.Rows
def MtM (X : Cx) (id : String) (r : V → List V → Hp → VK → Prop) : Prop :=
  ∀ (pins : List (Addr × Obj)) (s : Shared) (σ : St) (H : Hp) (x : V) (xs : List V) (v : Value) (us : List Value) (Q : VK), Inv X pins σ H s → RelV x v → Vals xs us → r x xs H Q →
    wpAny (model X.prog X.w) X.A (call (.builtin id) (v :: us)) (EP X pins σ Q) X.xe s
theorem Vals.one : ∀ {x : V} {us : List Value}, Vals [x] us → ∃ u, us = [u] ∧ RelV x u
  | _, _, .cons r .nil => ⟨_, rfl, r⟩
theorem Vals.two : ∀ {x y : V} {us : List Value}, Vals [x, y] us → ∃ u v, us = [u, v] ∧ RelV x u ∧ RelV y v
  | _, _, _, .cons r (.cons q .nil) => ⟨_, _, rfl, r, q⟩
theorem Vals.zero : ∀ {us : List Value}, Vals [] us → us = []
  | _, .nil => rfl
theorem Vals.eraseIdx : ∀ {xs : List V} {us : List Value} (i : Nat), Vals xs us → Vals (xs.eraseIdx i) (us.eraseIdx i)
  | _, _, _, .nil => .nil
  | _, _, 0, .cons _ t => t
  | _, _, i + 1, .cons r t => .cons r (Vals.eraseIdx i t)
theorem Vals.reverse {xs : List V} {us : List Value} (h : Vals xs us) : Vals xs.reverse us.reverse := by
  induction h with
  | nil => exact .nil
  | cons r t ih => rw [List.reverse_cons, List.reverse_cons]; exact Vals.append ih (.cons r .nil)
section
variable {X : Cx} {pins : List (Addr × Obj)} {σ : St} {H : Hp} {s : Shared} {l b : Addr} {xs ys zs : List V}
theorem Inv.lset {its its' : List Value} {n : Nat} {f : Array Value → Array Value} {t' : Nat} (I : Inv X pins σ H s) (hH : H l = some (.lst xs))
    (e : s.heap.get? l = some { cls := .type "list", data := .seq its.toArray n }) (hf : f its.toArray = its'.toArray) (hv : Vals ys its') (hz : ys.length ≤ sizeLine) :
    Inv X pins σ (upd H l (.lst ys)) { s with heap := s.heap.update l (Obj.mapSeq f), toks := t' } := by
  have q := PySem.IsL.update e f
  rw [hf] at q
  refine I.write (x := l) (e := l) (by rw [hH]; exact trivial) (.inl rfl) (fun b' u hb hu => (Heap.get?_update_other s.heap (Obj.mapSeq f) (Ne.symm hb)).trans hu) ⟨_, q⟩ ?_
  exact ⟨hz, its', _, hv, q⟩
theorem Inv.lnew {its : List Value} {t' : Nat} (I : Inv X pins σ H s) (hv : Vals ys its) (hz : ys.length ≤ sizeLine) :
    Inv X pins σ (upd H s.heap.objs.size (.lst ys)) { s with heap := s.heap.push { cls := .type "list", data := .seq its.toArray }, toks := t' } :=
  I.laid (fun _ _ q => Heap.get?_push_of_some _ q) (Nat.le_refl _) ⟨hz, its, 0, hv, Heap.get?_push_size _ rfl⟩
theorem Inv.fresh (I : Inv X pins σ H s) : H s.heap.objs.size = none := I.hok.fresh (Nat.le_refl _)
theorem Inv.lstM (I : Inv X pins σ H s) (hH : H l = some (.lst xs)) : xs.length ≤ sizeLine ∧ ∃ (its : List Value) (n : Nat), Vals xs its ∧ xs.length = its.length ∧ s.heap.get? l = some { cls := .type "list", data := .seq its.toArray n } := by
  obtain ⟨z, its, n, r, e⟩ := I.hok l _ hH
  exact ⟨z, its, n, r, r.length, e⟩
end
section
variable {X : Cx}
def rAppend : V → List V → Hp → VK → Prop := fun x vs H Q => ∃ l xs y, x = .ref l ∧ vs = [y] ∧ H l = some (.lst xs) ∧ xs.length < sizeLine ∧ Q .non (upd H l (.lst (xs ++ [y])))
theorem mt_append : MtM X "list.append" rAppend := by
  intro pins s σ H x vs v us Q I rx rv h
  obtain ⟨l, xs, y, rfl, rfl, hH, hz, q⟩ := h
  cases rx
  obtain ⟨u, rfl, ru⟩ := rv.one
  obtain ⟨z, its, n, r, hl, e⟩ := I.lstM hH
  refine call_meets F.slot_list_append ⟨_, e, rfl⟩ F.entry_list_append (F.args_list_append_2 _ _) (PySem.list_append l its.toArray n u (by rw [List.size_toArray]; omega)) ⟨e, ?_⟩
  refine ⟨.non, _, I.lset (its' := its ++ [u]) hH e (by simp) (r.append (.cons ru .nil)) ?_, rfl, q⟩
  rw [List.length_append, List.length_singleton]
  omega
def rCat : R2 := fun x y H Q => ∃ l b xs zs, x = .ref l ∧ y = .ref b ∧ H l = some (.lst xs) ∧ H b = some (.lst zs) ∧ xs.length + zs.length ≤ sizeLine ∧ ∀ p, H p = none → Q (.ref p) (upd H p (.lst (xs ++ zs)))
theorem op_cat : OpR X (binaryOp .Add) rCat := by
  intro pins s σ H x y v u Q I rx ry h
  obtain ⟨l, b, xs, zs, rfl, rfl, hH, hB, hz, q⟩ := h
  cases rx
  cases ry
  obtain ⟨z, its, n, r, hl, e⟩ := I.lstM hH
  obtain ⟨z2, its2, n2, r2, hl2, e2⟩ := I.lstM hB
  refine PySem.P.add_list e e2 ?_ (by rw [List.size_toArray, List.size_toArray]; omega)
  have ea : its.toArray ++ its2.toArray = (its ++ its2).toArray := by simp
  rw [ea]
  exact ⟨.ref _, _, I.lnew (t' := s.toks) (r.append r2) (by rw [List.length_append]; omega), rfl, q _ I.fresh⟩
end
section
variable {prog : Program} {w : World} {A : Around} {E : Value → Shared → Prop} {s : Shared}
end
section
variable {X : Cx}
end
end L2
namespace L2
open PySem PySem.Spec PyProof.Rows
theorem Vals.ints : ∀ {ns : List Int} {us : List Value}, Vals (ns.map V.int) us → IntsAre us ns
  | [], us, h => by
    rw [List.map_nil] at h
    cases h
    exact IntsAre.nil
  | n :: ns, us, h => by
    rw [List.map_cons] at h
    cases h with
    | cons r t =>
      obtain ⟨k, rfl⟩ := r
      exact IntsAre.cons n k (Vals.ints t)
theorem vals_of_ints : ∀ {us : List Value} {ns : List Int}, IntsAre us ns → Vals (ns.map V.int) us
  | _, _, .nil => by rw [List.map_nil]; exact Paired.nil
  | _, _, .cons n t h => by rw [List.map_cons]; exact Paired.cons (show RelV (V.int n) (Value.int n t) from ⟨t, rfl⟩) (vals_of_ints h)
theorem Vals.strs : ∀ {xs : List Str} {us : List Value}, Vals (xs.map V.str) us → StrsAre us xs
  | [], us, h => by
    rw [List.map_nil] at h
    cases h
    exact StrsAre.nil
  | x :: xs, us, h => by
    rw [List.map_cons] at h
    cases h with
    | cons r t =>
      obtain ⟨k, rfl⟩ := r
      exact StrsAre.cons x k (Vals.strs t)
theorem Vals.ref1 {a : Addr} {us : List Value} (r : Vals [V.ref a] us) : us = [Value.ref a] := by
  cases r with
  | cons r t =>
    cases t
    cases r
    rfl
section
variable {prog : Program} {w : World} {A : Around} {E : Value → Shared → Prop} {s : Shared} {l : Addr} {its : List Value} {ns : List Int} {Q : Value → Shared → Prop}
theorem sum_raw (hh : A.handled = none) (hl : s.heap.IsList l its.toArray) (hi : IntsAre its ns)
    (h : ∀ h' tk t', (∀ b o, s.heap.get? b = some o → h'.get? b = some o) → Q (.int ns.sum t') { s with heap := h', toks := tk }) : wpAny (model prog w) A (call (.builtin "sum") [.ref l]) Q E s := by
  obtain ⟨xs, e⟩ := hi.allInts.items
  have hn : numsOf (intItems xs).toList = ns := by rw [← e]; exact hi.numsOf
  rw [nums_intItems] at hn
  rw [e] at hl
  refine PySem.sum_intListG hh hl fun h' tk t' hk => ?_
  have := h h' tk t' hk
  rw [preSum_eq, List.take_of_length_le (by simp), hn]; exact this
theorem max_raw (hh : A.handled = none) (hl : s.heap.IsList l its.toArray) (hi : IntsAre its ns) (hne : 0 < ns.length)
    (h : ∀ h' tk M t', (∀ b o, s.heap.get? b = some o → h'.get? b = some o) → M ∈ ns → (∀ a, a ∈ ns → a ≤ M) → Q (.int M t') { s with heap := h', toks := tk }) : wpAny (model prog w) A (call (.builtin "max") [.ref l]) Q E s := by
  obtain ⟨xs, e⟩ := hi.allInts.items
  have hn : numsOf (intItems xs).toList = ns := by rw [← e]; exact hi.numsOf
  rw [nums_intItems] at hn
  subst hn
  rw [e] at hl
  have hsz : 0 < xs.size := by simpa using hne
  refine PySem.max_intList hh hl hsz fun v h' tk hv hk => ?_
  obtain ⟨t, rfl⟩ := intItems_at hv
  obtain ⟨h1, h2⟩ := argBest_gt (numAt xs) (xs.size - 1)
  refine h h' tk _ t hk ?_ fun a ha => ?_
  · rw [numAt_eq]; exact PySem.getD_mem (by rw [List.length_map, Array.length_toList]; omega)
  · obtain ⟨j, hj, rfl⟩ := mem_getD ha
    rw [List.length_map, Array.length_toList] at hj
    rw [← numAt_eq]; exact h2 j (by omega)
end
section
variable {X : Cx}
def rSum (K : PySem.W.Frag) : List V → Hp → VK → Prop := fun vs H Q => ∃ (a : Addr) (ns : List Int), vs = [V.ref a] ∧ SqL K H a (ns.map V.int) ∧ Q (.int ns.sum) H
def rMax (K : PySem.W.Frag) : List V → Hp → VK → Prop := fun vs H Q => ∃ (a : Addr) (ns : List Int), vs = [V.ref a] ∧ SqL K H a (ns.map V.int) ∧ 0 < ns.length ∧ ∀ m, m ∈ ns → (∀ y, y ∈ ns → y ≤ m) → Q (.int m) H
theorem cr_sum (hc : X.calm = true) : CallR X (.builtin "sum") (rSum X.K) := by
  intro pins s σ H vs us Q I r h
  obtain ⟨a, ns, rfl, hs, q⟩ := h
  obtain ⟨its, rv, hl, _⟩ := I.list hs
  rw [Vals.ref1 r]
  exact sum_raw (I.ok.hd hc) hl.isList rv.ints fun h' tk t' hk => ⟨.int _, H, I.kept hk, ⟨_, rfl⟩, q⟩
theorem cr_max (hc : X.calm = true) : CallR X (.builtin "max") (rMax X.K) := by
  intro pins s σ H vs us Q I r h
  obtain ⟨a, ns, rfl, hs, hne, q⟩ := h
  obtain ⟨its, rv, hl, _⟩ := I.list hs
  rw [Vals.ref1 r]
  exact max_raw (I.ok.hd hc) hl.isList rv.ints hne fun h' tk m t' hk h1 h2 => ⟨.int _, H, I.kept hk, ⟨_, rfl⟩, q m h1 h2⟩
def rSorted (K : PySem.W.Frag) : List V → Hp → VK → Prop := fun vs H Q => ∃ (a : Addr) (ns : List Int), vs = [V.ref a] ∧ SqL K H a (ns.map V.int) ∧ ns.length < 64 ∧
  ∀ (ns' : List Int) (p : Addr), ns'.Perm ns → ns'.Pairwise (· ≤ ·) → H p = none → Q (.ref p) (upd H p (.lst (ns'.map V.int)))
theorem small64 {n : Nat} (h : n < 64) : n ≤ sizeLine := by rw [sizeLine_eq]; omega
theorem cr_sorted : CallR X (.builtin "sorted") (rSorted X.K) := by
  intro pins s σ H vs us Q I r h
  obtain ⟨a, ns, rfl, hs, h64, q⟩ := h
  obtain ⟨its, rv, hl, _⟩ := I.list hs
  rw [Vals.ref1 r]
  have hi := rv.ints
  refine PyProof.Rows.sorted_ints hl.isList hi (by rw [hi.length]; exact h64) fun out ns' h1 h2 h3 => ?_
  obtain ⟨ep, he'⟩ := PyProof.Rows.sortedAll_at s.heap its out
  have hlen : (ns'.map V.int).length ≤ sizeLine := by rw [List.length_map, h2.length_eq]; exact small64 h64
  exact ⟨.ref _, upd H (s.heap.objs.size + 1) (.lst (ns'.map V.int)), I.laid (t' := s.toks) (fun _ _ => PyProof.Rows.sortedAll_old) (Nat.le_succ _) ⟨hlen, out.toList, ep, vals_of_ints h1, he'⟩, rfl, q ns' _ h2 h3 (I.hok.fresh (Nat.le_succ _))⟩
end
section
variable {X : Cx}
end
section
variable {X : Cx}
end
section
variable {X : Cx}
end
mutual
inductive Dp (K : PySem.W.Frag) (H : Hp) : V → PyData → Prop
  | non : Dp K H .non .none
  | bl (b : Bool) : Dp K H (.bl b) (.bool b)
  | int (i : Int) : Dp K H (.int i) (.int i)
  | str (x : Str) : Dp K H (.str x) (.str x)
  | lst {a : Addr} {xs : List V} {ds : List PyData} : SqL K H a xs → DpAll K H xs ds → Dp K H (.ref a) (.list ds)
  | tup {a : Addr} {xs : List V} {ds : List PyData} : SqT K H a xs → DpAll K H xs ds → Dp K H (.ref a) (.tuple ds)
inductive DpAll (K : PySem.W.Frag) (H : Hp) : List V → List PyData → Prop
  | nil : DpAll K H [] []
  | cons {v : V} {vs : List V} {d : PyData} {ds : List PyData} : Dp K H v d → DpAll K H vs ds → DpAll K H (v :: vs) (d :: ds)
end
section
variable {X : Cx} {pins : List (Addr × Obj)} {σ : St} {H : Hp} {s : Shared}
end
section
variable {X : Cx}
end
end L2
namespace L2
open PySem PySem.Spec PyProof.Rows
abbrev CellAt (h : Heap) (c : Addr) (v : Option Value) : Prop := h.IsCell c v
def relS (scope sc : Scope) : Scope :=
  { scope with names := scope.names.map fun (n, k) => if (k == .free && sc.kind == .function && sc.names.lookup n == some .cell) then (n, .cell) else (n, k) }
def cloFrom (cells : List (Str × Addr)) : List (Str × NameKind) → List (Str × Addr) → List (Str × Addr)
  | [], acc => acc
  | (n, k) :: r, acc => if k == .free then cloFrom cells r ((n, (cells.lookup n).getD 0) :: acc) else cloFrom cells r acc
theorem closure_loop (env : Env) (f : Str × NameKind → List (Str × Addr) → Sem (ForInStep (List (Str × Addr))))
    (hf : ∀ n k c, f (n, k) c = if k == .free then (do let a ← cellOf env n; pure (.yield ((n, a) :: c))) else pure (.yield c)) :
    ∀ (names : List (Str × NameKind)) (acc : List (Str × Addr)), (∀ y ∈ names, y.2 = .free → ∃ c, env.cells.lookup y.1 = some c) → forIn names acc f = pure (cloFrom env.cells names acc)
  | [], acc, _ => by rw [List.forIn_nil]; rfl
  | (n, k) :: r, acc, h => by
    rw [List.forIn_cons, hf]
    have ih := fun acc => closure_loop env f hf r acc fun y hy => h y (List.mem_cons_of_mem _ hy)
    unfold cloFrom
    by_cases hk : (k == NameKind.free) = true
    · rw [if_pos hk, if_pos hk]
      obtain ⟨c, hc⟩ := h (n, k) List.mem_cons_self (by simpa using hk)
      have e : cellOf env n = pure c := by unfold cellOf; rw [hc]
      rw [e]
      have e2 : (env.cells.lookup n).getD 0 = c := by rw [hc]; rfl
      rw [e2]
      exact ih _
    · rw [if_neg hk, if_neg hk]
      exact ih _
theorem closure_ok {scope : Scope} {env : Env} (h : ∀ y ∈ scope.names, y.2 = .free → ∃ c, env.cells.lookup y.1 = some c) : closureFor scope env = pure (cloFrom env.cells scope.names []) := by
  simp only [closureFor]
  rw [closure_loop env _ (fun n k c => rfl) scope.names [] h]
  rfl
theorem mem_lookup {α : Type} : ∀ {l : List (Str × α)} {n : Str} {c : α}, (n, c) ∈ l → ∃ c', l.lookup n = some c'
  | (k, v) :: r, n, c, h => by
    rw [List.lookup_cons]
    cases hb : n == k with
    | true => exact ⟨_, rfl⟩
    | false =>
      rcases List.mem_cons.mp h with e | h
      · cases e; simp at hb
      · exact mem_lookup h
theorem cloFrom_mem {cells : List (Str × Addr)} : ∀ {names : List (Str × NameKind)} {acc : List (Str × Addr)} {n : Str} {c : Addr}, (n, c) ∈ cloFrom cells names acc → (n, c) ∈ acc ∨ ((n, .free) ∈ names ∧ c = (cells.lookup n).getD 0)
  | [], _, _, _, h => .inl h
  | (m, k) :: r, acc, n, c, h => by
    unfold cloFrom at h
    split at h
    · rename_i hk
      have hk : k = .free := by simpa using hk
      rcases cloFrom_mem h with h | ⟨h1, h2⟩
      · rcases List.mem_cons.mp h with e | h
        · cases e; exact .inr ⟨hk ▸ List.mem_cons_self, rfl⟩
        · exact .inl h
      · exact .inr ⟨List.mem_cons_of_mem _ h1, h2⟩
    · rcases cloFrom_mem h with h | ⟨h1, h2⟩
      · exact .inl h
      · exact .inr ⟨List.mem_cons_of_mem _ h1, h2⟩
theorem cloFrom_acc {cells : List (Str × Addr)} : ∀ {names : List (Str × NameKind)} {acc : List (Str × Addr)} {p : Str × Addr}, p ∈ acc → p ∈ cloFrom cells names acc
  | [], _, _, h => h
  | (m, k) :: r, acc, p, h => by
    unfold cloFrom
    split
    · exact cloFrom_acc (List.mem_cons_of_mem _ h)
    · exact cloFrom_acc h
theorem cloFrom_has {cells : List (Str × Addr)} : ∀ {names : List (Str × NameKind)} {acc : List (Str × Addr)} {n : Str}, (n, .free) ∈ names → (n, (cells.lookup n).getD 0) ∈ cloFrom cells names acc
  | (m, k) :: r, acc, n, h => by
    unfold cloFrom
    rcases List.mem_cons.mp h with e | h
    · cases e
      exact cloFrom_acc List.mem_cons_self
    · split
      · exact cloFrom_has h
      · exact cloFrom_has h
theorem cells_mem : ∀ {names : List (Str × NameKind)} {h : Heap} {acc : List (Str × Addr)} {x : Str} {c : Addr}, (x, c) ∈ cellsFrom h.objs.size names acc →
    (x, c) ∈ acc ∨ ((x, .cell) ∈ names ∧ h.objs.size ≤ c ∧ CellAt (pushCells h names) c none)
  | [], _, _, _, _, h => .inl h
  | (n, k) :: r, h, acc, x, c, hm => by
    unfold cellsFrom at hm
    unfold pushCells
    split at hm
    · rename_i hk
      rw [if_pos hk]
      have hk : k = .cell := by simpa using hk
      rw [← Heap.size_push h { cls := .type "cell", data := .cell none }] at hm
      rcases cells_mem hm with hm | ⟨h1, h2, h3⟩
      · rcases List.mem_cons.mp hm with e | hm
        · cases e
          exact .inr ⟨hk ▸ List.mem_cons_self, Nat.le_refl _, _, pushCells_keeps r _ _ _ (Heap.get?_push_size _ rfl), rfl⟩
        · exact .inl hm
      · rw [Heap.size_push] at h2
        exact .inr ⟨List.mem_cons_of_mem _ h1, Nat.le_of_succ_le h2, h3⟩
    · rename_i hk
      rw [if_neg hk]
      rcases cells_mem hm with hm | ⟨h1, h2, h3⟩
      · exact .inl hm
      · exact .inr ⟨List.mem_cons_of_mem _ h1, h2, h3⟩
theorem cells_acc : ∀ {names : List (Str × NameKind)} {n : Nat} {acc : List (Str × Addr)} {p : Str × Addr}, p ∈ acc → p ∈ cellsFrom n names acc
  | [], _, _, _, h => h
  | (m, k) :: r, n, acc, p, h => by
    unfold cellsFrom
    split
    · exact cells_acc (List.mem_cons_of_mem _ h)
    · exact cells_acc h
theorem cells_has : ∀ {names : List (Str × NameKind)} {n : Nat} {acc : List (Str × Addr)} {x : Str}, (x, .cell) ∈ names → ∃ c, (x, c) ∈ cellsFrom n names acc
  | (m, k) :: r, n, acc, x, h => by
    unfold cellsFrom
    rcases List.mem_cons.mp h with e | h
    · cases e
      exact ⟨n, cells_acc List.mem_cons_self⟩
    · split
      · exact cells_has h
      · exact cells_has h
theorem cells_inj : ∀ {names : List (Str × NameKind)} {h : Heap} {acc : List (Str × Addr)} {x y : Str} {c : Addr}, (∀ p ∈ acc, p.2 < h.objs.size) → (∀ x y c, (x, c) ∈ acc → (y, c) ∈ acc → x = y) →
    (x, c) ∈ cellsFrom h.objs.size names acc → (y, c) ∈ cellsFrom h.objs.size names acc → x = y
  | [], _, _, _, _, _, _, hi, h1, h2 => hi _ _ _ h1 h2
  | (n, k) :: r, h, acc, x, y, c, hl, hi, h1, h2 => by
    unfold cellsFrom at h1 h2
    split at h1
    · rename_i hk
      rw [if_pos hk] at h2
      rw [← Heap.size_push h { cls := .type "cell", data := .cell none }] at h1 h2
      refine cells_inj (h := h.push _) (fun p hp => ?_) (fun x y c a b => ?_) h1 h2
      · rw [Heap.size_push]
        rcases List.mem_cons.mp hp with rfl | hp
        · exact Nat.lt_succ_self _
        · exact Nat.lt_succ_of_lt (hl p hp)
      · rcases List.mem_cons.mp a with e | a <;> rcases List.mem_cons.mp b with e' | b
        · cases e; cases e'; rfl
        · cases e; exact absurd (hl _ b) (Nat.lt_irrefl _)
        · cases e'; exact absurd (hl _ a) (Nat.lt_irrefl _)
        · exact hi _ _ _ a b
    · rename_i hk
      rw [if_neg hk] at h2
      exact cells_inj hl hi h1 h2
theorem newEnv_comp {M : Model} {A : Around} {E : Value → Shared → Prop} {s : Shared} {scope : Scope} {globals : Addr} {closure : List (Str × Addr)} {qual : Str} {func : Option Addr} {code : Value} {around : Env} {builtins : Addr} {Q : Env → Shared → Prop}
    (h : Q (newEnv scope s.heap.objs.size globals (cellsFrom (s.heap.objs.size + 1) scope.names closure) qual func code (some around) builtins)
      { s with heap := pushCells (s.heap.push { cls := .type "dict", data := .dict #[] }) scope.names }) :
    wpAny M A (newFunctionEnv scope globals closure [] qual func code (some around) builtins) Q E s := by
  simp only [newFunctionEnv, Option.isSome_some, if_true]
  refine wpAny_bind (wpAny_alloc ?_)
  refine wpAny_bind (wpAny_layCells _ (fun n k c => rfl) scope.names closure _ _ ?_)
  rw [show ({ s with heap := s.heap.push { cls := .type "dict", data := .dict #[] } } : Shared).heap.objs.size = s.heap.objs.size + 1 from Heap.size_push ..]
  rw [List.forIn_nil]
  exact wpAny_bind (wpAny_pure (wpAny_pure h))
theorem lookup_relS {sc : Scope} : ∀ {names : List (Str × NameKind)} {x : Str} {k : NameKind},
    (names.map fun (n, k) => if (k == NameKind.free && sc.kind == .function && sc.names.lookup n == some .cell) then (n, NameKind.cell) else (n, k)).lookup x = some k →
    ∃ k', names.lookup x = some k' ∧ (k = k' ∨ (k' = .free ∧ k = .cell))
  | [], _, _, h => by simp at h
  | (n, k₀) :: r, x, k, h => by
    have ih := @lookup_relS sc r x k
    have h' : List.lookup x ((if (k₀ == NameKind.free && sc.kind == .function && sc.names.lookup n == some .cell) = true then (n, NameKind.cell) else (n, k₀)) :: (r.map _)) = some k := h
    cases hx : x == n with
    | true =>
      simp only [List.lookup_cons, hx]
      by_cases hc : (k₀ == NameKind.free && sc.kind == .function && sc.names.lookup n == some .cell) = true
      · rw [if_pos hc] at h'
        simp only [List.lookup_cons, hx] at h'
        cases h'
        simp only [Bool.and_eq_true, beq_iff_eq] at hc
        exact ⟨k₀, rfl, .inr ⟨hc.1.1, rfl⟩⟩
      · rw [if_neg hc] at h'
        simp only [List.lookup_cons, hx] at h'
        cases h'
        exact ⟨_, rfl, .inl rfl⟩
    | false =>
      simp only [List.lookup_cons, hx]
      by_cases hc : (k₀ == NameKind.free && sc.kind == .function && sc.names.lookup n == some .cell) = true
      · rw [if_pos hc] at h'
        simp only [List.lookup_cons, hx] at h'
        exact ih h'
      · rw [if_neg hc] at h'
        simp only [List.lookup_cons, hx] at h'
        exact ih h'
structure BlkOk (N : List Str) (sc scope : Scope) (own : List (Str × Nat)) : Prop where
  kind : scope.kind = .function
  uniq : ∀ y ∈ scope.names, scope.names.lookup y.1 = some y.2
  ix : ∀ p ∈ own, N[p.2]? = some p.1
  free : ∀ y ∈ scope.names, y.2 = .free → sc.names.lookup y.1 = some .cell ∨ sc.names.lookup y.1 = some .free
  own : ∀ y ∈ scope.names, y.2 = .local ∨ y.2 = .cell → y.1 ∈ own.map (·.1) ∨ y.1 ∉ N
def wipe (σ : St) : List Nat → St
  | [] => σ
  | v :: vs => (wipe σ vs).set v none
theorem wipe_length (σ : St) : ∀ vs : List Nat, (wipe σ vs).length = σ.length
  | [] => rfl
  | v :: vs => by unfold wipe; rw [List.length_set, wipe_length σ vs]
theorem wipe_some {σ : St} {i : Nat} {x : V} : ∀ {vs : List Nat}, (wipe σ vs)[i]? = some (some x) → σ[i]? = some (some x) ∧ i ∉ vs
  | [], h => ⟨h, by simp⟩
  | v :: vs, h => by
    unfold wipe at h
    by_cases hi : v = i
    · subst hi
      by_cases hv : v < (wipe σ vs).length
      · rw [List.getElem?_set_self hv] at h; cases h
      · rw [List.getElem?_eq_none (by simpa using hv)] at h; cases h
    · rw [List.getElem?_set_ne hi] at h
      obtain ⟨h1, h2⟩ := wipe_some h
      exact ⟨h1, by simp only [List.mem_cons, not_or]; exact ⟨fun e => hi e.symm, h2⟩⟩
abbrev Cx.blk (X : Cx) (s : Shared) (H : Hp) (scope : Scope) (cenv : Env) (fp : List Addr) : Cx := { X with s_0 := s, H_0 := H, env := cenv, outer := X.stack, ex := fp, fn := fun x => scope.names.lookup x == some .cell, pn := [], xe := fun _ _ => False }
section
variable {X : Cx} {pins : List (Addr × Obj)} {σ : St} {H : Hp} {s : Shared}
theorem block_start {scope : Scope} {own : List (Str × Nat)} {fp : List Addr} (I : Inv X pins σ H s) (ok : BlkOk X.N X.env.scope scope own) (hN : X.N.Nodup) (hfp : ∀ b ∈ fp, FpOk X pins H b ∧ b < s.heap.objs.size) :
    Inv (X.blk s H scope (compEnvC scope (cellsFrom (s.heap.objs.size + 1) scope.names (cloFrom X.env.cells scope.names [])) s.heap.objs.size X.env) fp) [] (wipe σ (own.map (·.2))) H { s with heap := pushCells (s.heap.push { cls := .type "dict", data := .dict #[] }) scope.names } := by
  have hfree : ∀ y ∈ scope.names, y.2 = .free → ∃ c, X.env.cells.lookup y.1 = some c := fun y hy e => by
    rcases ok.free y hy e with k | k
    · exact I.ok.has _ (.inl k)
    · exact I.ok.has _ (.inr k)
  generalize hcenv : compEnvC scope (cellsFrom (s.heap.objs.size + 1) scope.names (cloFrom X.env.cells scope.names [])) s.heap.objs.size X.env = cenv
  have kp : ∀ b o, s.heap.get? b = some o → (pushCells (s.heap.push { cls := .type "dict", data := .dict #[] }) scope.names).get? b = some o := fun b o e => pushCells_keeps _ _ _ _ (Heap.get?_push_of_some _ e)
  have hL : cenv.locals = s.heap.objs.size := by rw [← hcenv]; rfl
  have hcl : cenv.cells = cellsFrom (s.heap.objs.size + 1) scope.names (cloFrom X.env.cells scope.names []) := by rw [← hcenv]; rfl
  have hsc : cenv.scope = relS scope X.env.scope := by rw [← hcenv]; rfl
  rw [← Heap.size_push s.heap { cls := .type "dict", data := .dict #[] }] at hcl
  have cm : ∀ {y c}, (y, c) ∈ cloFrom X.env.cells scope.names [] → X.env.cells.lookup y = some c ∧ c < s.heap.objs.size := fun {y c} hm => by
    rcases cloFrom_mem hm with hm | ⟨h1, rfl⟩
    · cases hm
    · obtain ⟨c, hc⟩ := hfree _ h1 rfl
      rw [hc]
      obtain ⟨w, z⟩ := I.cell _ _ hc
      exact ⟨rfl, z.lt⟩
  have mem : ∀ {y c}, cenv.cells.lookup y = some c → (X.env.cells.lookup y = some c ∧ c < s.heap.objs.size) ∨ (s.heap.objs.size + 1 ≤ c ∧ CellAt (pushCells (s.heap.push { cls := .type "dict", data := .dict #[] }) scope.names) c none) := fun {y c} e => by
    rw [hcl] at e
    rcases cells_mem (PySem.mem_of_lookup e) with hm | ⟨_, h2, h3⟩
    · exact .inl (cm hm)
    · rw [Heap.size_push] at h2; exact .inr ⟨h2, h3⟩
  have look : ∀ {y}, scope.names.lookup y = some .free → ∃ c, cenv.cells.lookup y = some c ∧ X.env.cells.lookup y = some c := fun {y} hl => by
    have hy : (y, NameKind.free) ∈ scope.names := PySem.mem_of_lookup hl
    obtain ⟨c', e'⟩ := mem_lookup (cells_acc (names := scope.names) (n := (s.heap.push { cls := .type "dict", data := .dict #[] }).objs.size) (cloFrom_has (cells := X.env.cells) (acc := []) hy))
    rw [← hcl] at e'
    refine ⟨c', e', ?_⟩
    rw [hcl] at e'
    rcases cells_mem (PySem.mem_of_lookup e') with hm | ⟨h1, _, _⟩
    · exact (cm hm).1
    · have := ok.uniq _ h1
      rw [hl] at this; cases this
  have okB : (X.blk s H scope cenv fp).Ok := by
    refine ⟨I.ok.mod, by show cenv.scope.kind = _; rw [hsc]; exact ok.kind, by show cenv.globals = _; rw [← hcenv]; exact I.ok.glob, by show cenv.builtins = _; rw [← hcenv]; exact I.ok.blt, by show s.heap.objs.size ≤ cenv.locals; rw [hL]; exact Nat.le_refl _,
      fun y z c e1 e2 => ?_, fun y hy => ?_, fun y c z e => ?_, I.ok.hd, I.ok.frames, .inl rfl, fun b hb => ⟨?_, fun y c e z => ?_⟩, I.bs, Nat.le_trans I.ok.bsz I.sz, fun b o e hb => ?_, fun b hb z => ?_, I.stack, I.stkFree⟩
    · have e1 : cenv.cells.lookup y = some c := e1
      have e2 : cenv.cells.lookup z = some c := e2
      rw [hcl] at e1 e2
      refine cells_inj (fun p hp => ?_) (fun y z c a b => I.ok.inj y z c (cm a).1 (cm b).1) (PySem.mem_of_lookup e1) (PySem.mem_of_lookup e2)
      rw [Heap.size_push]
      exact Nat.lt_succ_of_lt (cm (y := p.1) (c := p.2) hp).2
    · show ∃ c, cenv.cells.lookup y = some c
      have key : ∀ k, cenv.kindOf y = some k → (k = .cell ∨ k = .free) → ∃ c, cenv.cells.lookup y = some c := fun k hk hk' => by
        unfold Env.kindOf at hk
        rw [hsc] at hk
        obtain ⟨k', e, r⟩ := lookup_relS hk
        have : k' = .cell ∨ k' = .free := by
          rcases r with rfl | ⟨rfl, _⟩
          · exact hk'
          · exact .inr rfl
        rcases this with rfl | rfl
        · obtain ⟨c, hm⟩ := cells_has (n := (s.heap.push { cls := .type "dict", data := .dict #[] }).objs.size) (acc := cloFrom X.env.cells scope.names []) (PySem.mem_of_lookup e)
          obtain ⟨c', e'⟩ := mem_lookup hm
          exact ⟨c', by rw [hcl]; exact e'⟩
        · obtain ⟨c, h1, _⟩ := look e
          exact ⟨c, h1⟩
      rcases hy with hy | hy
      · exact key _ hy (.inl rfl)
      · exact key _ hy (.inr rfl)
    · have z : (scope.names.lookup y == some NameKind.cell) = true := z
      have z : scope.names.lookup y = some .cell := by simpa using z
      have e : cenv.cells.lookup y = some c := e
      rw [hcl] at e
      rcases cells_mem (PySem.mem_of_lookup e) with hm | ⟨_, h2, _⟩
      · rcases cloFrom_mem hm with hm | ⟨h1, _⟩
        · cases hm
        · have q := ok.uniq _ h1
          rw [z] at q; cases q
      · rw [Heap.size_push] at h2
        exact Nat.le_of_succ_le h2
    · show b ≠ cenv.locals
      rw [hL]; exact Nat.ne_of_lt (hfp b hb).2
    · have e : cenv.cells.lookup y = some c := e
      rcases mem e with ⟨h1, _⟩ | ⟨h1, _⟩
      · exact (hfp b hb).1.2.2.2.2.1 y c h1 z
      · have h2 : s.heap.objs.size + 1 ≤ b := by rw [← z]; exact h1
        exact absurd (Nat.lt_of_lt_of_le (hfp b hb).2 (Nat.le_of_succ_le h2)) (Nat.lt_irrefl _)
    · rcases (hfp b hb).1.2.2.2.1 with z | z
      · exact I.ok.noex b o e z
      · exact absurd (Nat.lt_of_lt_of_le (Heap.lt_size e) (Nat.le_trans I.ok.bsz z)) (Nat.lt_irrefl _)
    · rcases List.mem_cons.mp (I.stkSub b z) with z | z
      · exact (hfp b hb).1.2.1 z
      · exact (hfp b hb).1.2.2.1 z
  refine ⟨okB, rfl, I.bare, Un.kept kp, ⟨fun _ => none, ?_, fun i y av e1 e2 e3 => ?_⟩, fun y c e => ?_, ?_, fun y c e => ?_, fun p hp => ?_, I.hok.kept kp, by rw [wipe_length]; exact I.len⟩
  · show Heap.Ns _ cenv.locals _
    rw [hL]
    exact Heap.Ns.keeps (Heap.Ns.new ..) fun b o e => pushCells_keeps _ _ _ _ e
  · obtain ⟨e2, hne⟩ := wipe_some e2
    have hfr : scope.names.lookup y = some .free ∧ (cenv.kindOf y = some .cell ∨ cenv.kindOf y = some .free) := by
      have key : ∀ k, cenv.scope.names.lookup y = some k → k = .local ∨ k = .cell ∨ k = .free → scope.names.lookup y = some .free ∧ (cenv.kindOf y = some .cell ∨ cenv.kindOf y = some .free) := fun k hk hk' => by
        have hk0 := hk
        rw [hsc] at hk
        obtain ⟨k', e, r⟩ := lookup_relS hk
        have no : ¬ (k' = .local ∨ k' = .cell) := fun hh => by
          rcases ok.own _ (PySem.mem_of_lookup e) hh with e' | e'
          · obtain ⟨p, hp, hpy⟩ := List.mem_map.mp e'
            have e3 := ok.ix p hp
            have : p.1 = y := hpy
            rw [this] at e3
            exact hne (List.mem_map.mpr ⟨p, hp, nodup_ix hN e3 e1⟩)
          · exact e' (List.mem_of_getElem? e1)
        rcases r with rfl | ⟨rfl, rfl⟩
        · rcases hk' with rfl | rfl | rfl
          · exact absurd (.inl rfl) no
          · exact absurd (.inr rfl) no
          · exact ⟨e, .inr hk0⟩
        · exact ⟨e, .inl hk0⟩
      have e3 : Vis cenv.scope y := e3
      rcases e3 with e3 | e3 | e3
      · exact key _ e3 (.inl rfl)
      · exact key _ e3 (.inr (.inl rfl))
      · exact key _ e3 (.inr (.inr rfl))
    obtain ⟨m, hn, hl⟩ := I.loc
    have hvis : Vis X.env.scope y := (ok.free _ (PySem.mem_of_lookup hfr.1) rfl).elim (fun k => .inr (.inl k)) (fun k => .inr (.inr k))
    obtain ⟨w, r, q⟩ := hl i y av e1 e2 hvis
    refine ⟨w, r, .inr ⟨hfr.2, ?_⟩⟩
    obtain ⟨c, h1, h2⟩ := look hfr.1
    rcases q with ⟨k, _⟩ | ⟨_, c', e', z⟩
    · have k : X.env.scope.names.lookup y = some .local := k
      rcases ok.free _ (PySem.mem_of_lookup hfr.1) rfl with k' | k' <;> rw [show X.env.scope.names.lookup y = _ from k'] at k <;> cases k
    · rw [h2] at e'; cases e'
      exact ⟨c, h1, z.keeps kp⟩
  · have e : cenv.cells.lookup y = some c := e
    rcases mem e with ⟨h1, _⟩ | ⟨_, z⟩
    · obtain ⟨w, z⟩ := I.cell y c h1
      exact ⟨w, z.keeps kp⟩
    · exact ⟨_, z⟩
  · show H cenv.locals = none
    rw [hL]; exact I.hok.fresh (Nat.le_refl _)
  · have e : cenv.cells.lookup y = some c := e
    rcases mem e with ⟨h1, _⟩ | ⟨h1, _⟩
    · exact I.freeC y c h1
    · exact I.hok.fresh (Nat.le_of_succ_le h1)
  · exact absurd (show p ∈ ([] : List (Addr × Obj)) ++ [] from hp) (by simp)
theorem app_ok {E : Value → Shared → Prop} {D : Addr} {xs : List V} {y : V} {v : Value} {Q : Value → Shared → Prop} (I : Inv X pins σ H s) (hD : H D = some (.lst xs)) (hz : xs.length < sizeLine) (r : RelV y v)
    (h : ∀ s', Inv X pins σ (upd H D (.lst (xs ++ [y]))) s' → Q .none s') : wpAny (model X.prog X.w) X.A (call (.builtin "list.append") [.ref D, v]) Q E s := by
  obtain ⟨hz', its, n, ri, e⟩ := I.hok D _ hD
  have hl := ri.length
  refine append_at (hsz := by rw [List.size_toArray]; omega) e fun h' sb ho' => ?_
  refine h { s with heap := h' } (I.write (t' := s.toks) (by rw [hD]; trivial) (.inl rfl) (fun b u hb q => (sb.2 b hb).trans q) ⟨_, ho'⟩ ⟨by rw [List.length_append]; exact hz, its ++ [v], n + 1, ri.append (.cons r .nil), ?_⟩)
  rw [ho']
  simp
def PTs (X : Cx) (ifs : List Expr) (t : TT) : Prop :=
  ∀ (pins : List (Addr × Obj)) (s : Shared) (σ : St) (H : Hp) (Q : Bool → Hp → Prop), Inv X pins σ H s → t σ H Q →
    wpAny (model X.prog X.w) X.A (forIn ifs true fun c r => if r = true then do let ok ← isTrue c X.env (eval c X.env); pure (ForInStep.yield ok) else pure (ForInStep.yield r)) (TP X pins σ Q) X.xe s
def tYes : TT := fun _ H Q => Q true H
theorem pts_nil : PTs X [] tYes := fun _ _ _ H _ I h => wpAny_tests_nil ⟨H, I, h⟩
theorem pts_one {c : Expr} {t : TT} (h : PT X c t) : PTs X [c] t := fun pins s σ H Q I hw => wpAny_tests_one (h pins s σ H Q I hw)
end
theorem thnF {α : Type} {t : Sem α} {Q Q' : α → Shared → Prop} {M : Model} {A : Around} {E : Value → Shared → Prop} {s : Shared} (h : wpAny M A t Q (fun _ _ => False) s) (hQ : ∀ a s, Q a s → Q' a s) : wpAny M A t Q' E s := wpAny_mono h hQ fun _ _ z => False.elim z
theorem compLoop_any {prog : Program} {w : World} {A : Around} {R : Result → Shared → Prop} {s : Shared} {elt target iter : Expr} {ifs : List Expr} {scope : Scope} {pos : Pos} {it acc : Value} {env : Env} (I : Nat → Shared → Prop)
    (turn : ∀ n s, I n s → wpAny (model prog w) A (pyNext it) (fun r s₁ => match r with
      | none => R (.ok .next) s₁
      | some v => wpAny (model prog w) A (letOwnedTupleGo target it v) (fun _ s₁' => wpAny (model prog w) A (assign target env v) (fun _ s₂ =>
          wpAny (model prog w) A (forIn ifs true fun c r => if r = true then do let ok ← isTrue c env (eval c env); pure (ForInStep.yield ok) else pure (ForInStep.yield r)) (fun ok s₃ =>
            if ok = true then wpAny (model prog w) A (eval elt env) (fun x s₄ =>
              wpAny (model prog w) A (call (.builtin "list.append") [acc, x]) (fun _ s₅ => ∃ m, m < n ∧ I m s₅) (notedBy (model prog w) A env fun e s' => R (.error e) s') s₄) (notedBy (model prog w) A env fun e s' => R (.error e) s') s₃
            else ∃ m, m < n ∧ I m s₃) (notedBy (model prog w) A env fun e s' => R (.error e) s') s₂) (notedBy (model prog w) A env fun e s' => R (.error e) s') s₁') (notedBy (model prog w) A env fun e s' => R (.error e) s') s₁) (notedBy (model prog w) A env fun e s' => R (.error e) s') s)
    (n : Nat) (h : I n s) :
    codeAny (model prog w) A (.compLoop (.ListComp elt [⟨target, iter, ifs, 0⟩] scope pos) 0 it acc env) R s := by
  refine codeAny_loop rfl I (fun n s hI => ?_) n h
  show wpAny _ A ((compTurn (.ListComp elt [⟨target, iter, ifs, 0⟩] scope pos) 0 it acc env).onRaise (fun x => do noteFrame x env; theTreesLotGoes x)) _ _ s
  refine wpAny_noted ?_
  rw [compTurn_list]
  refine wpAny_bind (wpAny_standAt (wpAny_bind (wpAny_mono (turn n s hI) (fun r s₁ h₁ => ?_) fun _ _ h' => h')))
  cases r with
  | none => exact wpAny_pure h₁
  | some v =>
    refine wpAny_bind (wpAny_mono h₁ (fun _ s₁' h₁' => ?_) fun _ _ h' => h')
    refine wpAny_bind (wpAny_mono h₁' (fun _ s₂ h₂ => wpAny_bind (wpAny_mono h₂ (fun ok s₃ h₃ => ?_) fun _ _ h' => h')) fun _ _ h' => h')
    cases ok with
    | false => exact wpAny_pure ⟨rfl, h₃⟩
    | true =>
      exact wpAny_bind (wpAny_bind (wpAny_mono h₃ (fun x s₄ h₄ => wpAny_bind (wpAny_mono h₄ (fun _ s₅ h₅ => wpAny_pure (wpAny_pure ⟨rfl, h₅⟩)) fun _ _ h' => h')) fun _ _ h' => h'))
section
variable {X : Cx}
def tLc (wi : TI) (g : TG) (tt : TT) (te : TE) (vs : List Nat) : TE := fun σ H Q => wi σ H fun J H1 => ∀ D, H1 D = none → ∃ W : Nat → Nat → Hp → Prop, (∃ m, W 0 m (upd H1 D (.lst []))) ∧ ∀ i m H, W i m H →
  (J.stop i H ∧ Q (.ref D) H) ∨ (J.go i H ∧ ∃ Nx : Hp → Prop, (∀ H', Nx H' → ∃ m', m' < m ∧ W (i + 1) m' H') ∧ ∀ x H', J.yld i H x H' → g x (wipe σ vs) H' fun σ2 H2 => wipe σ2 vs = wipe σ vs ∧ tt σ2 H2 fun b H3 =>
    if b = true then te σ2 H3 fun y H4 => ∃ acc, H4 D = some (.lst acc) ∧ acc.length < sizeLine ∧ Nx (upd H4 D (.lst (acc ++ [y]))) else Nx H3)
theorem lc_core {pins : List (Addr × Obj)} {s : Shared} {σ : St} {H : Hp} {Q : VK} {elt tg iter : Expr} {ifs : List Expr} {scope : Scope} {own : List (Str × Nat)} {pos pos' : Pos} {wi : TI} {g : TG} {tt : TT} {te : TE} {use : Option (Value → Sem Unit)} {Qf : Value → Shared → Prop}
    (hc : X.calm = true) (hN : X.N.Nodup) (I : Inv X pins σ H s) (hi : PI X tg iter wi) (ok : BlkOk X.N X.env.scope scope own)
    (hg : ∀ (s : Shared) (H : Hp) (C : Addr) (cl : List (Str × Addr)) (fp : List Addr), PG (X.blk s H scope (compEnvC scope cl C X.env) fp) tg g) (ht : ∀ (s : Shared) (H : Hp) (C : Addr) (cl : List (Str × Addr)) (fp : List Addr), PTs (X.blk s H scope (compEnvC scope cl C X.env) fp) ifs tt)
    (he : ∀ (s : Shared) (H : Hp) (C : Addr) (cl : List (Str × Addr)) (fp : List Addr), PE (X.blk s H scope (compEnvC scope cl C X.env) fp) elt te) (hs : ∀ x, foldedSetIterable iter X.env x = pure x)
    (h : tLc wi g tt te (own.map (·.2)) σ H Q)
    (hRR : ∀ D C s' m H', Inv X pins σ H' s' → Q (.ref D) H' → s'.heap.Ns C m → FpOk X pins H' C → compPost (model X.prog X.w) X.A X.xe use Qf (.ref D) C (.ok .next) s') :
    wpAny (model X.prog X.w) X.A (comprehension (.ListComp elt [⟨tg, iter, ifs, 0⟩] scope pos) scope X.env pos' (newList []) false (eval iter X.env) use) Qf X.xe s := by
  have hfree : ∀ y ∈ scope.names, y.2 = .free → ∃ c, X.env.cells.lookup y.1 = some c := fun y hy e => by
    rcases ok.free y hy e with k | k
    · exact I.ok.has _ (.inl k)
    · exact I.ok.has _ (.inr k)
  refine wpAny_comprehension_free (use := use) rfl hs (closure_ok hfree) ok.kind (fun y hy e => by rw [ok.uniq y hy, e])
    (thn (hi pins s σ H _ I h) fun xv s1 hx => thn hx fun itv s2 h2 => ?_)
  obtain ⟨it, fp, tn, J, H2, e, I2, T, st2, f2, q⟩ := h2
  subst e
  refine wpAny_newObj_type (newEnv_comp ?_) (by show 0 ≤ sizeLine; decide)
  generalize hD : s2.heap.objs.size = D
  have hDn : H2 D = none := I2.hok.fresh (Nat.le_of_eq hD)
  obtain ⟨W, ⟨m0, w0⟩, turn⟩ := q D hDn
  generalize hs3 : ({ s2 with heap := s2.heap.push { cls := .type "list", data := .seq ([] : List Value).toArray } } : Shared) = s3
  have I3 : Inv X pins σ (upd H2 D (.lst [])) s3 := by
    rw [← hs3]
    refine I2.laid (t' := s2.toks) (fun b o e => Heap.get?_push_of_some _ e) (Nat.le_of_eq hD) ⟨Nat.zero_le _, [], 0, .nil, ?_⟩
    rw [← hD]
    exact Heap.get?_push_size _ rfl
  have h3 : s3.heap = s2.heap.push { cls := .type "list", data := .seq ([] : List Value).toArray } := by rw [← hs3]
  have sz : ∀ b ∈ fp, b < s2.heap.objs.size := fun b hb => by
    obtain ⟨o, e, _⟩ := T.obj _ _ st2 b hb
    exact Heap.lt_size e
  have f3 : ∀ b ∈ fp, FpOk X pins (upd H2 D (.lst [])) b ∧ b < s3.heap.objs.size := fun b hb => by
    have hlt := sz b hb
    refine ⟨⟨?_, (f2 b hb).2⟩, by rw [h3, Heap.size_push]; exact Nat.lt_succ_of_lt hlt⟩
    rw [upd_ne (by rw [← hD]; exact Nat.ne_of_lt hlt)]
    exact (f2 b hb).1
  have st3 : tn 0 s3.heap := T.keep _ _ _ st2 fun b _ o e => by rw [h3]; exact Heap.get?_push_of_some _ e
  have I4 := block_start I3 ok hN f3
  have pg := hg s3 (upd H2 D (.lst [])) s3.heap.objs.size (cellsFrom (s3.heap.objs.size + 1) scope.names (cloFrom X.env.cells scope.names [])) fp
  have pt := ht s3 (upd H2 D (.lst [])) s3.heap.objs.size (cellsFrom (s3.heap.objs.size + 1) scope.names (cloFrom X.env.cells scope.names [])) fp
  have pe := he s3 (upd H2 D (.lst [])) s3.heap.objs.size (cellsFrom (s3.heap.objs.size + 1) scope.names (cloFrom X.env.cells scope.names [])) fp
  show codeAny _ _ (.compStart (.ListComp elt [⟨tg, iter, ifs, 0⟩] scope pos) 0 (.ref it) (.ref D) (compEnvC scope (cellsFrom (s3.heap.objs.size + 1) scope.names (cloFrom X.env.cells scope.names [])) s3.heap.objs.size X.env)) (compPost (model X.prog X.w) X.A X.xe use Qf (.ref D) s3.heap.objs.size) { s3 with heap := pushCells (s3.heap.push { cls := .type "dict", data := .dict #[] }) scope.names }
  have nfp : ∀ b ∈ fp, (upd H2 D (.lst [])) b = none := fun b hb => (f3 b hb).1.1
  generalize hce : compEnvC scope (cellsFrom (s3.heap.objs.size + 1) scope.names (cloFrom X.env.cells scope.names [])) s3.heap.objs.size X.env = ce at I4 pg pt pe ⊢
  have cL : ce.locals = s3.heap.objs.size := by subst hce; rfl
  generalize hH3 : upd H2 D (.lst []) = H3 at I3 I4 pg pt pe w0 nfp f3
  generalize hs4 : ({ s3 with heap := pushCells (s3.heap.push { cls := .type "dict", data := .dict #[] }) scope.names } : Shared) = s4 at I4 ⊢
  have st4 : tn 0 s4.heap := T.keep _ _ _ st3 fun b _ o e => by rw [← hs4]; exact pushCells_keeps _ _ _ _ (Heap.get?_push_of_some _ e)
  have stat : ∀ {σ' : St} {H' : Hp} {s' : Shared}, Inv (X.blk s3 H3 scope ce fp) [] σ' H' s' → (∀ b ∈ fp, H' b = none) → ∀ b ∈ fp, FpOk (X.blk s3 H3 scope ce fp) [] H' b := fun {σ' H' s'} I' hn b hb =>
    ⟨hn b hb, (I'.ok.exf b hb).1, I'.ok.exfs b hb, .inl hb, fun x c e => (I'.ok.exf b hb).2 x c e, fun p hp => absurd (show p ∈ ([] : List (Addr × Obj)) ++ [] from hp) (by simp)⟩
  have loop : codeAny (model X.prog X.w) X.A (.compLoop (.ListComp elt [⟨tg, iter, ifs, 0⟩] scope pos) 0 (.ref it) (.ref D) ce) (compPost (model X.prog X.w) X.A X.xe use Qf (.ref D) s3.heap.objs.size) s4 := by
    refine compLoop_any (fun n s' => ∃ i H', Inv (X.blk s3 H3 scope ce fp) [] (wipe σ (own.map (·.2))) H' s' ∧ tn i s'.heap ∧ (∀ b ∈ fp, H' b = none) ∧ W i n H') ?_ m0 ⟨0, H3, I4, st4, nfp, w0⟩
    rintro n s5 ⟨i, H5, I5, st5, n5, w5⟩
    rcases turn i n H5 w5 with ⟨stop, qq⟩ | ⟨go, Nx, hNx, step⟩
    · have td := T.done (X.blk s3 H3 scope ce fp) rfl rfl rfl hc i [] s5 _ H5 (fun _ _ => False) I5 (stat I5 n5) st5 stop
      refine thnF td fun r s6 ⟨hr, I6⟩ => ?_
      subst hr
      have I7 : Inv X pins σ H5 s6 := I3.call' (ch := fp) I6.os I6.base I6.hok I6.bare fun b hb => ⟨(f3 b hb).1.2.2.2.1, (f3 b hb).1.2.1, (f3 b hb).1.2.2.2.2.1, (f3 b hb).1.2.2.2.2.2⟩
      have nC : H5 s3.heap.objs.size = none := by
        have z : H5 ce.locals = none := I6.free
        rw [cL] at z
        exact z
      obtain ⟨m, hn, _⟩ := I6.loc
      have hn : s6.heap.Ns ce.locals m := hn
      rw [cL] at hn
      exact hRR D s3.heap.objs.size s6 m H5 I7 qq hn (I3.fpOk (Nat.le_refl _) nC)
    · have ti := T.item (X.blk s3 H3 scope ce fp) rfl rfl rfl hc i [] s5 _ H5 (fun _ _ => False) I5 (stat I5 n5) st5 go
      refine thnF ti fun r s6 ⟨u, hr, h6⟩ => ?_
      subst hr
      refine thnF h6 fun _ s7 ⟨x, H7, I7, r7, y7, st7, n7⟩ => ?_
      have I7' := I7.pinned (stat I7 n7) (T.obj _ _ st7)
      refine thnF (pg _ s7 _ H7 x u _ I7' r7 (step x H7 y7)) fun _ s8 ⟨σ8, H8, I8, hw8, q8⟩ => ?_
      refine thnF (pt _ s8 σ8 H8 _ I8 q8) fun b s9 ⟨H9, I9, q9⟩ => ?_
      have fin : ∀ {s' : Shared} {H' : Hp}, Inv (X.blk s3 H3 scope ce fp) ([] ++ pinsAt fp s7.heap) σ8 H' s' → Nx H' → ∃ m, m < n ∧ ∃ i H', Inv (X.blk s3 H3 scope ce fp) [] (wipe σ (own.map (·.2))) H' s' ∧ tn i s'.heap ∧ (∀ b ∈ fp, H' b = none) ∧ W i m H' := fun {s' H'} I' nx => by
        obtain ⟨m', hm, w'⟩ := hNx H' nx
        have pin' : ∀ b ∈ fp, ∀ o, s7.heap.get? b = some o → s'.heap.get? b = some o ∧ H' b = none := fun b hb o e =>
          let z := I'.pin (b, o) (List.mem_append_right _ (List.mem_append_right _ (mem_pinsAt hb e)))
          ⟨z.1, z.2.1⟩
        have hl : (wipe σ (own.map (·.2))).length = σ8.length := by rw [← hw8, wipe_length]
        refine ⟨m', hm, i + 1, H', (I'.unpinned (pins := [])).weak hl (fun j v e => ?_), T.keep _ _ _ st7 fun b hb o e => (pin' b hb o e).1, fun b hb => ?_, w'⟩
        · rw [← hw8] at e
          exact (wipe_some e).1
        · obtain ⟨o, e, _⟩ := T.obj _ _ st7 b hb
          exact (pin' b hb o e).2
      cases b with
      | false =>
        simp only [Bool.false_eq_true, if_false] at q9 ⊢
        exact fin I9 q9
      | true =>
        simp only [if_true] at q9 ⊢
        refine thnF (pe _ s9 σ8 H9 _ I9 q9) fun z s10 ⟨yv, H10, I10, r10, acc, hD10, hz10, nx⟩ => ?_
        exact app_ok (X := X.blk s3 H3 scope ce fp) I10 hD10 hz10 r10 fun s11 I11 => fin I11 nx
  exact codeAny_compStart_list loop (T.self X.A 0 _ _ _ st4 loop)
theorem pe_lc {elt tg iter : Expr} {ifs : List Expr} {scope : Scope} {own : List (Str × Nat)} {pos : Pos} {wi : TI} {g : TG} {tt : TT} {te : TE} (hc : X.calm = true) (hN : X.N.Nodup) (hi : PI X tg iter wi) (ok : BlkOk X.N X.env.scope scope own)
    (hg : ∀ (s : Shared) (H : Hp) (C : Addr) (cl : List (Str × Addr)) (fp : List Addr), PG (X.blk s H scope (compEnvC scope cl C X.env) fp) tg g) (ht : ∀ (s : Shared) (H : Hp) (C : Addr) (cl : List (Str × Addr)) (fp : List Addr), PTs (X.blk s H scope (compEnvC scope cl C X.env) fp) ifs tt)
    (he : ∀ (s : Shared) (H : Hp) (C : Addr) (cl : List (Str × Addr)) (fp : List Addr), PE (X.blk s H scope (compEnvC scope cl C X.env) fp) elt te) (hs : ∀ x, foldedSetIterable iter X.env x = pure x := by intro _; rfl) :
    PE X (.ListComp elt [⟨tg, iter, ifs, 0⟩] scope pos) (tLc wi g tt te (own.map (·.2))) := by
  intro pins s σ H Q I h
  rw [eval_ListComp]
  refine lc_core hc hN I hi ok hg ht he hs h fun D C s' m H' I' q hn f => ⟨m, hn, fun h'' sb => ?_⟩
  obtain ⟨f0, f1, f2, f3, f4, f5⟩ := f
  exact ⟨.ref D, H', I'.turned (t' := s'.toks) (fun b o hb e => (sb.2 b hb).trans e) f0 f1 f3 f4 f5, rfl, q⟩
theorem ps_setLc {i : Nat} {y : Str} {py : Pos} {elt tg iter : Expr} {ifs : List Expr} {scope : Scope} {own : List (Str × Nat)} {pos spos : Pos} {wi : TI} {g : TG} {tt : TT} {te : TE} (hc : X.calm = true) (hN : X.N.Nodup) (hy : X.N[i]? = some y) (hyl : X.env.scope.names.lookup y = some .local)
    (hsw : swapsWith (.ListComp elt [⟨tg, iter, ifs, 0⟩] scope pos) (some (.Name y py)) spos.line X.env = pure true) (hi : PI X tg iter wi) (ok : BlkOk X.N X.env.scope scope own)
    (hg : ∀ (s : Shared) (H : Hp) (C : Addr) (cl : List (Str × Addr)) (fp : List Addr), PG (X.blk s H scope (compEnvC scope cl C X.env) fp) tg g) (ht : ∀ (s : Shared) (H : Hp) (C : Addr) (cl : List (Str × Addr)) (fp : List Addr), PTs (X.blk s H scope (compEnvC scope cl C X.env) fp) ifs tt)
    (he : ∀ (s : Shared) (H : Hp) (C : Addr) (cl : List (Str × Addr)) (fp : List Addr), PE (X.blk s H scope (compEnvC scope cl C X.env) fp) elt te) (hs : ∀ x, foldedSetIterable iter X.env x = pure x := by intro _; rfl) :
    PS X (.Assign [.Name y py] (.ListComp elt [⟨tg, iter, ifs, 0⟩] scope pos) spos) (tAsg (tLc wi g tt te (own.map (·.2))) (gName i)) := by
  intro pins s σ H D I h
  rw [exec_Assign_Name_used _ _ _ _ hsw]
  refine wpAny_bind (wpAny_standAt (wpAny_bind ?_))
  show wpAny _ X.A (do let _ ← comprehension (.ListComp elt [⟨tg, iter, ifs, 0⟩] scope pos) scope X.env (firstIterPos [⟨tg, iter, ifs, 0⟩] pos) (newList []) false (eval iter X.env) (some (assign (.Name y py) X.env))) _ _ s
  have h : tLc wi g tt te (own.map (·.2)) σ H (fun x H1 => gName i x σ H1 D.nx) := h
  refine wpAny_bind (thn (lc_core (Qf := fun _ s' => SP X pins D .next s') hc hN I hi ok hg ht he hs h fun L C s' m H' I' q hn f => ?_) fun _ s' hq => wpAny_pure (wpAny_pure hq))
  show wpAny _ _ (assign (.Name y py) X.env (.ref L)) _ _ _
  refine wpAny_assign_Name (store_ok2 (v := V.ref L) I' hN hy (.inl hyl) rfl (fun s2 I2 ⟨a, sb, ha⟩ => ?_) (.inr hyl))
  obtain ⟨f0, f1, f2, f3, f4, f5⟩ := f
  have haC : C ≠ a := by
    rcases ha with z | z
    · rw [z]; exact f1
    · exact fun e => f4 y a z e.symm
  refine ⟨m, hn.sameBut sb haC, fun h3 sb3 => ?_⟩
  exact ⟨_, H', I2.turned (t' := s2.toks) (fun b o hb e => (sb3.2 b hb).trans e) f0 f1 f3 f4 f5, q⟩
theorem sw_true {elt : Expr} {gs : List Comprehension} {scope : Scope} {pos py : Pos} {y : Str} {l : Nat} {env : Env} (hk : env.scope.kind = .function) (hy : env.scope.names.lookup y = some .local) (hl : (py.line == pos.line) = true)
    (ha : (scope.names.any fun (n, k) => n == y && (k == .local || k == .cell)) = false) : swapsWith (.ListComp elt gs scope pos) (some (.Name y py)) l env = pure true := by
  have ky : env.kindOf y = some .local := hy
  have hb : env.blockKind = .function := by unfold Env.blockKind; rw [hk]; rfl
  unfold swapsWith
  simp only [hb, ky, ha, Expr.pos, hl]
  rfl
end
theorem lc_range {lo : Int} {n : Nat} {g : TG} {tt : TT} {te : TE} {vs : List Nat} {σ : St} {H1 : Hp} {D : Addr} {Qd : Hp → Prop} (Pv : Nat → Hp → Prop) (h0 : Pv 0 (upd H1 D (.lst [])))
    (hs : ∀ i H, i < n → Pv i H → g (.int (lo + i)) (wipe σ vs) H fun σ2 H2 => wipe σ2 vs = wipe σ vs ∧ tt σ2 H2 fun b H3 =>
      if b = true then te σ2 H3 fun y H4 => ∃ acc, H4 D = some (.lst acc) ∧ acc.length < sizeLine ∧ Pv (i + 1) (upd H4 D (.lst (acc ++ [y]))) else Pv (i + 1) H3) (hd : ∀ H, Pv n H → Qd H) :
    ∃ W : Nat → Nat → Hp → Prop, (∃ m, W 0 m (upd H1 D (.lst []))) ∧ ∀ i m H, W i m H →
      ((Itr lo n).stop i H ∧ Qd H) ∨ ((Itr lo n).go i H ∧ ∃ Nx : Hp → Prop, (∀ H', Nx H' → ∃ m', m' < m ∧ W (i + 1) m' H') ∧ ∀ x H', (Itr lo n).yld i H x H' → g x (wipe σ vs) H' fun σ2 H2 => wipe σ2 vs = wipe σ vs ∧ tt σ2 H2 fun b H3 =>
        if b = true then te σ2 H3 fun y H4 => ∃ acc, H4 D = some (.lst acc) ∧ acc.length < sizeLine ∧ Nx (upd H4 D (.lst (acc ++ [y]))) else Nx H3) := by
  refine ⟨fun i m H => m = n - i ∧ i ≤ n ∧ Pv i H, ⟨n, by simp, Nat.zero_le _, h0⟩, ?_⟩
  rintro i m H ⟨rfl, hi, p⟩
  by_cases hlt : i < n
  · refine .inr ⟨hlt, Pv (i + 1), fun H' p' => ⟨n - (i + 1), by omega, rfl, hlt, p'⟩, fun x H' y => ?_⟩
    obtain ⟨e, y⟩ := y
    subst e y
    exact hs i _ hlt p
  · have e : i = n := by omega
    subst e
    exact .inl ⟨Nat.le_refl _, hd H p⟩
theorem lc_list {K : PySem.W.Frag} {a : Addr} {xs : List V} {g : TG} {tt : TT} {te : TE} {vs : List Nat} {σ : St} {H1 : Hp} {D : Addr} {Qd : Hp → Prop} (Pv : Nat → Hp → Prop) (h0 : Pv 0 (upd H1 D (.lst []))) (hl : ∀ i H, i ≤ xs.length → Pv i H → SqL K H a xs)
    (hs : ∀ i x H, xs[i]? = some x → Pv i H → g x (wipe σ vs) H fun σ2 H2 => wipe σ2 vs = wipe σ vs ∧ tt σ2 H2 fun b H3 =>
      if b = true then te σ2 H3 fun y H4 => ∃ acc, H4 D = some (.lst acc) ∧ acc.length < sizeLine ∧ Pv (i + 1) (upd H4 D (.lst (acc ++ [y]))) else Pv (i + 1) H3) (hd : ∀ H, Pv xs.length H → Qd H) :
    ∃ W : Nat → Nat → Hp → Prop, (∃ m, W 0 m (upd H1 D (.lst []))) ∧ ∀ i m H, W i m H →
      ((Itl K a).stop i H ∧ Qd H) ∨ ((Itl K a).go i H ∧ ∃ Nx : Hp → Prop, (∀ H', Nx H' → ∃ m', m' < m ∧ W (i + 1) m' H') ∧ ∀ x H', (Itl K a).yld i H x H' → g x (wipe σ vs) H' fun σ2 H2 => wipe σ2 vs = wipe σ vs ∧ tt σ2 H2 fun b H3 =>
        if b = true then te σ2 H3 fun y H4 => ∃ acc, H4 D = some (.lst acc) ∧ acc.length < sizeLine ∧ Nx (upd H4 D (.lst (acc ++ [y]))) else Nx H3) := by
  refine ⟨fun i m H => m = xs.length - i ∧ i ≤ xs.length ∧ Pv i H, ⟨xs.length, by simp, Nat.zero_le _, h0⟩, ?_⟩
  rintro i m H ⟨rfl, hi, p⟩
  have q := hl i H hi p
  by_cases hlt : i < xs.length
  · refine .inr ⟨⟨xs, xs[i], q, by simp [hlt]⟩, Pv (i + 1), fun H' p' => ⟨xs.length - (i + 1), by omega, rfl, hlt, p'⟩, fun x H' y => ?_⟩
    obtain ⟨e, y⟩ := y
    subst e
    exact hs i x _ (y xs q) p
  · have e : i = xs.length := by omega
    subst e
    exact .inl ⟨⟨xs, q, Nat.le_refl _⟩, hd H p⟩
def blkC (N : List Str) (sc scope : Scope) (own : List (Str × Nat)) : Bool :=
  (match scope.kind with | .function => true | _ => false) && (scope.names.all fun y => decide (scope.names.lookup y.1 = some y.2)) && (own.all fun p => decide (N[p.2]? = some p.1)) &&
    (scope.names.all fun y => match y.2 with
      | .free => (match sc.names.lookup y.1 with | some .cell => true | some .free => true | _ => false)
      | .local => decide (y.1 ∈ own.map (·.1)) || decide (y.1 ∉ N)
      | .cell => decide (y.1 ∈ own.map (·.1)) || decide (y.1 ∉ N)
      | _ => true)
theorem blkOk_by {N : List Str} {sc scope : Scope} {own : List (Str × Nat)} (h : blkC N sc scope own = true) : BlkOk N sc scope own := by
  unfold blkC at h
  simp only [Bool.and_eq_true, List.all_eq_true, decide_eq_true_eq] at h
  obtain ⟨⟨⟨h1, h2⟩, h3⟩, h4⟩ := h
  refine ⟨?_, h2, h3, fun y hy e => ?_, fun y hy e => ?_⟩
  · split at h1
    · assumption
    · cases h1
  · have q := h4 y hy
    simp only [e] at q
    split at q <;> first | exact .inl (by assumption) | exact .inr (by assumption) | cases q
  · have q := h4 y hy
    rcases e with e | e <;> (simp only [e, Bool.or_eq_true, decide_eq_true_eq] at q; exact q)
end L2
namespace L2
open PySem PySem.Spec PyProof.Rows
section
variable {prog : Program} {w : World} {A : Around} {R : Result → Shared → Prop} {s : Shared} {elt t0 i0 t1 i1 : Expr} {ifs0 ifs1 : List Expr} {scope : Scope} {pos : Pos} {it acc : Value} {env : Env}
end
section
variable {X : Cx}
end
end L2
namespace L2
open PySem PySem.Spec PyProof.Rows
section
variable {κ : Type} [DecidableEq κ]
def valV (kvs : List (κ × V)) (k : κ) : Option V := (kvs.find? fun kv => decide (kv.1 = k)).map (·.2)
def putK (kvs : List (κ × V)) (k : κ) (v : V) : List (κ × V) :=
  if (kvs.any fun kv => decide (kv.1 = k)) = true then kvs.map (fun kv => if kv.1 = k then (kv.1, v) else kv) else kvs ++ [(k, v)]
def dropK (kvs : List (κ × V)) (k : κ) : List (κ × V) := kvs.filter fun kv => decide (kv.1 ≠ k)
theorem valV_pos {p : κ × V} {r : List (κ × V)} {k : κ} (e : p.1 = k) : valV (p :: r) k = some p.2 := by simp [valV, List.find?_cons, e]
theorem valV_neg {p : κ × V} {r : List (κ × V)} {k : κ} (e : ¬ p.1 = k) : valV (p :: r) k = valV r k := by simp [valV, List.find?_cons, e]
theorem valV_any (k : κ) : ∀ kvs : List (κ × V), (kvs.any fun kv => decide (kv.1 = k)) = (valV kvs k).isSome
  | [] => rfl
  | p :: r => by
    rw [List.any_cons]
    by_cases e : p.1 = k
    · simp only [valV_pos e, decide_eq_true e, Bool.true_or, Option.isSome_some]
    · rw [valV_neg e, decide_eq_false e, Bool.false_or]; exact valV_any k r
theorem valV_map (k j : κ) (y : V) : ∀ kvs : List (κ × V), valV (kvs.map fun kv => if kv.1 = k then (kv.1, y) else kv) j = (valV kvs j).map fun x => if j = k then y else x
  | [] => rfl
  | p :: r => by
    have ih := valV_map k j y r
    rw [List.map_cons]
    by_cases h : p.1 = k
    · rw [if_pos h]
      by_cases e : p.1 = j
      · rw [valV_pos (p := (p.1, y)) e, valV_pos e, Option.map_some, if_pos (e.symm.trans h)]
      · rw [valV_neg (p := (p.1, y)) e, valV_neg e, ih]
    · rw [if_neg h]
      by_cases e : p.1 = j
      · rw [valV_pos (p := p) e, valV_pos e, Option.map_some, if_neg (fun z => h (e.trans z))]
      · rw [valV_neg (p := p) e, valV_neg e, ih]
theorem valV_snoc (k j : κ) (y : V) : ∀ kvs : List (κ × V), valV kvs k = none → valV (kvs ++ [(k, y)]) j = if j = k then some y else valV kvs j
  | [], _ => by
    by_cases e : k = j
    · rw [if_pos e.symm]; exact valV_pos (p := (k, y)) e
    · rw [if_neg (fun z => e z.symm)]; exact valV_neg (p := (k, y)) e
  | p :: r, hn => by
    rw [List.cons_append]
    have hk : ¬ p.1 = k := fun z => by rw [valV_pos z] at hn; cases hn
    rw [valV_neg hk] at hn
    have ih := valV_snoc k j y r hn
    by_cases e : p.1 = j
    · rw [valV_pos e, valV_pos e, if_neg (fun z => hk (e.trans z))]
    · rw [valV_neg e, valV_neg e, ih]
theorem valV_put (kvs : List (κ × V)) (k j : κ) (y : V) : valV (putK kvs k y) j = if j = k then some y else valV kvs j := by
  unfold putK
  by_cases a : (kvs.any fun kv => decide (kv.1 = k)) = true
  · rw [if_pos a, valV_map]
    rw [valV_any] at a
    by_cases e : j = k
    · obtain ⟨x, hx⟩ := Option.isSome_iff_exists.mp a
      rw [if_pos e, e, hx, Option.map_some, if_pos rfl]
    · rw [if_neg e]
      cases valV kvs j with
      | none => rfl
      | some x => rw [Option.map_some, if_neg e]
  · rw [if_neg a]
    refine valV_snoc k j y kvs ?_
    rw [valV_any] at a
    cases q : valV kvs k with
    | none => rfl
    | some x => rw [q] at a; exact (a rfl).elim
theorem length_putK (kvs : List (κ × V)) (k : κ) (v : V) : (putK kvs k v).length ≤ kvs.length + 1 := by
  unfold putK
  split
  · rw [List.length_map]; omega
  · rw [List.length_append, List.length_cons, List.length_nil]; omega
theorem RelO.isSome_eq {o : Option V} {u : Option Value} (r : RelO o u) : o.isSome = u.isSome := by
  cases o with
  | none => cases u with
    | none => rfl
    | some _ => exact (show False from r).elim
  | some _ => cases u with
    | none => exact (show False from r).elim
    | some _ => rfl
theorem RelO.getD {o : Option V} {u : Option Value} {d : V} {d' : Value} (r : RelO o u) (rd : RelV d d') : RelV (o.getD d) (u.getD d') := by
  cases o with
  | none => cases u with
    | none => exact rd
    | some _ => exact (show False from r).elim
  | some _ => cases u with
    | none => exact (show False from r).elim
    | some _ => exact r
theorem KV.val {kvs : List (κ × V)} {vs : List (κ × Value)} (r : KV kvs vs) (k : κ) : RelO (valV kvs k) (valueAt vs k) := by
  unfold KV at r
  induction r with
  | nil => exact True.intro
  | @cons p q ps qs h t ih =>
    obtain ⟨h1, h2⟩ := h
    by_cases e : p.1 = k
    · have e' : q.1 = k := h1.symm.trans e
      have b : valueAt (q :: qs) k = some q.2 := by simp [valueAt, List.find?_cons, e']
      rw [valV_pos e, b]; exact h2
    · have e' : ¬ q.1 = k := fun z => e (h1.trans z)
      have b : valueAt (q :: qs) k = valueAt qs k := by simp [valueAt, List.find?_cons, e']
      rw [valV_neg e, b]; exact ih
theorem KV.any {kvs : List (κ × V)} {vs : List (κ × Value)} (r : KV kvs vs) (k : κ) : (kvs.any fun kv => decide (kv.1 = k)) = vs.any fun kv => decide (kv.1 = k) := by
  unfold KV at r
  induction r with
  | nil => rfl
  | cons h t ih => rw [List.any_cons, List.any_cons, ih, h.1]
theorem KV.repl {kvs : List (κ × V)} {vs : List (κ × Value)} (r : KV kvs vs) (k : κ) {y : V} {u : Value} (ry : RelV y u) :
    KV (kvs.map fun kv => if kv.1 = k then (kv.1, y) else kv) (vs.map fun kv => if kv.1 = k then (kv.1, u) else kv) := by
  unfold KV at r ⊢
  induction r with
  | nil => exact .nil
  | @cons p q ps qs h t ih =>
    rw [List.map_cons, List.map_cons]
    refine .cons ?_ ih
    obtain ⟨h1, h2⟩ := h
    by_cases e : p.1 = k
    · rw [if_pos e, if_pos (h1.symm.trans e)]; exact ⟨h1, ry⟩
    · rw [if_neg e, if_neg (fun z => e (h1.trans z))]; exact ⟨h1, h2⟩
theorem KV.put {kvs : List (κ × V)} {vs : List (κ × Value)} (r : KV kvs vs) (k : κ) {y : V} {u : Value} (ry : RelV y u) : KV (putK kvs k y) (stored vs k u) := by
  unfold putK stored
  rw [r.any k]
  by_cases e : (vs.any fun kv => decide (kv.1 = k)) = true
  · rw [if_pos e, if_pos e]; exact r.repl k ry
  · rw [if_neg e, if_neg e]; exact Paired.snoc r ⟨rfl, ry⟩
theorem KV.drop {kvs : List (κ × V)} {vs : List (κ × Value)} (r : KV kvs vs) (k : κ) : KV (dropK kvs k) (without vs k) := by
  unfold KV at r ⊢
  unfold dropK without
  induction r with
  | nil => exact .nil
  | @cons p q ps qs h t ih =>
    obtain ⟨h1, h2⟩ := h
    rw [List.filter_cons, List.filter_cons]
    by_cases e : p.1 = k
    · have a : ¬ decide (p.1 ≠ k) = true := by simp [e]
      have b : ¬ decide (q.1 ≠ k) = true := by simp [h1.symm.trans e]
      rw [if_neg a, if_neg b]; exact ih
    · have e' : ¬ q.1 = k := fun z => e (h1.trans z)
      have a : decide (p.1 ≠ k) = true := by simp [e]
      have b : decide (q.1 ≠ k) = true := by simp [e']
      rw [if_pos a, if_pos b]; exact .cons ⟨h1, h2⟩ ih
theorem KV.length {kvs : List (κ × V)} {vs : List (κ × Value)} (r : KV kvs vs) : kvs.length = vs.length := Paired.length r
end
theorem kV_is {P : Program} {w : World} {k : Key} {u : Value} (r : RelV (kV k) u) : (mixKind P w).is k u = true := by
  cases k with
  | inl i => obtain ⟨t, e⟩ := (show ∃ t, u = Value.int i t from r); subst e; exact mixKind_int P w i t
  | inr x => obtain ⟨t, e⟩ := (show ∃ t, u = Value.str x t from r); subst e; exact mixKind_str P w x t
theorem items_are {P : Program} {w : World} : ∀ {ks : List Key} {us : List Value}, Vals (ks.map kV) us → ItemsAre (mixKind P w) ks us
  | [], _, r => by rw [List.map_nil] at r; cases r; exact .nil
  | k :: ks, _, r => by
    rw [List.map_cons] at r
    cases r with
    | cons h t => exact .cons (kV_is h) (items_are t)
abbrev KT (H : Hp) : List (List Key × V) → List (List Key × Addr × Value) → Prop := Paired fun p q => p.1 = q.1 ∧ H q.2.1 = some (.tup (p.1.map kV)) ∧ RelV p.2 q.2.2
theorem KT.val {H : Hp} {kvs : List (List Key × V)} {xs : List (List Key × Addr × Value)} (r : KT H kvs xs) (k : List Key) : RelO (valV kvs k) ((atKey xs k).map (·.2)) := by
  induction r with
  | nil => exact True.intro
  | @cons p q ps qs h t ih =>
    obtain ⟨h1, _, h2⟩ := h
    by_cases e : p.1 = k
    · have e' : q.1 = k := h1.symm.trans e
      have b : atKey (q :: qs) k = some q.2 := by simp [atKey, List.find?_cons, e']
      rw [valV_pos e, b]; exact h2
    · have e' : ¬ q.1 = k := fun z => e (h1.trans z)
      have b : atKey (q :: qs) k = atKey qs k := by simp [atKey, List.find?_cons, e']
      rw [valV_neg e, b]; exact ih
theorem KT.repl {H : Hp} {kvs : List (List Key × V)} {xs : List (List Key × Addr × Value)} (r : KT H kvs xs) (k : List Key) {y : V} {u : Value} (ry : RelV y u) :
    KT H (kvs.map fun kv => if kv.1 = k then (kv.1, y) else kv) (xs.map (putAt k u)) := by
  induction r with
  | nil => exact .nil
  | @cons p q ps qs h t ih =>
    rw [List.map_cons, List.map_cons]
    refine .cons ?_ ih
    obtain ⟨h1, h2, h3⟩ := h
    unfold putAt
    by_cases e : p.1 = k
    · rw [if_pos e, if_pos (h1.symm.trans e)]; exact ⟨h1, h2, ry⟩
    · rw [if_neg e, if_neg (fun z => e (h1.trans z))]; exact ⟨h1, h2, h3⟩
theorem KT.put {H : Hp} {kvs : List (List Key × V)} {xs : List (List Key × Addr × Value)} (r : KT H kvs xs) (k : List Key) {b : Addr} {y : V} {u : Value} (hb : H b = some (.tup (k.map kV))) (ry : RelV y u) :
    KT H (putK kvs k y) (storedH xs k b u) := by
  have e : (kvs.any fun kv => decide (kv.1 = k)) = (atKey xs k).isSome := by
    rw [valV_any, (r.val k).isSome_eq, Option.isSome_map]
  unfold putK storedH
  rw [e]
  by_cases q : (atKey xs k).isSome = true
  · rw [if_pos q, if_pos q]; exact r.repl k ry
  · rw [if_neg q, if_neg q]; exact Paired.snoc r ⟨rfl, hb, ry⟩
theorem KT.keeps {H H' : Hp} {kvs : List (List Key × V)} {xs : List (List Key × Addr × Value)} (r : KT H kvs xs) (ht : ∀ b ys, H b = some (.tup ys) → H' b = some (.tup ys)) : KT H' kvs xs :=
  Paired.mapP r fun _ _ z => ⟨z.1, ht _ _ z.2.1, z.2.2⟩
section
variable {P : Program} {w : World} {H : Hp} {h : Heap} {a : Addr}
theorem rd_of {u : HO} (ok : HOk P w H h) (e : Rd H a u) : ObjOk P w H h a u := e.ok ok
theorem dk_rd {kvs : List (Key × V)} (ok : HOk P w H h) (e : Rd H a (.dK kvs)) : kvs.length ≤ sizeLine ∧ (a == sysModules) = false ∧ ∃ vs, KV kvs vs ∧ h.DictOf (mixKind P w) a vs :=
  show ObjOk P w H h a (.dK kvs) from rd_of ok e
theorem dk_of {kvs : List (Key × V)} (ok : HOk P w H h) (e : H a = some (.dK kvs)) : kvs.length ≤ sizeLine ∧ (a == sysModules) = false ∧ ∃ vs, KV kvs vs ∧ h.DictOf (mixKind P w) a vs := dk_rd ok (.inl e)
theorem key_of {ks : List Key} (ok : HOk P w H h) (e : H a = some (.tup (ks.map kV))) : (tupleKind (mixKind P w)).is h ks a := by
  obtain ⟨_, its, r, o, h1, h2, n, h3⟩ := (show ObjOk P w H h a (.tup (ks.map kV)) from ok a _ e)
  exact ⟨o, its.toArray, n, h1, h2, h3, by simpa using items_are r⟩
theorem dt_rd {kvs : List (List Key × V)} (ok : HOk P w H h) (e : Rd H a (.dT kvs)) : kvs.length ≤ sizeLine ∧ (a == sysModules) = false ∧
    ∃ xs, KT H kvs xs ∧ h.DictOfH (tupleKind (mixKind P w)) a xs := by
  obtain ⟨z, y, xs, r, o, es, ep, h1, h2, h3, h4, h5⟩ := (show ObjOk P w H h a (.dT kvs) from rd_of ok e)
  refine ⟨z, y, xs, r, o, es, ep, h1, h2, h3, h4, fun x hx => ?_, h5⟩
  have all : ∀ {l : List (List Key × V)} {m : List (List Key × Addr × Value)}, KT H l m → ∀ x ∈ m, (tupleKind (mixKind P w)).is h x.1 x.2.1 := by
    intro l m q
    induction q with
    | nil => intro x hx; exact nomatch hx
    | @cons p q ps qs hq t ih =>
      intro x hx
      rcases List.mem_cons.mp hx with e | hx
      · subst e
        exact key_of ok (by rw [← hq.1]; exact hq.2.1)
      · exact ih x hx
  exact all r x hx
theorem dt_of {kvs : List (List Key × V)} (ok : HOk P w H h) (e : H a = some (.dT kvs)) : kvs.length ≤ sizeLine ∧ (a == sysModules) = false ∧
    ∃ xs, KT H kvs xs ∧ h.DictOfH (tupleKind (mixKind P w)) a xs := dt_rd ok (.inl e)
end
def DGet (H : Hp) (a : Addr) (y : V) (r : Option V) : Prop :=
  (∃ kvs k, Rd H a (.dK kvs) ∧ y = kV k ∧ r = valV kvs k) ∨ ∃ kvs k b, Rd H a (.dT kvs) ∧ y = .ref b ∧ H b = some (.tup (k.map kV)) ∧ r = valV kvs k
def DPut (H : Hp) (a : Addr) (y v : V) (H' : Hp) : Prop :=
  (∃ kvs k, H a = some (.dK kvs) ∧ y = kV k ∧ kvs.length < sizeLine ∧ H' = upd H a (.dK (putK kvs k v))) ∨
  ∃ kvs k b, H a = some (.dT kvs) ∧ y = .ref b ∧ H b = some (.tup (k.map kV)) ∧ kvs.length < sizeLine ∧ H' = upd H a (.dT (putK kvs k v))
theorem DGet.k {H : Hp} {a : Addr} {kvs : List (Key × V)} {k : Key} (e : H a = some (.dK kvs)) : DGet H a (kV k) (valV kvs k) := .inl ⟨kvs, k, .inl e, rfl, rfl⟩
theorem DGet.t {H : Hp} {a b : Addr} {kvs : List (List Key × V)} {k : List Key} (e : H a = some (.dT kvs)) (eb : H b = some (.tup (k.map kV))) : DGet H a (.ref b) (valV kvs k) := .inr ⟨kvs, k, b, .inl e, rfl, eb, rfl⟩
theorem DPut.k {H : Hp} {a : Addr} {kvs : List (Key × V)} {k : Key} {v : V} (e : H a = some (.dK kvs)) (hl : kvs.length < sizeLine) : DPut H a (kV k) v (upd H a (.dK (putK kvs k v))) := .inl ⟨kvs, k, e, rfl, hl, rfl⟩
theorem DPut.t {H : Hp} {a b : Addr} {kvs : List (List Key × V)} {k : List Key} {v : V} (e : H a = some (.dT kvs)) (eb : H b = some (.tup (k.map kV))) (hl : kvs.length < sizeLine) :
    DPut H a (.ref b) v (upd H a (.dT (putK kvs k v))) := .inr ⟨kvs, k, b, e, rfl, eb, hl, rfl⟩
section
variable {X : Cx} {pins : List (Addr × Obj)} {σ : St} {H : Hp} {s : Shared} {a : Addr} {y v : V} {u r : Value} {o : Option V} {A : Around} {E : Value → Shared → Prop}
theorem Inv.big (I : Inv X pins σ H s) : sysModules < s.heap.objs.size := by
  have h : mainGlobals < s.heap.objs.size := (I.mod.glob.keeps I.bk).lt
  exact Nat.lt_trans (by decide) h
theorem d_getItem {Q : Value → Shared → Prop} (hu : A.units + 1 < cLine) (I : Inv X pins σ H s) (g : DGet H a y (some v)) (ry : RelV y u) (h : ∀ w' s', Inv X pins σ H s' → RelV v w' → Q w' s') :
    wpAny (model X.prog X.w) A (getItem (.ref a) u) Q E s := by
  rcases g with ⟨kvs, k, e, ey, l⟩ | ⟨kvs, k, b, e, ey, eb, l⟩
  · subst ey
    obtain ⟨z, hd, vs, rel, dd⟩ := dk_rd I.hok e
    obtain ⟨w', hw, rw'⟩ := RelO.some_of (v := v) (o := valueAt vs k) (by rw [l]; exact rel.val k)
    exact wpAny_getItem_of (kV_is ry) dd.mapOf hw (h w' _ (I.tok _) rw')
  · subst ey
    cases (show u = Value.ref b from ry)
    obtain ⟨z, hd, xs, rel, dd⟩ := dt_rd I.hok e
    obtain ⟨w', hw, rw'⟩ := RelO.some_of (v := v) (o := (atKey xs k).map (·.2)) (by rw [l]; exact rel.val k)
    obtain ⟨p, hp, hp2⟩ := Option.map_eq_some_iff.mp hw
    refine wpAny_getItem_heap (tupleKind_room_in1 hu) (key_of I.hok eb) dd hp ?_
    rw [hp2]
    exact h w' _ (I.tok _) rw'
theorem d_write {h' : Heap} {t' : Nat} {ob : HO} (I : Inv X pins σ H s) (mu : Mut (H a)) (hs : Heap.SameBut a s.heap h') (he : ∃ q, h'.get? a = some q) (new : ObjOk X.prog X.w (upd H a ob) h' a ob) :
    Inv X pins σ (upd H a ob) { s with heap := h', toks := t' } :=
  I.write (x := a) (e := a) mu (.inl rfl) (fun b q hb z => (hs.2 b hb).trans z) he new
theorem dk_new {P : Program} {w : World} {H' : Hp} {h' : Heap} {kvs : List (Key × V)} {vs : List (Key × Value)} (z : kvs.length ≤ sizeLine) (hd : (a == sysModules) = false) (rel : KV kvs vs) (dd : h'.DictOf (mixKind P w) a vs) :
    ObjOk P w H' h' a (.dK kvs) := ⟨z, hd, vs, rel, dd⟩
theorem d_setItem {H' : Hp} {Q : Unit → Shared → Prop} (hu : A.units + 1 < cLine) (I : Inv X pins σ H s) (g : DPut H a y v H') (ry : RelV y u) (rv : RelV v r) (h : ∀ s', Inv X pins σ H' s' → Q () s') :
    wpAny (model X.prog X.w) A (setItem (.ref a) u r) Q E s := by
  rcases g with ⟨kvs, k, e, ey, l, eH⟩ | ⟨kvs, k, b, e, ey, eb, l, eH⟩
  · subst ey eH
    obtain ⟨z, hd, vs, rel, dd⟩ := dk_of I.hok e
    have hz : vs.length ≤ sizeLine := by rw [← rel.length]; exact z
    have hl : (putK kvs k v).length ≤ sizeLine := by have := length_putK kvs k v; omega
    refine wpAny_setItem_pairs (hsz := hz) (kV_is ry) dd fun h' dd' hs => h _ ?_
    have he : ∃ q, h'.get? a = some q := let ⟨q, _, _, hq, _⟩ := dd'; ⟨q, hq⟩
    exact d_write I (by rw [e]; exact True.intro) hs he (dk_new hl hd (rel.put k rv) dd')
  · subst ey eH
    cases (show u = Value.ref b from ry)
    obtain ⟨z, hd, xs, rel, dd⟩ := dt_of I.hok e
    have hz : xs.length ≤ sizeLine := by rw [← Paired.length rel]; exact z
    have hl : (putK kvs k v).length ≤ sizeLine := by have := length_putK kvs k v; omega
    refine wpAny_setItem_heap (hsz := hz) (tupleKind_room_in1 hu) (key_of I.hok eb) dd fun h' dd' hs => h _ ?_
    obtain ⟨q, es, ep, hq, h2, h3, h4, _, h5⟩ := dd'
    refine d_write I (by rw [e]; exact True.intro) hs ⟨q, hq⟩ ⟨hl, hd, _, (rel.put k eb rv).keeps fun c ys ec => ?_, q, es, ep, hq, h2, h3, h4, h5⟩
    rw [upd_ne (ne_of ec e (fun z => nomatch z))]
    exact ec
end
section
variable {X : Cx} {pins : List (Addr × Obj)} {σ : St} {H : Hp} {s : Shared} {a : Addr} {kvs : List (Key × V)} {k : Key} {u : Value} {A : Around} {E : Value → Shared → Prop}
end
def NoSl (i : Expr) : Prop := ∀ ov iv, subscripted i false ov iv = operate [ov, iv] (getItem ov iv)
theorem subD_of {prog : Program} {w : World} {A : Around} {E : Value → Shared → Prop} {s : Shared} {env : Env} {value slice : Expr} {pos : Pos} {T id : String} {Q : Value → Shared → Prop}
    (hl : typeLookup (.type T) "__getitem__" = pure (some (.builtin id))) (hs : NoSl slice)
    (h : wpAny (model prog w) A (eval value env) (fun o s₁ => wpAny (model prog w) A (eval slice env) (fun i s₂ => s₂.TypeIs o T ∧ wpAny (model prog w) A (getItem o i) Q E s₂) E s₁) E s) :
    wpAny (model prog w) A (eval (.Subscript value slice pos) env) Q E s := by
  refine Subscript_ (wpAny_mono h (fun o s₁ h₁ => wpAny_mono h₁ (fun i s₂ h₂ => ?_) fun _ _ x => x) fun _ _ x => x)
  obtain ⟨hT, h₂⟩ := h₂
  unfold subscriptTail
  refine wpAny_bind ?_
  rw [getitemInPython_of_ne hT.not_modules]
  refine wpAny_bind (wpAny_specialOf hT hl ?_)
  have fin : wpAny (model prog w) A (subscripted slice false o i) (fun r s₃ => wpAny (model prog w) A (letTemporaryGo value o r >>= fun _ => pure r) Q E s₃) E s₂ := by
    rw [hs o i]
    exact wpAny_operating (wpAny_mono h₂ (fun r s₃ h₃ => wpAny_bind (wpAny_letTemporaryGo (wpAny_pure h₃))) fun _ _ x => x)
  first
    | exact wpAny_pure (wpAny_bind fin)
    | exact wpAny_bind (wpAny_pure (wpAny_bind fin))
    | exact wpAny_bind fin
theorem dict_typeIs {X : Cx} {pins : List (Addr × Obj)} {σ : St} {H : Hp} {s : Shared} {a : Addr} {y : V} {o : Option V} (I : Inv X pins σ H s) (g : DGet H a y o) : s.TypeIs (.ref a) "dict" := by
  rcases g with ⟨kvs, k, e, _, _⟩ | ⟨kvs, k, b, e, _, _, _⟩
  · obtain ⟨_, _, vs, _, dd⟩ := dk_rd I.hok e
    exact dd.typeIs
  · obtain ⟨_, _, xs, _, dd⟩ := dt_rd I.hok e
    exact dd.typeIs
def tDGet (td ty : TE) : TE := fun σ H Q => td σ H fun x H1 => ty σ H1 fun y H2 => ∃ a v, x = .ref a ∧ DGet H2 a y (some v) ∧ Q v H2
def sDPut (td ty tv : TE) : TS := fun D σ H => tv σ H fun v H1 => td σ H1 fun x H2 => ty σ H2 fun y H3 => ∃ a H4, x = .ref a ∧ DPut H3 a y v H4 ∧ D.nx σ H4
section
variable {X : Cx} {o i e value : Expr} {pos pos' tpos : Pos} {td ty tv : TE}
theorem pe_dget (hu : X.A.units + 1 < cLine) (ho : PE X o td) (hi : PE X i ty) (hs : NoSl i) : PE X (.Subscript o i pos) (tDGet td ty) := by
  intro pins s σ H Q I h
  refine subD_of PySem.F.slot_dict_getitem.lookup hs (thn (ho pins s σ H _ I h) fun u s1 ⟨x, H1, I1, rx, q1⟩ => thn (hi pins s1 σ H1 _ I1 q1) fun iv s2 ⟨y, H2, I2, ry, a, v, ex, g, q2⟩ => ?_)
  subst ex
  obtain rfl : u = Value.ref a := rx
  exact ⟨dict_typeIs I2 g, d_getItem hu I2 g ry fun w' s3 I3 rw' => ⟨v, H2, I3, rw', q2⟩⟩
theorem ps_dput (hu : X.A.units + 1 < cLine) (ho : PE X o td) (hi : PE X i ty) (hv : PE X value tv) (hs : swapsWith value (some (.Subscript o i pos')) pos.line X.env = pure false) :
    PS X (.Assign [.Subscript o i pos'] value pos) (sDPut td ty tv) := by
  intro pins s σ H D I h
  refine wpAny_Assign_Subscript (thn (hv pins s σ H _ I h) fun r s1 ⟨v, H1, I1, rv, q1⟩ => thn (ho pins s1 σ H1 _ I1 q1) fun u s2 ⟨x, H2, I2, rx, q2⟩ => thn (hi pins s2 σ H2 _ I2 q2) fun iv s3 ⟨y, H3, I3, ry, a, H4, ex, g, q3⟩ => ?_) hs
  subst ex
  obtain rfl : u = Value.ref a := rx
  exact d_setItem hu I3 g ry rv fun s4 I4 => ⟨σ, H4, I4, q3⟩
end
theorem dk_empty {P : Program} {w : World} {H : Hp} (h : Heap) (hb : sysModules < h.objs.size) : ObjOk P w H (h.push { cls := .type "dict", data := .dict #[] }) h.objs.size (.dK []) :=
  ⟨Nat.zero_le _, beq_eq_false_iff_ne.mpr (Ne.symm (Nat.ne_of_lt hb)), [], .nil, Heap.DictOf.new h⟩
def tDNewK : TE := fun _ H Q => ∀ p, H p = none → Q (.ref p) (upd H p (.dK []))
section
variable {X : Cx} {pos : Pos}
theorem pe_dnewK : PE X (.Dict [] [] pos) tDNewK := fun pins s σ H Q I h =>
  wpAny_Dict_empty ⟨.ref s.heap.objs.size, _, I.laid (a := s.heap.objs.size) (o := .dK []) (t' := s.toks) (fun _ _ q => Heap.get?_push_of_some _ q) (Nat.le_refl _) (dk_empty s.heap I.big), rfl, h _ (I.hok.fresh (Nat.le_refl _))⟩
end
def tPairs : List (TE × TE) → St → Hp → (List (V × V) → Hp → Prop) → Prop
  | [], _, H, Q => Q [] H
  | (tk, tv) :: r, σ, H, Q => tk σ H fun x H1 => tv σ H1 fun y H2 => tPairs r σ H2 fun ps H3 => Q ((x, y) :: ps) H3
structure M1 (X : Cx) (o : Expr) (m : Str) (apos : Pos) (e : Expr) (cpos : Pos) : Prop where
  base : attributeBase o m X.env (eval o X.env) = eval o X.env
  few : ((backTo cpos (starEach [e] X.env)).all (fun x => !x.1) && (backToKw cpos (keywordEach [] X.env)).all (fun x => x.1.isSome)
    && decide (([e] : List Expr).length + ([] : List Keyword).length + (if ([] : List Keyword).isEmpty then 0 else 1) < 30)) = true
  line : (apos.endLine == cpos.line) = true
  trees : backTo cpos (starEach [e] X.env) = [(false, eval e X.env)]
structure M2 (X : Cx) (o : Expr) (m : Str) (apos : Pos) (e f : Expr) (cpos : Pos) : Prop where
  base : attributeBase o m X.env (eval o X.env) = eval o X.env
  few : ((backTo cpos (starEach [e, f] X.env)).all (fun x => !x.1) && (backToKw cpos (keywordEach [] X.env)).all (fun x => x.1.isSome)
    && decide (([e, f] : List Expr).length + ([] : List Keyword).length + (if ([] : List Keyword).isEmpty then 0 else 1) < 30)) = true
  line : (apos.endLine == cpos.line) = true
  trees : backTo cpos (starEach [e, f] X.env) = [(false, eval e X.env), (false, eval f X.env)]
section
variable {X : Cx} {pins : List (Addr × Obj)} {σ : St} {H : Hp} {s : Shared} {a : Addr} {y d : V} {u r : Value} {o : Option V} {A : Around} {E : Value → Shared → Prop}
end
section
variable {X : Cx} {o e f : Expr} {apos cpos : Pos} {td ty tx : TE}
end
section
variable {X : Cx} {pins : List (Addr × Obj)} {σ : St} {H : Hp} {s : Shared} {a : Addr} {kvs : List (Key × V)} {A : Around} {E : Value → Shared → Prop}
end
section
variable {X : Cx} {pins : List (Addr × Obj)} {σ : St} {H : Hp} {s : Shared} {a : Addr} {y : V} {u : Value} {A : Around} {E : Value → Shared → Prop}
end
end L2
namespace L2
open PySem PySem.Spec PyProof.Rows
section
variable {prog : Program} {w : World} {A : Around} {E : Value → Shared → Prop}
end
section
variable {X : Cx}
end
end L2
namespace L2
open PySem PySem.Spec PyProof.Rows
theorem boot_reversed5 : bootBuiltins "reversed" = some (.type "reversed") := by decide +kernel
section
variable {X : Cx} {pins : List (Addr × Obj)} {σ : St} {H : Hp} {s : Shared} {h' : Heap}
theorem Inv.turnedL {t' : Nat} {ch : List Addr} (I : Inv X pins σ H s) (k : ∀ b o, b ∉ ch → s.heap.get? b = some o → h'.get? b = some o) (hf : ∀ b ∈ ch, FpOk X pins H b) : Inv X pins σ H { s with heap := h', toks := t' } := by
  have nit : ∀ b u, H b = some u → b ∉ ch := fun b u e z => by
    have q := (hf b z).1
    rw [q] at e; cases e
  refine I.step (g' := s.gens) (d' := s.drawn) (ch := ch) (fun b hb => ⟨(hf b hb).2.2.2.1, (hf b hb).2.1, (hf b hb).2.2.2.2.1, (hf b hb).2.2.2.2.2⟩) (fun b o _ _ hc e _ => k b o hc e) (fun b o _ _ hc e _ => ⟨o.slots, k b o hc e⟩)
    (fun _ _ _ _ n => n) (fun b o hc e => ⟨o, k b o hc e⟩) (fun _ _ e => e) (fun _ _ _ e => e) (fun b ps e => ⟨#[], by rw [e]; simp⟩) (fun m hm => ?_) (fun b u e => ?_) I.bare
  · obtain ⟨o, es, ep, ho, r⟩ := hm
    exact ⟨o, es, ep, k _ o (fun z => (hf _ z).2.1 rfl) ho, r⟩
  · refine (I.hok b u e).stay (fun c v hc q => k c v ?_ q) (fun _ q => q) fun _ _ q => q
    rcases hc with z | z
    · rw [z]; exact nit b u e
    · exact nit c _ z
theorem Inv.turnedNew {t' : Nat} {ch : List Addr} {T : Addr} {ob : HO} (I : Inv X pins σ H s) (k : ∀ b o, b ∉ ch → s.heap.get? b = some o → h'.get? b = some o) (hf : ∀ b ∈ ch, FpOk X pins H b) (hT : s.heap.objs.size ≤ T)
    (new : ObjOk X.prog X.w (upd H T ob) h' T ob) : Inv X pins σ (upd H T ob) { s with heap := h', toks := t' } := by
  have hn : H T = none := I.hok.fresh hT
  have nit : ∀ b u, H b = some u → b ∉ ch := fun b u e z => by
    have q := (hf b z).1
    rw [q] at e; cases e
  refine I.step (g' := s.gens) (d' := s.drawn) (ch := ch) (fun b hb => ⟨(hf b hb).2.2.2.1, (hf b hb).2.1, (hf b hb).2.2.2.2.1, (hf b hb).2.2.2.2.2⟩) (fun b o _ _ hc e _ => k b o hc e) (fun b o _ _ hc e _ => ⟨o.slots, k b o hc e⟩)
    (fun b o _ e n => ?_) (fun b o hc e => ⟨o, k b o hc e⟩) (fun b xs e => ?_) (fun b o u e => ?_) (fun b ps e => ⟨#[], ?_⟩) (fun m hm => ?_) (fun b u e => ?_) I.bare
  · rw [upd_ne (Nat.ne_of_lt (Nat.lt_of_lt_of_le (Heap.lt_size e) hT))]; exact n
  · rw [upd_ne (ne_of_none e hn)]; exact e
  · rw [upd_ne (ne_of_none e hn)]; exact e
  · rw [upd_ne (ne_of_none e hn), e]; simp
  · obtain ⟨o, es, ep, ho, r⟩ := hm
    exact ⟨o, es, ep, k _ o (fun z => (hf _ z).2.1 rfl) ho, r⟩
  · by_cases hb : b = T
    · subst hb
      rw [upd_same] at e
      cases e
      exact new
    · rw [upd_ne hb] at e
      refine (I.hok b u e).stay (fun c v hc q => k c v ?_ q) (fun c q => by rw [upd_ne (ne_of_none q hn)]; exact q) fun c xs q => by rw [upd_ne (ne_of_none q hn)]; exact q
      rcases hc with z | z
      · rw [z]; exact nit b u e
      · exact nit c _ z
end
section
variable {X : Cx}
theorem pi_one {tg : Expr} {pins : List (Addr × Obj)} {σ : St} {H : Hp} {s : Shared} {R : It → Hp → Prop} {J : It} {tn : Nat → Heap → Prop} {tk : Nat} (I : Inv X pins σ H s) (o : Obj)
    (T : Turn X.prog X.w X.K tg J [s.heap.objs.size] s.heap.objs.size tn) (st : tn 0 (s.heap.push o)) (q : R J H) : PIE X pins σ tg R (.ref s.heap.objs.size) { s with heap := s.heap.push o, toks := tk } := by
  refine ⟨s.heap.objs.size, [s.heap.objs.size], tn, J, H, rfl, I.kept fun b ob e => Heap.get?_push_of_some _ e, T, st, fun b hb => ?_, q⟩
  have e : b = s.heap.objs.size := by simpa using hb
  subst e
  exact I.fpOk (Nat.le_refl _) (I.hok.fresh (Nat.le_refl _))
end
def Itc (lo c : Int) (n : Nat) : It := ⟨fun i _ => i < n, fun i H x H' => H' = H ∧ x = .int (lo + (i : Nat) * c), fun i _ => n ≤ i⟩
theorem turn_rangeC {P : Program} {w : World} {K : PySem.W.Frag} {tg : Expr} (it : Addr) (lo c : Int) (n : Nat) : Turn P w K tg (Itc lo c n) [it] it (fun i h => IsRangeIter h it (lo + (i : Nat) * c) ((n : Int) - (i : Nat)) c) where
  mem := by simp
  obj := fun i h st b hb => by
    have e : b = it := by simpa using hb
    subst e
    exact ⟨_, st, fun v z => nomatch z⟩
  keep := fun i h h' st k => k it (by simp) _ st
  item := by
    intro X hP hw hK hc i pins s σ H E I hf st hg
    subst hP hw hK
    obtain ⟨f0, f1, f2, f3, f4, f5⟩ := hf it (by simp)
    have W := Walks.range (prog := X.prog) (w := X.w) (I.ok.hd hc) it lo c n
    refine W.item i s _ _ hg st fun v h' tk hv st' kk => ?_
    obtain ⟨t, rfl⟩ := hv
    have I1 : Inv X pins σ H { s with heap := h', toks := tk } := I.turned (fun b o hb e => kk b o (by simpa using hb) e) f0 f1 f3 f4 f5
    exact ⟨_, rfl, go_of (s := { s with heap := h', toks := tk }) (n := "range_iterator") st' rfl rfl (by decide) ⟨.int (lo + (i : Nat) * c), H, I1, ⟨t, rfl⟩, ⟨rfl, rfl⟩, st', fun b hb => (hf b hb).1⟩⟩
  done := by
    intro X hP hw hK hc i pins s σ H E I hf st hg
    subst hP hw hK
    obtain ⟨f0, f1, f2, f3, f4, f5⟩ := hf it (by simp)
    exact wpAny_pyNext_range_end (I.ok.hd hc) st (by have : n ≤ i := hg; omega) fun h' eb => ⟨rfl, I.turned (t' := s.toks) (fun b o hb e => eb b o hb e) f0 f1 f3 f4 f5⟩
  self := fun A i s Q E st h => wpAny_pyIter_rangeiter st h
def RgC (i j c : Int) (n : Nat) : Prop := c ≠ 0 ∧ c.natAbs < 1073741824 ∧ Builtin.Range.small i j c = true ∧ Builtin.Range.rangeSize i j c = n
theorem RgC.neg {i j : Int} (ha : -(2 ^ 62) ≤ i) (ha' : i < 2 ^ 62) (hb : -(2 ^ 62) ≤ j) (hb' : j < 2 ^ 62) : RgC i j (-1) (i - j).toNat :=
  ⟨by decide, by decide, PySem.W.small_down ha ha' hb hb', PySem.W.rangeSize_downNat i j⟩
def iRng3 (ta : TA) : TI := fun σ H R => ta σ H fun vs H1 => ∃ (i j c : Int) (n : Nat), vs = [.int i, .int j, .int c] ∧ RgC i j c n ∧ R (Itc i c n) H1
section
variable {X : Cx} {tg : Expr}
theorem pi_range3 {a b c : Expr} {ta : TA} {p pos : Pos} (hg : Gl X "range") (hm : X.mg "range" = none) (ha : PA X [a, b, c] ta)
    (hs : starEach [a, b, c] X.env = (false, eval a X.env) :: starEach [b, c] X.env := by rfl) (hpl : (backTo pos (starEach [b, c] X.env)).any (·.1) = false := by rfl) :
    PI X tg (.Call (.Name "range" p) [a, b, c] [] pos) (iRng3 ta) := by
  intro pins s σ H R I h
  refine Call_ (ld_blt I hg hm boot_range (PyProof.Rows.callWith_type1 (thn (ha pos pins s σ H _ I h) fun us s1 ⟨vs, H1, I1, r1, q1⟩ => ?_) hs hpl))
  obtain ⟨i, j, k, n, e, ⟨c0, c1, c2, c3⟩, q⟩ := q1
  subst e
  cases r1 with
  | cons r rr =>
    cases rr with
    | cons r' rr =>
      cases rr with
      | cons r'' rr =>
        cases rr
        obtain ⟨t, rfl⟩ := r
        obtain ⟨t', rfl⟩ := r'
        obtain ⟨t'', rfl⟩ := r''
        refine call_range_3 c0 ?_ (.inl (PyProof.noPylong_small c1))
        refine wpAny_pyIter_range (IsRange.new ..) c2 ?_
        have I2 : Inv X pins σ H1 { s1 with heap := s1.heap.push { cls := .type "range", data := .fields #[.int i t, .int j t', .int k t''] } } := I1.kept (t' := s1.toks) fun b o e => Heap.get?_push_of_some _ e
        refine pi_one (tk := s1.toks) I2 _ (turn_rangeC _ i k n) ?_ q
        have e1 : i + ((0 : Nat) : Int) * k = i := by simp
        have e2 : (n : Int) - ((0 : Nat) : Int) = Builtin.Range.rangeSize i j k := by rw [c3]; simp
        show IsRangeIter _ _ (i + ((0 : Nat) : Int) * k) ((n : Int) - ((0 : Nat) : Int)) k
        rw [e1, e2]
        exact Heap.get?_push_size _ rfl
end
theorem for_rangeC {lo c : Int} {n : Nat} {g : TG} {tb : TS} {D : Ends} {σ : St} {H : Hp} (Pv : Nat → St → Hp → Prop) (h0 : Pv 0 σ H)
    (hs : ∀ i σ H, i < n → Pv i σ H → g (.int (lo + (i : Nat) * c)) σ H fun σ2 H2 => tb { D with nx := Pv (i + 1), ct := Pv (i + 1), bk := D.nx } σ2 H2) (hd : ∀ σ H, Pv n σ H → D.nx σ H) :
    ∃ W : Nat → Nat → St → Hp → Prop, (∃ m, W 0 m σ H) ∧ ∀ i m σ H, W i m σ H →
      ((Itc lo c n).stop i H ∧ D.nx σ H) ∨ ((Itc lo c n).go i H ∧ ∃ N : St → Hp → Prop, (∀ σ' H', N σ' H' → ∃ m', m' < m ∧ W (i + 1) m' σ' H') ∧ ∀ x H', (Itc lo c n).yld i H x H' → g x σ H' fun σ2 H2 => tb { D with nx := N, ct := N, bk := D.nx } σ2 H2) := by
  refine ⟨fun i m σ H => m = n - i ∧ i ≤ n ∧ Pv i σ H, ⟨n, by simp, Nat.zero_le _, h0⟩, ?_⟩
  rintro i m σ H ⟨rfl, hi, p⟩
  by_cases hlt : i < n
  · refine .inr ⟨hlt, Pv (i + 1), fun σ' H' p' => ⟨n - (i + 1), by omega, rfl, hlt, p'⟩, fun x H' y => ?_⟩
    obtain ⟨e, y⟩ := y
    subst e y
    exact hs i σ _ hlt p
  · have e : i = n := by omega
    subst e
    exact .inl ⟨Nat.le_refl _, hd σ H p⟩
section
variable {X : Cx} {tg : Expr}
end
section
variable {prog : Program} {w : World} {A : Around} {E : Value → Shared → Prop} {s : Shared}
end
section
variable {X : Cx} {pins : List (Addr × Obj)} {σ : St} {H : Hp} {s : Shared} {d : Addr} {o : Obj}
end
section
variable {P : Program} {w : World} {K : PySem.W.Frag} {tg : Expr} {d : Addr} {o : Obj} {es : Array DictEntry} {ep : Nat}
end
section
variable {X : Cx} {tg e : Expr} {td : TE} {apos cpos : Pos}
end
def Ite (K : PySem.W.Frag) (a : Addr) : It :=
  ⟨fun i H => ∃ (xs : List V) (x : V), SqL K H a xs ∧ xs[i]? = some x, fun i H v H' => ∃ T x, v = .ref T ∧ H T = none ∧ H' = upd H T (.tup [.int (i : Nat), x]) ∧ ∀ xs, SqL K H a xs → xs[i]? = some x, fun i H => ∃ xs : List V, SqL K H a xs ∧ xs.length ≤ i⟩
theorem turn_enum {P : Program} {w : World} {K : PySem.W.Frag} {elts : List Expr} {kk : Nat} {tpos : Pos} (a e it : Addr) :
    Turn P w K (.Tuple elts kk tpos) (Ite K a) [e, it] e (fun i h => (∃ old, IsEnum h e it ((i : Nat) : Int) old) ∧ h.IsListIter it a i ∧ e ≠ it) where
  mem := by simp
  obj := fun i h st b hb => by
    obtain ⟨⟨old, he⟩, ⟨o, ho, hc, hd⟩, _⟩ := st
    have e' : b = e ∨ b = it := by simpa using hb
    rcases e' with z | z
    · rw [z]; exact ⟨_, he, fun v q => nomatch q⟩
    · rw [z]; exact ⟨o, ho, fun v q => by rw [hd] at q; cases q⟩
  keep := fun i h h' st k => let ⟨⟨old, he⟩, hi, hne⟩ := st; ⟨⟨old, k e (by simp) _ he⟩, hi.at fun o q => k it (by simp) o q, hne⟩
  item := by
    intro X hP hw hK hc i pins s σ H E I hf st hg
    subst hP hw hK
    obtain ⟨⟨old, he⟩, hit, hne⟩ := st
    obtain ⟨xs, x, hq, hx⟩ := hg
    obtain ⟨its, rv, p, hz⟩ := I.list hq
    obtain ⟨u, hu, ru⟩ := rv.get hx
    have hel : e < s.heap.objs.size := Heap.lt_size he
    have hil : it < s.heap.objs.size := by obtain ⟨_, q, _⟩ := hit; exact Heap.lt_size q
    refine wpAny_pyNext_enum_item he hit p.isList (x := u) (by simpa using hu) hne fun h' ho hit' hT hsz hk => ?_
    refine ⟨_, rfl, wpAny_letOwnedTupleGo_enum (s := { s with heap := h', toks := s.toks + 1 }) ho fun h'' he' sb => ?_⟩
    have hT2 : h''.get? s.heap.objs.size = some { cls := .type "tuple", data := .seq #[.int i s.toks, u] } := (sb.2 _ (Nat.ne_of_gt hel)).trans hT
    have new : ObjOk X.prog X.w (upd H s.heap.objs.size (.tup [.int (i : Nat), x])) h'' s.heap.objs.size (.tup [.int (i : Nat), x]) :=
      ⟨by show 2 ≤ sizeLine; decide, [.int i s.toks, u], .cons ⟨_, rfl⟩ (.cons ru .nil), ⟨_, hT2, rfl, _, rfl⟩⟩
    have I1 : Inv X pins σ (upd H s.heap.objs.size (.tup [.int (i : Nat), x])) { s with heap := h'', toks := s.toks + 1 } :=
      I.turnedNew (ch := [e, it]) (fun b ob hb q => (sb.2 b (fun z => hb (by simp [z]))).trans (hk b ob (fun z => hb (by simp [z])) (fun z => hb (by simp [z])) q)) hf (Nat.le_refl _) new
    refine ⟨.ref s.heap.objs.size, _, I1, rfl, ⟨_, x, rfl, I.hok.fresh (Nat.le_refl _), rfl, fun ys hy => by rw [I.list_inj hy hq]; exact hx⟩, ⟨⟨u, ?_⟩, hit'.at fun o q => (sb.2 it (Ne.symm hne)).trans q, hne⟩, fun b hb => ?_⟩
    · have e1 : ((i + 1 : Nat) : Int) = (i : Int) + 1 := by omega
      rw [e1]; exact he'
    · have hb' : b < s.heap.objs.size := by
        have e' : b = e ∨ b = it := by simpa using hb
        rcases e' with z | z
        · rw [z]; exact hel
        · rw [z]; exact hil
      rw [upd_ne (Nat.ne_of_lt hb')]
      exact (hf b hb).1
  done := by
    intro X hP hw hK hc i pins s σ H E I hf st hg
    subst hP hw hK
    obtain ⟨⟨old, he⟩, hit, hne⟩ := st
    obtain ⟨xs, hq, hx⟩ := hg
    obtain ⟨its, rv, p, hz⟩ := I.list hq
    obtain ⟨f0, f1, f2, f3, f4, f5⟩ := hf it (by simp)
    have hl := rv.length
    exact wpAny_pyNext_enum_end (I.ok.hd hc) he hit p.isList (by simp; omega) fun h' eb => ⟨rfl, I.turned (t' := s.toks) (fun b o hb q => eb b o hb q) f0 f1 f3 f4 f5⟩
  self := fun A i s Q E st h => let ⟨⟨_, he⟩, _⟩ := st; wpAny_pyIter_enum he h
def iEnum (K : PySem.W.Frag) (ta : TA) : TI := fun σ H R => ta σ H fun vs H1 => ∃ a xs, vs = [.ref a] ∧ SqL K H1 a xs ∧ R (Ite K a) H1
theorem pi_enum {X : Cx} {e : Expr} {ta : TA} {p pos tpos : Pos} {elts : List Expr} {kk : Nat} (hg : Gl X "enumerate") (hm : X.mg "enumerate" = none) (ha : PA X [e] ta) (hs : starEach [e] X.env = [(false, eval e X.env)] := by rfl) :
    PI X (.Tuple elts kk tpos) (.Call (.Name "enumerate" p) [e] [] pos) (iEnum X.K ta) := by
  intro pins s σ H R I h
  refine Call_ (ld_blt I hg hm boot_enumerate (PyProof.Rows.callWith_type1 (thn (ha pos pins s σ H _ I h) fun us s1 ⟨vs, H1, I1, r1, q1⟩ => ?_) hs rfl))
  obtain ⟨a, xs, ex, hq, q⟩ := q1
  subst ex
  cases r1 with
  | cons r rr =>
    cases rr
    cases r
    obtain ⟨its, rv, p', hz⟩ := I1.list hq
    refine call_enumerate_list p'.isList fun h' he hit hsz hk => wpAny_pyIter_enum he ?_
    have I2 : Inv X pins σ H1 { s1 with heap := h' } := I1.kept (t' := s1.toks) hk
    refine ⟨s1.heap.objs.size + 1, [s1.heap.objs.size + 1, s1.heap.objs.size], _, _, H1, rfl, I2, turn_enum a (s1.heap.objs.size + 1) s1.heap.objs.size, ⟨⟨.none, he⟩, hit, Nat.succ_ne_self _⟩, fun b hb => ?_, q⟩
    have e' : b = s1.heap.objs.size + 1 ∨ b = s1.heap.objs.size := by simpa using hb
    have hle : s1.heap.objs.size ≤ b := by
      rcases e' with z | z
      · rw [z]; exact Nat.le_add_right _ _
      · rw [z]; exact Nat.le_refl _
    exact I1.fpOk hle (I1.hok.fresh hle)
theorem boot_zip5 : bootBuiltins "zip" = some (.type "zip") := by decide +kernel
def Itz (K : PySem.W.Frag) (a b : Addr) : It :=
  ⟨fun i H => ∃ (xs ys : List V) (x y : V), SqL K H a xs ∧ SqL K H b ys ∧ xs[i]? = some x ∧ ys[i]? = some y,
    fun i H v H' => ∃ T x y, v = .ref T ∧ H T = none ∧ H' = upd H T (.tup [x, y]) ∧ (∀ xs, SqL K H a xs → xs[i]? = some x) ∧ ∀ ys, SqL K H b ys → ys[i]? = some y,
    fun i H => ∃ xs ys : List V, SqL K H a xs ∧ SqL K H b ys ∧ (xs.length ≤ i ∨ ys.length ≤ i)⟩
theorem turn_zip {P : Program} {w : World} {K : PySem.W.Frag} {elts : List Expr} {kk : Nat} {tpos : Pos} {a b z TI TO i1 i2 : Addr} (D : ZipApart z TI TO i1 i2 a b) :
    Turn P w K (.Tuple elts kk tpos) (Itz K a b) [z, TI, TO, i1, i2] z (fun i h => IsZip h z TI TO .none ∧ IsPair h TI (.ref i1) (.ref i2) ∧ (∃ x y, IsPair h TO x y) ∧ h.IsListIter i1 a i ∧ h.IsListIter i2 b i) where
  mem := by simp
  obj := fun i h st c hc => by
    obtain ⟨hz, hTI, ⟨x, y, hTO⟩, ⟨o1, e1, _, d1⟩, ⟨o2, e2, _, d2⟩⟩ := st
    have e' : c = z ∨ c = TI ∨ c = TO ∨ c = i1 ∨ c = i2 := by simpa using hc
    rcases e' with q | q | q | q | q
    · rw [q]; exact ⟨_, hz, fun v q => nomatch q⟩
    · rw [q]; exact ⟨_, hTI, fun v q => nomatch q⟩
    · rw [q]; exact ⟨_, hTO, fun v q => nomatch q⟩
    · rw [q]; exact ⟨o1, e1, fun v q => by rw [d1] at q; cases q⟩
    · rw [q]; exact ⟨o2, e2, fun v q => by rw [d2] at q; cases q⟩
  keep := fun i h h' st k => by
    obtain ⟨hz, hTI, ⟨x, y, hTO⟩, h1, h2⟩ := st
    exact ⟨k z (by simp) _ hz, k TI (by simp) _ hTI, ⟨x, y, k TO (by simp) _ hTO⟩, h1.at fun o q => k i1 (by simp) o q, h2.at fun o q => k i2 (by simp) o q⟩
  item := by
    intro X hP hw hK hc i pins s σ H E I hf st hg
    subst hP hw hK
    obtain ⟨hz, hTI, ⟨x0, y0, hTO⟩, h1, h2⟩ := st
    obtain ⟨xs, ys, x, y, hqx, hqy, hx, hy⟩ := hg
    obtain ⟨its, rv, p, _⟩ := I.list hqx
    obtain ⟨its2, rv2, p2, _⟩ := I.list hqy
    obtain ⟨u, hu, ru⟩ := rv.get hx
    obtain ⟨u2, hu2, ru2⟩ := rv2.get hy
    have hzl : z < s.heap.objs.size := Heap.lt_size hz
    refine wpAny_pyNext_zip_item D hz hTI hTO h1 h2 p.isList p2.isList (x := u) (y := u2) (by simpa using hu) (by simpa using hu2) fun h' z' TO' h1' h2' hT hsz hk => ?_
    refine ⟨_, rfl, wpAny_letOwnedTupleGo_zip (s := { s with heap := h' }) z' fun h'' z'' sb => ?_⟩
    have hT2 : h''.get? s.heap.objs.size = some { cls := .type "tuple", data := .seq #[u, u2] } := (sb.2 _ (Nat.ne_of_gt hzl)).trans hT
    have new : ObjOk X.prog X.w (upd H s.heap.objs.size (.tup [x, y])) h'' s.heap.objs.size (.tup [x, y]) :=
      ⟨by show 2 ≤ sizeLine; decide, [u, u2], .cons ru (.cons ru2 .nil), ⟨_, hT2, rfl, _, rfl⟩⟩
    have I1 : Inv X pins σ (upd H s.heap.objs.size (.tup [x, y])) { s with heap := h'' } :=
      I.turnedNew (t' := s.toks) (ch := [z, TI, TO, i1, i2]) (fun c o hb q => (sb.2 c (fun q' => hb (by simp [q']))).trans (hk c o (fun q' => hb (by simp [q'])) (fun q' => hb (by simp [q'])) (fun q' => hb (by simp [q'])) (fun q' => hb (by simp [q'])) q)) hf (Nat.le_refl _) new
    refine ⟨.ref s.heap.objs.size, _, I1, rfl, ⟨_, x, y, rfl, I.hok.fresh (Nat.le_refl _), rfl, fun l hl => by rw [I.list_inj hl hqx]; exact hx, fun l hl => by rw [I.list_inj hl hqy]; exact hy⟩, ⟨z'', ?_, ⟨u, u2, ?_⟩, ?_, ?_⟩, fun c hcm => ?_⟩
    · exact (sb.2 _ D.TIz).trans (hk _ _ D.TIz D.TITO D.TIi1 D.TIi2 hTI)
    · exact (sb.2 _ D.TOz).trans TO'
    · exact h1'.at fun o q => (sb.2 _ D.i1z).trans q
    · exact h2'.at fun o q => (sb.2 _ D.i2z).trans q
    · have hlt : c < s.heap.objs.size := by
        have e' : c = z ∨ c = TI ∨ c = TO ∨ c = i1 ∨ c = i2 := by simpa using hcm
        rcases e' with q | q | q | q | q
        · rw [q]; exact hzl
        · rw [q]; exact Heap.lt_size hTI
        · rw [q]; exact Heap.lt_size hTO
        · rw [q]; obtain ⟨_, e1, _⟩ := h1; exact Heap.lt_size e1
        · rw [q]; obtain ⟨_, e2, _⟩ := h2; exact Heap.lt_size e2
      rw [upd_ne (Nat.ne_of_lt hlt)]
      exact (hf c hcm).1
  done := by
    intro X hP hw hK hc i pins s σ H E I hf st hg
    subst hP hw hK
    obtain ⟨hz, hTI, ⟨x0, y0, hTO⟩, h1, h2⟩ := st
    obtain ⟨xs, ys, hqx, hqy, hend⟩ := hg
    obtain ⟨its, rv, p, _⟩ := I.list hqx
    obtain ⟨its2, rv2, p2, _⟩ := I.list hqy
    have l1 := rv.length
    have l2 := rv2.length
    have he : its.toArray[i]? = none ∨ its2.toArray[i]? = none := by
      rcases hend with q | q
      · exact .inl (by simp; omega)
      · exact .inr (by simp; omega)
    exact wpAny_pyNext_zip_end (I.ok.hd hc) D hz hTI hTO h1 h2 p.isList p2.isList he fun h' hk => ⟨rfl, I.turnedL (t' := s.toks) (ch := [z, TI, TO, i1, i2]) (fun c o hb q =>
      hk c o (fun q' => hb (by simp [q'])) (fun q' => hb (by simp [q'])) (fun q' => hb (by simp [q'])) (fun q' => hb (by simp [q'])) q) hf⟩
  self := fun A i s Q E st h => wpAny_pyIter_zip st.1 h
def iZip (K : PySem.W.Frag) (ta : TA) : TI := fun σ H R => ta σ H fun vs H1 => ∃ a b xs ys, vs = [.ref a, .ref b] ∧ SqL K H1 a xs ∧ SqL K H1 b ys ∧ R (Itz K a b) H1
theorem pi_zip {X : Cx} {e e2 : Expr} {ta : TA} {p pos tpos : Pos} {elts : List Expr} {kk : Nat} (hg : Gl X "zip") (hm : X.mg "zip" = none) (ha : PA X [e, e2] ta)
    (hs : starEach [e, e2] X.env = (false, eval e X.env) :: starEach [e2] X.env := by rfl) (hpl : (backTo pos (starEach [e2] X.env)).any (·.1) = false := by rfl) :
    PI X (.Tuple elts kk tpos) (.Call (.Name "zip" p) [e, e2] [] pos) (iZip X.K ta) := by
  intro pins s σ H R I h
  refine Call_ (ld_blt I hg hm boot_zip5 (PyProof.Rows.callWith_type1 (thn (ha pos pins s σ H _ I h) fun us s1 ⟨vs, H1, I1, r1, q1⟩ => ?_) hs hpl))
  obtain ⟨a, b, xs, ys, ex, hqx, hqy, q⟩ := q1
  subst ex
  cases r1 with
  | cons r rr =>
    cases rr with
    | cons r' rr =>
      cases rr
      cases r
      cases r'
      obtain ⟨its, rv, p1, _⟩ := I1.list hqx
      obtain ⟨its2, rv2, p2, _⟩ := I1.list hqy
      have la : a < s1.heap.objs.size := p1.lt
      have lb : b < s1.heap.objs.size := p2.lt
      refine call_zip_2 p1.isList p2.isList fun h' hz hTI hTO h1 h2 hsz hk => wpAny_pyIter_zip hz ?_
      have I2 : Inv X pins σ H1 { s1 with heap := h' } := I1.kept (t' := s1.toks) hk
      refine ⟨s1.heap.objs.size + 4, [s1.heap.objs.size + 4, s1.heap.objs.size + 2, s1.heap.objs.size + 3, s1.heap.objs.size, s1.heap.objs.size + 1], _, _, H1, rfl, I2, turn_zip (PySem.W.ktu_apart s1.heap.objs.size a b la lb), ⟨hz, hTI, ⟨_, _, hTO⟩, h1, h2⟩, fun c hcm => ?_, q⟩
      have e' : c = s1.heap.objs.size + 4 ∨ c = s1.heap.objs.size + 2 ∨ c = s1.heap.objs.size + 3 ∨ c = s1.heap.objs.size ∨ c = s1.heap.objs.size + 1 := by simpa using hcm
      have hle : s1.heap.objs.size ≤ c := by
        rcases e' with z | z | z | z | z
        · rw [z]; exact Nat.le_add_right _ _
        · rw [z]; exact Nat.le_add_right _ _
        · rw [z]; exact Nat.le_add_right _ _
        · rw [z]; exact Nat.le_refl _
        · rw [z]; exact Nat.le_add_right _ _
      exact I1.fpOk hle (I1.hok.fresh hle)
end L2
section
namespace Bits
open PySem PyProof.Rows
end Bits
end
section
namespace TL
open PySem PySem.Builtin PySem.Builtin.Str PySem.StrLaws
abbrev tl (x : Str) : List Nat := x.cps.toList
def pre (S l : List Nat) : Bool := l.take S.length == S
def par (S : List Nat) : List Nat → List Nat → Option (List Nat × List Nat)
  | _, [] => none
  | acc, c :: r => if pre S (c :: r) = true then some (acc, (c :: r).drop S.length) else par S (acc ++ [c]) r
end TL
end
namespace L2
open PySem PySem.Spec PyProof.Rows
section
variable {X : Cx} {pins : List (Addr × Obj)} {σ : St} {H : Hp} {s : Shared} {Q : VK}
end
section
variable {X : Cx}
end
section
variable {X : Cx} {o e : Expr} {to te : TE}
end
end L2
namespace L2
open PySem PySem.Spec PyProof.Rows
section
variable {X : Cx}
end
end L2
namespace Att
open PySem PySem.W PySem.Calls PyProof.Rows
theorem ints_of_wellAll {P : Params} {h : Heap} : ∀ (ns : List Int) (vs : List Value), WellAll P h vs (ns.map WData.int) → IntsAre vs ns := by
  intro ns
  induction ns with
  | nil =>
    intro vs w
    rw [List.map_nil] at w
    cases w
    exact .nil
  | cons n ns ih =>
    intro vs w
    rw [List.map_cons] at w
    cases w with
    | cons a b =>
      cases a
      exact .cons _ _ (ih _ b)
theorem script_of {l : OpenLaw} {n : Nat} (hn : l.most = some n) {P : Params} {h : Heap} {args : List WData} {vals : List Value}
    (hpre : l.row.toRowW.claim.pre args = true) (hwl : WellAll P h vals args) :
    ∃ a vs ns, vals = [Value.ref a] ∧ args = [WData.list (ns.map WData.int)] ∧ h.get? a = some { cls := .type "list", data := .seq vs.toArray } ∧ IntsAre vs ns ∧ ns.length ≤ n := by
  have hsh : WShape.hasAll [] args [.list .int] = true := (pre_splitW hpre).1
  have hc : l.pre.holds [] { args := args } = true := (pre_splitW hpre).2
  obtain ⟨d, r, rfl, h1, h2⟩ := hasAllW_cons hsh
  obtain rfl := hasAllW_nil h2
  obtain ⟨xs, rfl, h3⟩ := hasW_list h1
  obtain ⟨ns, rfl⟩ := items_int h3
  have hlen : ns.length ≤ n := by
    unfold OpenLaw.pre at hc
    have h4 : (WTm.not (.lt (.lit (.int (n : Int))) (.len (.arg 0)))).holds [] { args := [.list (ns.map .int)] } = true := by
      have h4 := (holds_andW hc).1
      rw [hn] at h4
      exact h4
    have h5 := condW_of h4 (w_not (w_lt w_lit (w_len_list (w_arg rfl))))
    rw [List.length_map] at h5
    refine Nat.le_of_not_lt fun q => ?_
    have q' : (n : Int) < ((ns.length : Nat) : Int) := by omega
    first
      | (rw [decide_eq_true q'] at h5; exact absurd h5 (by decide))
      | (simp at h5; omega)
  cases hwl with
  | cons w1 w2 =>
    cases w2
    cases w1 with
    | list ho hall => exact ⟨_, _, ns, rfl, rfl, ho, ints_of_wellAll ns _ hall, hlen⟩
theorem post_true (l : OpenLaw) (args : List WData) : l.row.toRowW.claim.post args (.bool true) args = true :=
  postW_of (r := l.row.toRowW) (X := (true == true))
    (show WShape.has [] (.bool true) .bool = true by first | rfl | decide | simp [WShape.has, WShape.arms, WShape.armsAll])
    (show (WTm.eq .res (.lit (.bool true))).value [] { args := args, res := some (.bool true), after := args } = some (.bool (true == true)) from w_eq_bool (w_res rfl) w_lit) rfl
theorem attach_call {l : OpenLaw} {n : Nat} {q : Program} {loose : List Str} {XP : (Str → Option Value) → Heap → Prop} {YP : World → Heap → Prop} {d : DefRec}
    (hn : l.most = some n) (hdf : d.params.defaults = [])
    (call : ∀ (w : World) (s₀ s₁ : Shared) (mg mb : Str → Option Value) (fa : Addr) (o : Obj) (pm cd doc : Value) (a : Addr) (vs : List Value) (ns : List Int),
      Ground q loose [] XP w s₀ mg mb s₁.heap → YP w s₁.heap →
      s₁.heap.get? fa = some o → o.data = .func (docDef d.name d.params d.body d.scope pm cd doc) → s₁.heap.CodeRec cd d.name → mg d.name = some (.ref fa) →
      s₁.heap.get? a = some { cls := .type "list", data := .seq vs.toArray } → IntsAre vs ns → ns.length ≤ n → s₁.gens = #[] →
      codeAny (model l.prog w) callerA (.call (.ref fa) ⟨[.ref a], []⟩) (fun r s' => r = .ok (.ret (.bool true)) ∧ OldK s₁.heap s'.heap ∧ s'.os = s₁.os ∧ AllBare s'.gens) s₁) :
    WalkO q loose XP YP l.row.toRowW d [] (fun f vs => PySem.call f vs) := by
  intro w s₀ s₁ mg mb G Y fa o pm cd doc dV kV ho hd hcd hD hmg hg args vals as hpre hlay hrd hwl hlo
  obtain rfl : dV = .none := Dflts.none hD hdf
  obtain rfl : kV = .none := Dflts.noKw hD
  obtain ⟨a, vs, ns, rfl, rfl, hobj, hints, hlen⟩ := script_of hn hpre hwl
  refine enter_call (codeAny_mono (call w s₀ s₁ mg mb fa o pm cd doc a vs ns G Y ho (fd_plain hd) hcd hmg hobj hints hlen hg) fun r s' hq => ?_)
  obtain ⟨rfl, h2, h3, h4⟩ := hq
  exact ⟨.inl ⟨.bool true, .bool true, [], rfl, fun _ => rfl, .bool true, post_true l _, fun _ => ⟨List.Pairwise.nil, fun _ hm => (nomatch hm)⟩⟩, h2, h3, h4⟩
section
variable {prog : Program} {w : World} {A : Around} {E : Value → Shared → Prop} {s : Shared} {K : Frag}
end
end Att
namespace L2
open PySem PySem.Spec PyProof.Rows
theorem vals_ints : ∀ {vs : List Value} {ns : List Int}, IntsAre vs ns → Vals (ns.map V.int) vs
  | _, _, .nil => .nil
  | _, _, .cons n t h => .cons ⟨t, rfl⟩ (vals_ints h)
def Only (H : Hp) : Prop := ∀ b, H b = none ∨ ∃ o xs, H b = some (.frz o (.lst xs))
theorem law_call {P : Program} {w : World} {K : PySem.W.Frag} {mg mb : Str → Option Value} {CX : CXT} {k : Nat} {fa a : Addr} {fd : FuncData} {x : Str} {sp : Sp} {s₁ : Shared} {vs : List Value} {ns : List Int}
    (KX : K.In s₁.heap) (hns : s₁.heap.Ns mainGlobals mg) (hb : s₁.heap.Ns builtinsNs mb) (hbb : ∀ x : Str, x ≠ "__name__" → mb x = bootBuiltins x) (hlim : s₁.heap.NoLimit) (hg : s₁.gens = #[])
    (ha : s₁.heap.get? a = some { cls := .type "list", data := .seq vs.toArray }) (hi : IntsAre vs ns) (hl : ns.length ≤ sizeLine) (hr : Room k callerA)
    (F : ∀ base : Heap, K.In base → base.Ns mainGlobals mg → FnOk P w K mg base CX k fa fd [x] sp) (hbind : ∀ (s : Shared) (u : Value), BindsTo s fd ⟨[u], []⟩ [(x, u)])
    (hsp : ∀ H : Hp, Only H → SqL K H a (ns.map V.int) → sp [.ref a] H (fun v _ => v = .bl true) fun _ _ _ => False)
    (hCX : ∀ H e s', CX [] H s₁ (fun _ _ _ => False) e s' → False) :
    codeAny (model P w) callerA (.call (.ref fa) ⟨[.ref a], []⟩) (fun r s' => r = .ok (.ret (.bool true)) ∧ OldK s₁.heap s'.heap ∧ s'.os = s₁.os ∧ AllBare s'.gens) s₁ := by
  have rv := vals_ints hi
  have lenV := hi.length
  have core : ∀ H : Hp, Only H → SqL K H a (ns.map V.int) → HOk P w H s₁.heap → (∀ b, H b ≠ none → b = a) → (H a ≠ none → K.lookup a = none) →
      codeAny (model P w) callerA (.call (.ref fa) ⟨[.ref a], []⟩) (fun r s' => r = .ok (.ret (.bool true)) ∧ OldK s₁.heap s'.heap ∧ s'.os = s₁.os ∧ AllBare s'.gens) s₁ := by
    intro H hO hS hok hA hK
    have base_of : ∀ {b : Addr} {o : Obj}, s₁.heap.get? b = some o → H b = none → (hidT s₁.heap H).get? b = some o := fun e n => hidT_get e n
    have noA : ∀ {b : Addr} {o : Obj} {es : Array DictEntry} {ep : Nat}, s₁.heap.get? b = some o → o.data = .dict es ep → H b = none := fun {b o es ep} e d => by
      cases q : H b with
      | none => rfl
      | some u =>
        have e' : b = a := hA b (by rw [q]; simp)
        subst e'
        rw [ha] at e; cases e
        have d' : Data.seq vs.toArray _ = Data.dict es ep := d
        cases d'
    have nsK : ∀ {b : Addr} {m : Str → Option Value}, s₁.heap.Ns b m → (hidT s₁.heap H).Ns b m := fun {b m} ⟨o, es, ep, e, d, r⟩ => ⟨o, es, ep, base_of e (noA e d), d, r⟩
    have hKb : K.In (hidT s₁.heap H) := fun b o e => base_of (KX b o e) (by
      cases q : H b with
      | none => rfl
      | some u =>
        have e' : b = a := hA b (by rw [q]; simp)
        subst e'
        rw [hK (by rw [q]; simp)] at e; cases e)
    have hM : Mod K mg (hidT s₁.heap H) := ⟨hKb, nsK hns, ⟨mb, nsK hb, hbb⟩, let ⟨mc, h1, h2⟩ := hlim; ⟨mc, nsK h1, h2⟩⟩
    have e0 : Env0 P w K mg (hidT s₁.heap H) callerA [] s₁ H := ⟨rfl, hM, fun b o e => of_hidT e, Nat.le_of_eq (hidT_size _ _), trivial, fun b hb => absurd (show b ∈ ([] : List Addr) from hb) (by simp), hok, .of_eq hg⟩
    refine codeAny_mono ((F _ hKb (nsK hns)).run callerA [] s₁ H ⟨[.ref a], []⟩ [.ref a] [.ref a] _ _ hr e0 (hbind s₁ (.ref a)) (.cons rfl .nil) (hsp H hO hS)) fun r s' h => ?_
    cases r with
    | error e => exact (hCX H e s' h).elim
    | ok fl =>
      cases fl with
      | next => exact False.elim h
      | brk => exact False.elim h
      | cont => exact False.elim h
      | ret u =>
        obtain ⟨v, H', os, bare, un, hok', r', q⟩ := h
        have q' : v = .bl true := q
        subst q'
        obtain rfl : u = Value.bool true := r'
        refine ⟨rfl, OldK.of_keep fun b o e => ?_, os, bare⟩
        cases q : H b with
        | none => exact un.keep b o e q (by intro z; exact absurd (show b ∈ ([] : List Addr) from z) (by simp)) (by simp)
        | some u =>
          rcases hO b with z | ⟨ob, xs, z⟩
          · rw [q] at z; cases z
          · have z2 := un.frzs b ob _ z
            obtain ⟨e1, _⟩ := hok b _ z
            obtain ⟨e2, _⟩ := hok' b _ z2
            rw [e] at e1; cases e1
            exact e2
  cases hk : K.lookup a with
  | some o =>
    have e := KX a o hk
    rw [ha] at e
    cases e
    refine core (fun _ => none) (fun _ => .inl rfl) (.inr ⟨_, vs.toArray, _, hk, rfl, rfl, rfl, by rw [List.size_toArray, lenV]; exact hl, by simpa using rv⟩) (fun b u z => by have z' : (none : Option HO) = some u := z; cases z') (fun b z => absurd rfl z) fun z => absurd rfl z
  | none =>
    refine core (fun b => if b = a then some (.frz { cls := .type "list", data := .seq vs.toArray } (.lst (ns.map V.int))) else none) (fun b => ?_) (.inl (.inr ⟨{ cls := .type "list", data := .seq vs.toArray }, if_pos rfl⟩)) (fun b u z => ?_) (fun b z => ?_) fun _ => hk
    · by_cases hb : b = a
      · exact .inr ⟨_, _, if_pos hb⟩
      · exact .inl (if_neg hb)
    · by_cases hb : b = a
      · have z' := (if_pos hb).symm.trans z
        cases z'
        subst hb
        exact ⟨ha, by rw [List.length_map]; exact hl, vs, _, rv, ha⟩
      · have z' := (if_neg hb).symm.trans z
        cases z'
    · by_cases hb : b = a
      · exact hb
      · exact absurd (if_neg hb) z
end L2
namespace L2
open PySem PySem.Spec PyProof.Rows
theorem walk_of {l : PySem.W.OpenLaw} {n k : Nat} {q : Program} {loose : List Str} {XP : (Str → Option Value) → Heap → Prop} {YP : World → Heap → Prop} {d : DefRec} {K : Params → PySem.W.Frag} {CX : World → CXT} {sp : World → Sp} {x : Str}
    (hn : l.most = some n) (hn2 : n ≤ sizeLine) (hdf : d.params.defaults = []) (hr : Room k callerA)
    (hY : ∀ (w : World) (h : Heap), YP w h → (K w.params).In h)
    (F : ∀ (w : World) (mg : Str → Option Value) (fa : Addr) (h : Heap), (K w.params).In h → h.Ns mainGlobals mg → mg d.name = some (.ref fa) →
      ∃ fd : FuncData, (∀ (s : Shared) (u : Value), BindsTo s fd ⟨[u], []⟩ [(x, u)]) ∧
        ∀ base : Heap, (K w.params).In base → base.Ns mainGlobals mg → FnOk l.prog w (K w.params) mg base (CX w) k fa fd [x] (sp w))
    (hsp : ∀ (w : World) (H : Hp) (a : Addr) (ns : List Int), ns.length ≤ n → Only H → SqL (K w.params) H a (ns.map V.int) → sp w [.ref a] H (fun v _ => v = .bl true) fun _ _ _ => False)
    (hCX : ∀ (w : World) (H : Hp) (s : Shared) (e : Value) (s' : Shared), CX w [] H s (fun _ _ _ => False) e s' → False) :
    PySem.W.WalkO q loose XP YP l.row.toRowW d [] (fun f vs => PySem.call f vs) := by
  refine Att.attach_call hn hdf fun w s₀ s₁ mg mb fa o pm cd doc a vs ns G Y ho hd hcd hmg hobj hints hlen hg => ?_
  have KX := hY w _ Y
  obtain ⟨fd, hb, hF⟩ := F w mg fa _ KX G.T.g hmg
  exact law_call KX G.T.g G.T.b G.T.builtins G.T.nolimit hg hobj hints (Nat.le_trans hlen hn2) hr hF hb (fun H hO hS => hsp w H a ns hlen hO hS) fun H e s' => hCX w H s₁ e s'
end L2
namespace L2
open PySem PySem.Spec PyProof.Rows
def defArgs (s : Stmt) : Arguments := match s with
  | .FunctionDef _ a _ _ _ _ _ _ _ _ => a
  | _ => { posonlyargs := [], args := [], vararg := none, kwonlyargs := [], kw_defaults := [], kwarg := none, defaults := [] }
def defBody (s : Stmt) : List Stmt := match s with
  | .FunctionDef _ _ b _ _ _ _ _ _ _ => b
  | _ => []
def defScope (s : Stmt) : Scope := match s with
  | .FunctionDef _ _ _ _ _ _ sc _ _ _ => sc
  | _ => { kind := .function, names := [], isGenerator := false, isCoroutine := false }
abbrev CX0 : CXT := fun _ _ _ _ _ _ => False
abbrev E0 : XK := fun _ _ _ => False
theorem pass0 {X : Cx} : Passes CX0 X E0 := fun _ _ _ _ _ _ _ h => h.elim
structure Fun (K : PySem.W.Frag) (x qual : Str) (st : Stmt) (f : Addr) (fd : FuncData) : Prop where
  ex : ∃ (oc : Value) (od : Option Addr) (kV doc pm : Value) (an : Option Addr) (cdv ct : Value) (osl : Array (Option Value)),
    fd = PySem.W.fnOf x qual (defArgs st) (defBody st) (defScope st) .none kV doc pm an cdv ct ∧ K.lookup f = some ⟨oc, od, .func fd, osl⟩ ∧ PySem.W.codeIn K cdv qual = true
  kp : PySem.W.keepIn K (.ref f) = true
section
variable {P : Program} {w : World} {K : PySem.W.Frag} {mg : Str → Option Value} {base : Heap}
theorem Fun.ok {x qual : Str} {st : Stmt} {f : Addr} {fd : FuncData} {N ps : List Str} {k : Nat} {sp : Sp} (F : Fun K x qual st f fd) (S : FnScope N ps (defScope st)) (len : ∀ vs H Q E, sp vs H Q E → vs.length = ps.length)
    (hbody : ∀ (cdv : Value) (A : Around) (outer : List Env) (s : Shared) (H : Hp) (vs : List V) (Q : VK) (E : XK), Room k (A.deeper (envOfC qual (defScope st) s.heap.objs.size f cdv)) → sp vs H Q E →
      ∃ t, PSs (cxOf CX0 P w K mg base N qual (defScope st) f cdv A outer s H E).nox (defBody st) t ∧ t { nx := fun _ H' => Q .non H', rt := Q } (start N vs) H) : FnOk P w K mg base CX0 (k + 1) f fd ps sp := by
  obtain ⟨oc, od, kV, doc, pm, an, cdv, ct, osl, rfl, lk, hcd⟩ := F.ex
  refine fn_of lk hcd S len fun A outer s H vs Q E hr hsp => ?_
  obtain ⟨t, h, q⟩ := hbody cdv A outer s H vs Q E hr hsp
  exact ⟨t, h.nox, q⟩
theorem Fun.binds {x qual : Str} {st : Stmt} {f : Addr} {fd : FuncData} {ps : List Str} (F : Fun K x qual st f fd)
    (h : ∀ (kV doc pm : Value) (an : Option Addr) (cdv ct : Value) (us : List Value), us.length = ps.length → bindArgs (PySem.W.fnOf x qual (defArgs st) (defBody st) (defScope st) .none kV doc pm an cdv ct) ⟨us, []⟩ = pure (ps.zip us)) : Binds K fd ps [] := by
  obtain ⟨oc, od, kV, doc, pm, an, cdv, ct, osl, rfl, lk, hcd⟩ := F.ex
  exact .all (h kV doc pm an cdv ct)
theorem fun_mk {x qual : Str} {st : Stmt} {f : Addr} {oc : Value} {od an : Option Addr} {osl : Array (Option Value)} {kV doc pm cdv ct : Value} (l : K.lookup f = some ⟨oc, od, .func (PySem.W.fnOf x qual (defArgs st) (defBody st) (defScope st) .none kV doc pm an cdv ct), osl⟩)
    (c : PySem.W.codeIn K cdv qual = true) (k : PySem.W.keepIn K (.ref f) = true) : Fun K x qual st f (PySem.W.fnOf x qual (defArgs st) (defBody st) (defScope st) .none kV doc pm an cdv ct) := ⟨⟨oc, od, kV, doc, pm, an, cdv, ct, osl, rfl, l, c⟩, k⟩
end
theorem hu_of {A : Around} {k : Nat} (hr : Room k A) : A.units + 1 < cLine := Nat.lt_of_le_of_lt (Nat.add_le_add_left (by decide : 1 ≤ 64) _) hr.units
section
variable {X : Cx}
theorem pv (i : Nat) {x : Str} {pos : Pos} (hN : X.N[i]? = some x := by rfl) (hv : Vis X.env.scope x := by first | exact Or.inl rfl | exact Or.inr (Or.inl rfl) | exact Or.inr (Or.inr rfl)) (hd : (x == ("__debug__" : Str)) = false := by decide)
    (hcd : (x == ("__classdict__" : Str)) = false := by decide) : PE X (.Name x pos) (tVar i) := pe_var hN hv hd hcd
end
theorem iteF {A B : Prop} (h : B) : if false = true then A else B := by
  rw [if_neg Bool.false_ne_true]
  exact h
theorem iteT {A B : Prop} (h : A) : if true = true then A else B := by
  rw [if_pos rfl]
  exact h
theorem iteNS {c A B : Prop} [Decidable c] (hc : c) (h : B) : if (!decide c) = true then A else B := by
  rw [decide_eq_true hc]
  exact iteF h
def Same (H H' : Hp) : Prop := ∀ b o, H b = some o → H' b = some o
theorem Same.refl (H : Hp) : Same H H := fun _ _ h => h
theorem Same.trans {H H1 H2 : Hp} (a : Same H H1) (b : Same H1 H2) : Same H H2 := fun c o h => b c o (a c o h)
theorem Same.free {H H' : Hp} (e : Same H H') {l : Addr} (h : H' l = Option.none) : H l = Option.none := by
  cases q : H l with
  | none => rfl
  | some o =>
    rw [e l o q] at h
    cases h
theorem Same.seq {K : PySem.W.Frag} {H H' : Hp} {a : Addr} {xs : List V} (e : Same H H') (h : SqL K H a xs) : SqL K H' a xs := by
  rcases h with (h | ⟨o, h⟩) | h
  · exact .inl (.inl (e _ _ h))
  · exact .inl (.inr ⟨o, e _ _ h⟩)
  · exact .inr h
section
variable {κ : Type} [DecidableEq κ]
end
theorem Same.made {H H1 : Hp} {x dx C : Addr} (nx : H x = Option.none) (nd : H dx = Option.none) (k : ∀ b o, (upd (upd H dx (.own x)) x (.ins C dx [])) b = some o → b ≠ x → H1 b = some o) : Same H H1 := fun b o e =>
  k b o (by rw [upd_ne (ne_of_none e nx), upd_ne (ne_of_none e nd)]; exact e) (ne_of_none e nx)
end L2
set_option Elab.async false
set_option linter.all false
set_option maxRecDepth 100000
namespace L2
open PySem PySem.Spec PyProof.Rows
def FnC (P : Program) (w : World) (K : PySem.W.Frag) (mg : Str → Option Value) (base : Heap) (k : Nat) (x : Str) (ps : List Str) (sp : Sp) : Prop :=
  ∃ f fd, FnOk P w K mg base CX0 k f fd ps sp ∧ mg x = some (.ref f) ∧ PySem.W.keepIn K (.ref f) = true ∧ Binds K fd ps []
theorem FnC.mono {P : Program} {w : World} {K : PySem.W.Frag} {mg : Str → Option Value} {base : Heap} {j k : Nat} {x : Str} {ps : List Str} {sp : Sp} (C : FnC P w K mg base j x ps sp) (h : j ≤ k) : FnC P w K mg base k x ps sp := by
  obtain ⟨f, fd, F, r⟩ := C
  exact ⟨f, fd, F.mono h, r⟩
def tCallC (sp : Sp) (t : TA) : TE := fun σ H Q => t σ H fun vs H1 => sp vs H1 Q E0
section
variable {X : Cx} {k : Nat} {ps : List Str} {sp : Sp} {x : Str} {p pos : Pos} {e : Expr} {es : List Expr} {t : TA}
theorem pe_callC (C : FnC X.prog X.w X.K X.mg X.base k x ps sp) (hr : Room k X.A) (hg : Gl X x) (ha : PA X (e :: es) t)
    (hdb : (x == ("__debug__" : Str)) = false := by decide) (he : starEach (e :: es) X.env = (false, eval e X.env) :: starEach es X.env := by rfl) (hpl : (backTo pos (starEach es X.env)).any (·.1) = false := by rfl) :
    PE X (.Call (.Name x p) (e :: es) [] pos) (tCallC sp t) := by
  obtain ⟨f, fd, F, hm, hk, hb⟩ := C
  intro pins s σ H Q I h
  have q := pe_call (p := p) (dvs := []) F hr hg hm hk hb .nil pass0 ha hdb he hpl pins s σ H Q I
  refine q ?_
  unfold tCall
  simp only [List.append_nil]
  exact h
end
def qB (x : V) (H : Hp) (Q : Bool → Hp → Prop) : Prop := ∃ k, x = .bl k ∧ Q k H
def qI (x : V) (H : Hp) (Q : Option Int → Hp → Prop) : Prop := ∃ i, x = .int i ∧ Q (some i) H
def qTup (xs : List V) (H : Hp) (Q : VK) : Prop := xs.length ≤ sizeLine ∧ ∀ p, H p = none → Q (.ref p) (upd H p (.tup xs))
def qLst (xs : List V) (H : Hp) (Q : VK) : Prop := xs.length ≤ sizeLine ∧ ∀ p, H p = none → Q (.ref p) (upd H p (.lst xs))
def gPar (i j : Nat) (vs : List V) (σ : St) (H : Hp) (nx : St → Hp → Prop) : Prop := ∃ v w, vs = [v, w] ∧ nx ((σ.set i (some v)).set j (some w)) H
section
variable {σ : St} {H : Hp} {Q : VK} {nx : St → Hp → Prop} {rt : VK} {bk ct : St → Hp → Prop} {t u : TS} {c : TT} {ta tb tc te : TE} {i j : Nat} {v x y : V} {r r' : R2} {K : PySem.W.Frag} {p : Addr} {xs ys : List V} {n m : Int} {QB : Bool → Hp → Prop} {tA : TA} {tt tt' : TT} {g : TG} {b : Bool}
theorem go_seq (h : t ⟨u ⟨nx, rt, bk, ct⟩, rt, bk, ct⟩ σ H) : tSeq t u ⟨nx, rt, bk, ct⟩ σ H := h
theorem go_next (h : nx σ H) : tNext ⟨nx, rt, bk, ct⟩ σ H := h
theorem go_ret (h : te σ H rt) : tRet te ⟨nx, rt, bk, ct⟩ σ H := h
theorem go_retN (h : rt .non H) : tRetN ⟨nx, rt, bk, ct⟩ σ H := h
theorem go_drop (h : te σ H fun _ H1 => nx σ H1) : tDrop te ⟨nx, rt, bk, ct⟩ σ H := h
theorem go_ifS (h : c σ H fun b H1 => if b = true then t ⟨nx, rt, bk, ct⟩ σ H1 else u ⟨nx, rt, bk, ct⟩ σ H1) : tIfS c t u ⟨nx, rt, bk, ct⟩ σ H := h
theorem go_asg (h : te σ H fun x H1 => g x σ H1 nx) : tAsg te g ⟨nx, rt, bk, ct⟩ σ H := h
theorem go_gname (h : nx (σ.set i (some v)) H) : gName i v σ H nx := h
theorem go_gsub {to ti : TE} {ts : TSet} (h : to σ H fun o H1 => ti σ H1 fun i H2 => ts o i v H2 fun H3 => nx σ H3) : gSub to ti ts v σ H nx := h
theorem go_setL {QH : Hp → Prop} {k : Int} (h : H p = some (.lst xs)) (e : ixN xs.length k = some j) (q : QH (upd H p (.lst (xs.set j v)))) : rSetL (.ref p) (.int k) v H QH := ⟨p, xs, k, j, rfl, rfl, h, e, q⟩
theorem go_par (h : tA σ H fun vs H1 => gPar i j vs σ H1 nx) : tPar i j tA ⟨nx, rt, bk, ct⟩ σ H := h
theorem go_gpar (h : nx ((σ.set i (some x)).set j (some y)) H) : gPar i j [x, y] σ H nx := ⟨x, y, rfl, h⟩
theorem go_var (e : σ[i]? = some (some v)) (h : Q v H) : tVar i σ H Q := ⟨v, e, h⟩
theorem go_c (h : Q v H) : tC v σ H Q := h
theorem go_op (h : ta σ H fun x H1 => tb σ H1 fun y H2 => r x y H2 Q) : tOp r ta tb σ H Q := h
theorem go_i0 {g : Int → Int → V} (h : Q (g n m) H) : rI0 g (.int n) (.int m) H Q := ⟨n, m, rfl, rfl, h⟩
theorem go_i {C : Int → Int → Prop} {g : Int → Int → V} (hc : C n m) (h : Q (g n m) H) : rI C g (.int n) (.int m) H Q := ⟨n, m, rfl, rfl, hc, h⟩
theorem go_eq (e : scal x y = true) (h : Q (.bl (decide (x = y))) H) : rEq x y H Q := ⟨e, h⟩
theorem go_ne (e : scal x y = true) (h : Q (.bl (!decide (x = y))) H) : rNe x y H Q := ⟨e, h⟩
theorem go_test (h : te σ H fun x H1 => qB x H1 QB) : tTest te σ H QB := h
theorem go_testB (h : te σ H fun x H1 => qB x H1 QB) : tB te σ H QB := h
theorem go_qb (h : QB b H) : qB (.bl b) H QB := ⟨b, rfl, h⟩
theorem go_and (h : tt σ H fun c H1 => if c = true then tt' σ H1 QB else QB false H1) : tAnd tt tt' σ H QB := h
theorem go_or (h : tt σ H fun c H1 => if c = true then QB true H1 else tt' σ H1 QB) : tOr tt tt' σ H QB := h
theorem go_not (h : tt σ H fun c H1 => QB (!c) H1) : tNot tt σ H QB := h
theorem go_andV (h : ta σ H fun x H1 => qB x H1 fun c H2 => if c = true then tb σ H2 Q else Q (.bl false) H2) : tAndV ta tb σ H Q := h
theorem go_orV (h : ta σ H fun x H1 => qB x H1 fun c H2 => if c = true then Q (.bl true) H2 else tb σ H2 Q) : tOrV ta tb σ H Q := h
theorem go_notV (h : ta σ H fun x H1 => qB x H1 fun c H2 => Q (.bl (!c)) H2) : tNotV ta σ H Q := h
theorem go_if (h : tt σ H fun c H1 => if c = true then ta σ H1 Q else tb σ H1 Q) : tIf tt ta tb σ H Q := h
theorem go_iteD {c A B : Prop} [Decidable c] (h1 : c → A) (h2 : ¬ c → B) : if decide c = true then A else B := by
  by_cases h : c
  · rw [if_pos (decide_eq_true h)]; exact h1 h
  · rw [if_neg (by simp [h])]; exact h2 h
theorem go_iteT {A B : Prop} (h : A) : if true = true then A else B := iteT h
theorem go_iteF {A B : Prop} (h : B) : if false = true then A else B := iteF h
theorem go_tup (h : tA σ H fun xs H1 => qTup xs H1 Q) : tTup tA σ H Q := h
theorem go_lst (h : tA σ H fun xs H1 => qLst xs H1 Q) : tLst tA σ H Q := h
theorem go_qtup (hl : xs.length ≤ sizeLine) (h : ∀ p, H p = none → Q (.ref p) (upd H p (.tup xs))) : qTup xs H Q := ⟨hl, h⟩
theorem go_qlst (hl : xs.length ≤ sizeLine) (h : ∀ p, H p = none → Q (.ref p) (upd H p (.lst xs))) : qLst xs H Q := ⟨hl, h⟩
theorem go_cons {QA : List V → Hp → Prop} (h : ta σ H fun x H1 => tA σ H1 fun xs H2 => QA (x :: xs) H2) : tCons ta tA σ H QA := h
theorem go_nil {QA : List V → Hp → Prop} (h : QA [] H) : tNil σ H QA := h
theorem go_callC {sp : Sp} (h : tA σ H fun vs H1 => sp vs H1 Q E0) : tCallC sp tA σ H Q := h
theorem go_cb {rr : List V → Hp → VK → Prop} (h : tA σ H fun vs H1 => rr vs H1 Q) : tCB rr tA σ H Q := h
theorem go_un {rr : V → Hp → VK → Prop} (h : ta σ H fun x H1 => rr x H1 Q) : tUn rr ta σ H Q := h
theorem go_u {g : Int → V} (h : Q (g n) H) : rU g (.int n) H Q := ⟨n, rfl, h⟩
theorem go_ixL (h : H p = some (.lst xs)) (e : atI xs n = some v) (q : Q v H) : rIxL K (.ref p) (.int n) H Q := ⟨p, xs, n, v, rfl, rfl, SqL.of h, e, q⟩
theorem go_ixLs (h : SqL K H p xs) (e : atI xs n = some v) (q : Q v H) : rIxL K (.ref p) (.int n) H Q := ⟨p, xs, n, v, rfl, rfl, h, e, q⟩
theorem go_ixT (h : H p = some (.tup xs)) (e : atI xs n = some v) (q : Q v H) : rIxT K (.ref p) (.int n) H Q := ⟨p, xs, n, v, rfl, rfl, SqT.of h, e, q⟩
end
def rLen (K : PySem.W.Frag) : List V → Hp → VK → Prop := fun xs H Q => ∃ p ys, xs = [.ref p] ∧ (SqL K H p ys ∨ SqT K H p ys) ∧ Q (.int ys.length) H
def rInt1 : List V → Hp → VK → Prop := fun xs H Q => (∃ i, xs = [.int i] ∧ Q (.int i) H) ∨ ∃ k, xs = [.bl k] ∧ Q (.int (if k then 1 else 0)) H
def rMin2 : List V → Hp → VK → Prop := fun xs H Q => ∃ i j, xs = [.int i, .int j] ∧ Q (.int (min i j)) H
def rMax2 : List V → Hp → VK → Prop := fun xs H Q => ∃ i j, xs = [.int i, .int j] ∧ Q (.int (max i j)) H
def rIsinst (K : PySem.W.Frag) : List V → Hp → VK → Prop := fun xs H Q => ∃ x T t b, xs = [x, .ty T] ∧ TyOf K H x t ∧ PySem.W.kitOne K t (.type T) = some b ∧ Q (.bl b) H
section
variable {X : Cx}
theorem c_len : CallR X (.builtin "len") (rLen X.K) := call_len_seq
theorem c_int : CallR X (.type "int") rInt1 := call_int1
theorem c_min (hc : X.calm = true) : CallR X (.builtin "min") rMin2 := by
  intro pins s σ H xs us Q I r h
  obtain ⟨i, j, rfl, q⟩ := h
  refine call_min2 hc pins s σ H _ us Q I r ⟨i, j, rfl, ?_⟩
  have e : (if j < i then j else i) = min i j := by rw [Int.min_def]; split <;> split <;> omega
  rw [e]; exact q
theorem c_max (hc : X.calm = true) : CallR X (.builtin "max") rMax2 := by
  intro pins s σ H xs us Q I r h
  obtain ⟨i, j, rfl, q⟩ := h
  refine call_max2 hc pins s σ H _ us Q I r ⟨i, j, rfl, ?_⟩
  have e : (if j > i then j else i) = max i j := by rw [Int.max_def]; split <;> split <;> omega
  rw [e]; exact q
theorem c_isinst : CallR X (.builtin "isinstance") (rIsinst X.K) := by
  intro pins s σ H xs us Q I r h
  obtain ⟨x, T, t, b, rfl, ty, e, q⟩ := h
  obtain ⟨u, v, rfl, ru, rv⟩ := r.two
  cases (show v = Value.type T from rv)
  exact isinst_ok I ru ty e fun tk => ⟨.bl b, H, I.tok _, rfl, q⟩
end
section
variable {H : Hp} {Q : VK} {K : PySem.W.Frag} {p : Addr} {xs ys : List V} {n m : Int} {b : Bool} {x : V} {T : String} {t : Value}
theorem go_lenL (h : H p = some (.lst ys)) (q : Q (.int ys.length) H) : rLen K [.ref p] H Q := ⟨p, ys, rfl, .inl (SqL.of h), q⟩
theorem go_lenT (h : H p = some (.tup ys)) (q : Q (.int ys.length) H) : rLen K [.ref p] H Q := ⟨p, ys, rfl, .inr (SqT.of h), q⟩
theorem go_lenLs (h : SqL K H p ys) (q : Q (.int ys.length) H) : rLen K [.ref p] H Q := ⟨p, ys, rfl, .inl h, q⟩
theorem go_int (q : Q (.int n) H) : rInt1 [.int n] H Q := .inl ⟨n, rfl, q⟩
theorem go_intB (q : Q (.int (if b then 1 else 0)) H) : rInt1 [.bl b] H Q := .inr ⟨b, rfl, q⟩
theorem go_min (q : Q (.int (min n m)) H) : rMin2 [.int n, .int m] H Q := ⟨n, m, rfl, q⟩
theorem go_max (q : Q (.int (max n m)) H) : rMax2 [.int n, .int m] H Q := ⟨n, m, rfl, q⟩
theorem go_isinst (ty : TyOf K H x t) (e : PySem.W.kitOne K t (.type T) = some b) (q : Q (.bl b) H) : rIsinst K [x, .ty T] H Q := ⟨x, T, t, b, rfl, ty, e, q⟩
end
def kitC (t T : String) : Option Bool := if ((Value.type t) == (Value.type T)) = true then some true else if PySem.W.kitMeta T = true then (fastBuiltinMro t).map (·.contains (.type T)) else none
theorem kit_c (K : PySem.W.Frag) (t T : String) : PySem.W.kitOne K (.type t) (.type T) = kitC t T := rfl
section
variable {H : Hp} {Q : VK} {K : PySem.W.Frag} {p : Addr} {xs : List V} {n : Int} {b : Bool} {x : Str}
theorem kc_non_int : kitC "NoneType" "int" = some false := by decide +kernel
theorem go_is_non_int (q : Q (.bl false) H) : rIsinst K [.non, .ty "int"] H Q := go_isinst (.non) ((kit_c K "NoneType" "int").trans kc_non_int) q
theorem kc_non_bool : kitC "NoneType" "bool" = some false := by decide +kernel
theorem go_is_non_bool (q : Q (.bl false) H) : rIsinst K [.non, .ty "bool"] H Q := go_isinst (.non) ((kit_c K "NoneType" "bool").trans kc_non_bool) q
theorem kc_non_str : kitC "NoneType" "str" = some false := by decide +kernel
theorem go_is_non_str (q : Q (.bl false) H) : rIsinst K [.non, .ty "str"] H Q := go_isinst (.non) ((kit_c K "NoneType" "str").trans kc_non_str) q
theorem kc_non_tuple : kitC "NoneType" "tuple" = some false := by decide +kernel
theorem go_is_non_tuple (q : Q (.bl false) H) : rIsinst K [.non, .ty "tuple"] H Q := go_isinst (.non) ((kit_c K "NoneType" "tuple").trans kc_non_tuple) q
theorem kc_non_list : kitC "NoneType" "list" = some false := by decide +kernel
theorem go_is_non_list (q : Q (.bl false) H) : rIsinst K [.non, .ty "list"] H Q := go_isinst (.non) ((kit_c K "NoneType" "list").trans kc_non_list) q
theorem kc_bl_int : kitC "bool" "int" = some true := by decide +kernel
theorem go_is_bl_int (q : Q (.bl true) H) : rIsinst K [.bl b, .ty "int"] H Q := go_isinst (.bl b) ((kit_c K "bool" "int").trans kc_bl_int) q
theorem kc_bl_bool : kitC "bool" "bool" = some true := by decide +kernel
theorem go_is_bl_bool (q : Q (.bl true) H) : rIsinst K [.bl b, .ty "bool"] H Q := go_isinst (.bl b) ((kit_c K "bool" "bool").trans kc_bl_bool) q
theorem kc_bl_str : kitC "bool" "str" = some false := by decide +kernel
theorem go_is_bl_str (q : Q (.bl false) H) : rIsinst K [.bl b, .ty "str"] H Q := go_isinst (.bl b) ((kit_c K "bool" "str").trans kc_bl_str) q
theorem kc_bl_tuple : kitC "bool" "tuple" = some false := by decide +kernel
theorem go_is_bl_tuple (q : Q (.bl false) H) : rIsinst K [.bl b, .ty "tuple"] H Q := go_isinst (.bl b) ((kit_c K "bool" "tuple").trans kc_bl_tuple) q
theorem kc_bl_list : kitC "bool" "list" = some false := by decide +kernel
theorem go_is_bl_list (q : Q (.bl false) H) : rIsinst K [.bl b, .ty "list"] H Q := go_isinst (.bl b) ((kit_c K "bool" "list").trans kc_bl_list) q
theorem kc_int_int : kitC "int" "int" = some true := by decide +kernel
theorem go_is_int_int (q : Q (.bl true) H) : rIsinst K [.int n, .ty "int"] H Q := go_isinst (.int n) ((kit_c K "int" "int").trans kc_int_int) q
theorem kc_int_bool : kitC "int" "bool" = some false := by decide +kernel
theorem go_is_int_bool (q : Q (.bl false) H) : rIsinst K [.int n, .ty "bool"] H Q := go_isinst (.int n) ((kit_c K "int" "bool").trans kc_int_bool) q
theorem kc_int_str : kitC "int" "str" = some false := by decide +kernel
theorem go_is_int_str (q : Q (.bl false) H) : rIsinst K [.int n, .ty "str"] H Q := go_isinst (.int n) ((kit_c K "int" "str").trans kc_int_str) q
theorem kc_int_tuple : kitC "int" "tuple" = some false := by decide +kernel
theorem go_is_int_tuple (q : Q (.bl false) H) : rIsinst K [.int n, .ty "tuple"] H Q := go_isinst (.int n) ((kit_c K "int" "tuple").trans kc_int_tuple) q
theorem kc_int_list : kitC "int" "list" = some false := by decide +kernel
theorem go_is_int_list (q : Q (.bl false) H) : rIsinst K [.int n, .ty "list"] H Q := go_isinst (.int n) ((kit_c K "int" "list").trans kc_int_list) q
theorem kc_str_int : kitC "str" "int" = some false := by decide +kernel
theorem go_is_str_int (q : Q (.bl false) H) : rIsinst K [.str x, .ty "int"] H Q := go_isinst (.str x) ((kit_c K "str" "int").trans kc_str_int) q
theorem kc_str_bool : kitC "str" "bool" = some false := by decide +kernel
theorem go_is_str_bool (q : Q (.bl false) H) : rIsinst K [.str x, .ty "bool"] H Q := go_isinst (.str x) ((kit_c K "str" "bool").trans kc_str_bool) q
theorem kc_str_str : kitC "str" "str" = some true := by decide +kernel
theorem go_is_str_str (q : Q (.bl true) H) : rIsinst K [.str x, .ty "str"] H Q := go_isinst (.str x) ((kit_c K "str" "str").trans kc_str_str) q
theorem kc_str_tuple : kitC "str" "tuple" = some false := by decide +kernel
theorem go_is_str_tuple (q : Q (.bl false) H) : rIsinst K [.str x, .ty "tuple"] H Q := go_isinst (.str x) ((kit_c K "str" "tuple").trans kc_str_tuple) q
theorem kc_str_list : kitC "str" "list" = some false := by decide +kernel
theorem go_is_str_list (q : Q (.bl false) H) : rIsinst K [.str x, .ty "list"] H Q := go_isinst (.str x) ((kit_c K "str" "list").trans kc_str_list) q
theorem kc_lst_int : kitC "list" "int" = some false := by decide +kernel
theorem go_is_lst_int (h : H p = some (.lst xs)) (q : Q (.bl false) H) : rIsinst K [.ref p, .ty "int"] H Q := go_isinst (.lst h) ((kit_c K "list" "int").trans kc_lst_int) q
theorem kc_lst_bool : kitC "list" "bool" = some false := by decide +kernel
theorem go_is_lst_bool (h : H p = some (.lst xs)) (q : Q (.bl false) H) : rIsinst K [.ref p, .ty "bool"] H Q := go_isinst (.lst h) ((kit_c K "list" "bool").trans kc_lst_bool) q
theorem kc_lst_str : kitC "list" "str" = some false := by decide +kernel
theorem go_is_lst_str (h : H p = some (.lst xs)) (q : Q (.bl false) H) : rIsinst K [.ref p, .ty "str"] H Q := go_isinst (.lst h) ((kit_c K "list" "str").trans kc_lst_str) q
theorem kc_lst_tuple : kitC "list" "tuple" = some false := by decide +kernel
theorem go_is_lst_tuple (h : H p = some (.lst xs)) (q : Q (.bl false) H) : rIsinst K [.ref p, .ty "tuple"] H Q := go_isinst (.lst h) ((kit_c K "list" "tuple").trans kc_lst_tuple) q
theorem kc_lst_list : kitC "list" "list" = some true := by decide +kernel
theorem go_is_lst_list (h : H p = some (.lst xs)) (q : Q (.bl true) H) : rIsinst K [.ref p, .ty "list"] H Q := go_isinst (.lst h) ((kit_c K "list" "list").trans kc_lst_list) q
theorem kc_tup_int : kitC "tuple" "int" = some false := by decide +kernel
theorem go_is_tup_int (h : H p = some (.tup xs)) (q : Q (.bl false) H) : rIsinst K [.ref p, .ty "int"] H Q := go_isinst (.tup h) ((kit_c K "tuple" "int").trans kc_tup_int) q
theorem kc_tup_bool : kitC "tuple" "bool" = some false := by decide +kernel
theorem go_is_tup_bool (h : H p = some (.tup xs)) (q : Q (.bl false) H) : rIsinst K [.ref p, .ty "bool"] H Q := go_isinst (.tup h) ((kit_c K "tuple" "bool").trans kc_tup_bool) q
theorem kc_tup_str : kitC "tuple" "str" = some false := by decide +kernel
theorem go_is_tup_str (h : H p = some (.tup xs)) (q : Q (.bl false) H) : rIsinst K [.ref p, .ty "str"] H Q := go_isinst (.tup h) ((kit_c K "tuple" "str").trans kc_tup_str) q
theorem kc_tup_tuple : kitC "tuple" "tuple" = some true := by decide +kernel
theorem go_is_tup_tuple (h : H p = some (.tup xs)) (q : Q (.bl true) H) : rIsinst K [.ref p, .ty "tuple"] H Q := go_isinst (.tup h) ((kit_c K "tuple" "tuple").trans kc_tup_tuple) q
theorem kc_tup_list : kitC "tuple" "list" = some false := by decide +kernel
theorem go_is_tup_list (h : H p = some (.tup xs)) (q : Q (.bl false) H) : rIsinst K [.ref p, .ty "list"] H Q := go_isinst (.tup h) ((kit_c K "tuple" "list").trans kc_tup_list) q
end
def rIsN : R2 := fun x y H Q => y = .non ∧ Q (.bl (decide (x = .non))) H
def rNotN : R2 := fun x y H Q => y = .non ∧ Q (.bl (!decide (x = .non))) H
theorem o_isN {X : Cx} : OpR X (compareOp .Is) rIsN := op_isN
section
variable {H : Hp} {Q : VK} {p : Addr} {n m : Int} {b b' : Bool} {x y : Str} {v : V}
theorem go_isN_non (q : Q (.bl true) H) : rIsN .non .non H Q := ⟨rfl, q⟩
theorem go_isN_int (q : Q (.bl false) H) : rIsN (.int n) .non H Q := ⟨rfl, q⟩
theorem go_isN_str (q : Q (.bl false) H) : rIsN (.str x) .non H Q := ⟨rfl, q⟩
theorem go_isN_bl (q : Q (.bl false) H) : rIsN (.bl b) .non H Q := ⟨rfl, q⟩
theorem go_isN_ref (q : Q (.bl false) H) : rIsN (.ref p) .non H Q := ⟨rfl, q⟩
theorem go_notN_non (q : Q (.bl false) H) : rNotN .non .non H Q := ⟨rfl, q⟩
theorem go_notN_int (q : Q (.bl true) H) : rNotN (.int n) .non H Q := ⟨rfl, q⟩
theorem go_notN_str (q : Q (.bl true) H) : rNotN (.str x) .non H Q := ⟨rfl, q⟩
theorem go_notN_bl (q : Q (.bl true) H) : rNotN (.bl b) .non H Q := ⟨rfl, q⟩
theorem go_notN_ref (q : Q (.bl true) H) : rNotN (.ref p) .non H Q := ⟨rfl, q⟩
theorem dcI : decide (V.int n = V.int m) = decide (n = m) := by by_cases h : n = m <;> simp [h]
theorem dcS : decide (V.str x = V.str y) = decide (x = y) := by by_cases h : x = y <;> simp [h]
theorem dcB : decide (V.bl b = V.bl b') = decide (b = b') := by by_cases h : b = b' <;> simp [h]
theorem go_eqI (q : Q (.bl (decide (n = m))) H) : rEq (.int n) (.int m) H Q := ⟨rfl, by rw [dcI]; exact q⟩
theorem go_eqS (q : Q (.bl (decide (x = y))) H) : rEq (.str x) (.str y) H Q := ⟨rfl, by rw [dcS]; exact q⟩
theorem go_eqB (q : Q (.bl (decide (b = b'))) H) : rEq (.bl b) (.bl b') H Q := ⟨rfl, by rw [dcB]; exact q⟩
theorem go_neI (q : Q (.bl (!decide (n = m))) H) : rNe (.int n) (.int m) H Q := ⟨rfl, by rw [dcI]; exact q⟩
theorem go_neS (q : Q (.bl (!decide (x = y))) H) : rNe (.str x) (.str y) H Q := ⟨rfl, by rw [dcS]; exact q⟩
theorem go_neB (q : Q (.bl (!decide (b = b'))) H) : rNe (.bl b) (.bl b') H Q := ⟨rfl, by rw [dcB]; exact q⟩
end
section
variable {A B c : Prop} {b : Bool}
theorem go_iteNT [Decidable c] (hc : c) (h : B) : if (!decide c) = true then A else B := iteNS hc h
theorem go_iteNF [Decidable c] (hc : ¬ c) (h : A) : if (!decide c) = true then A else B := by rw [if_pos (by simp [hc])]; exact h
theorem go_iteDT [Decidable c] (hc : c) (h : A) : if decide c = true then A else B := by rw [if_pos (by simp [hc])]; exact h
theorem go_iteDF [Decidable c] (hc : ¬ c) (h : B) : if decide c = true then A else B := by rw [if_neg (by simp [hc])]; exact h
theorem go_iteNt (h : B) : if (!true) = true then A else B := iteF h
theorem go_iteNf (h : A) : if (!false) = true then A else B := iteT h
theorem go_iteNN {c : Bool} (h : if c = true then A else B) : if (!(!c)) = true then A else B := by rw [Bool.not_not]; exact h
theorem go_iteBT (e : b = true) (h : A) : if b = true then A else B := by rw [if_pos e]; exact h
theorem go_iteBF (e : b = false) (h : B) : if b = true then A else B := by rw [e]; exact iteF h
end
section
variable {H : Hp} {Q : VK} {K : PySem.W.Frag} {p : Addr} {xs : List V} {n : Int} {v : V}
theorem go_ixAL (h : H p = some (.lst xs)) (e : atI xs n = some v) (q : Q v H) : rIx K (.ref p) (.int n) H Q := .inl (go_ixL h e q)
theorem go_ixAT (h : H p = some (.tup xs)) (e : atI xs n = some v) (q : Q v H) : rIx K (.ref p) (.int n) H Q := .inr (.inl (go_ixT h e q))
theorem atI_0n {xs : List V} {i : Nat} {v : V} (h : xs[i]? = some v) : atI xs (0 + (i : Int)) = some v := by
  rw [Int.zero_add]; exact atI_nat h
end
section
variable {σ : St} {H : Hp} {Q : VK} {nx : St → Hp → Prop} {K : PySem.W.Frag} {p p' : Addr} {xs ys : List V} {n : Nat} {v x : V} {t : TG} {u : TGs} {te : TE} {tl th : TO} {b : Bool} {r : V → Option Int → Option Int → Hp → VK → Prop} {lo hi : Option Int} {QO : Option Int → Hp → Prop} {i : Int} {rt : VK} {bk ct : St → Hp → Prop} {tA : TA}
theorem go_gtup (h : H p = some (.tup xs)) (e : xs.length = n) (q : u xs σ H nx) : gTup K n u (.ref p) σ H nx := ⟨p, xs, rfl, SqT.of h, e, q⟩
theorem go_gcons (q : t v σ H fun σ' H' => u xs σ' H' nx) : gCons t u (v :: xs) σ H nx := ⟨v, xs, rfl, q⟩
theorem go_gnil (q : nx σ H) : gNil [] σ H nx := ⟨rfl, q⟩
theorem go_sl (h : te σ H fun x H1 => tl σ H1 fun l H2 => th σ H2 fun u H3 => r x l u H3 Q) : tSl r te tl th σ H Q := h
theorem go_nopart (h : QO none H) : tNoPart σ H QO := h
theorem go_part (h : te σ H fun x H1 => qI x H1 QO) : tPart te σ H QO := h
theorem go_qI (h : QO (some i) H) : qI (.int i) H QO := ⟨i, rfl, h⟩
theorem go_cat (h : H p = some (.lst xs)) (h' : H p' = some (.lst ys)) (l : xs.length + ys.length ≤ sizeLine) (q : ∀ a, H a = none → Q (.ref a) (upd H a (.lst (xs ++ ys)))) : rCat (.ref p) (.ref p') H Q := ⟨p, p', xs, ys, rfl, rfl, h, h', l, q⟩
theorem go_inT (h : H p = some (.tup xs)) (fx : flatV x = true) (fs : xs.all flatV = true) (q : Q (.bl (inV x xs)) H) : rIn K false x (.ref p) H Q := ⟨p, xs, rfl, .inr (SqT.of h), fx, fs, q⟩
theorem go_notInT (h : H p = some (.tup xs)) (fx : flatV x = true) (fs : xs.all flatV = true) (q : Q (.bl (!inV x xs)) H) : rIn K true x (.ref p) H Q := ⟨p, xs, rfl, .inr (SqT.of h), fx, fs, q⟩
end
section
variable {X : Cx} (K : PySem.W.Frag)
theorem kIxL (e : X.K = K := by rfl) : IxR X (rIxL K) := e ▸ ix_list
theorem kIxT (e : X.K = K := by rfl) : IxR X (rIxT K) := e ▸ ix_tup
theorem kIx (e : X.K = K := by rfl) : IxR X (rIx K) := e ▸ ix_seq
theorem kSlL (e : X.K = K := by rfl) : SlR X (rSlL K) := e ▸ sl_list
theorem kIn (e : X.K = K := by rfl) : OpR X (compareOp .In) (rIn K false) := e ▸ op_in_seq
theorem kLen (e : X.K = K := by rfl) : CallR X (.builtin "len") (rLen K) := e ▸ c_len
theorem kIsinst (e : X.K = K := by rfl) : CallR X (.builtin "isinstance") (rIsinst K) := e ▸ c_isinst
theorem kPiL {tg l : Expr} {tl : TE} (hl : PE X l tl) (e : X.K = K := by rfl) : PI X tg l (iList K tl) := e ▸ pi_list hl
theorem kPgT {es : List Expr} {k : Nat} {t : TGs} {n : Nat} {pos : Pos} (hc : X.calm = true) (h : PGs X es t)
    (hn : (assignEach es X.env).length = n := by rfl) (hst : (assignEach es X.env).findIdx? (·.1) = none := by rfl) (e : X.K = K := by rfl) : PG X (.Tuple es k pos) (gTup K n t) := e ▸ pg_tup hc h hn hst
end
def qBM (K : PySem.W.Frag) (T : String) (r : V → List V → Hp → VK → Prop) (t : TA) (x : V) (σ : St) (H1 : Hp) (Q : VK) : Prop := tyV K T x H1 ∧ t σ H1 fun xs H2 => r x xs H2 Q
def qBM0 (K : PySem.W.Frag) (T : String) (r : V → List V → Hp → VK → Prop) (x : V) (H1 : Hp) (Q : VK) : Prop := tyV K T x H1 ∧ r x [] H1 Q
section
variable {σ : St} {H : Hp} {Q : VK} {K : PySem.W.Frag} {p : Addr} {xs ys : List V} {y : V} {to : TE} {t : TA} {T : String} {r : V → List V → Hp → VK → Prop}
theorem go_bm (h : to σ H fun x H1 => qBM K T r t x σ H1 Q) : tBM K T r to t σ H Q := h
theorem go_bm0 (h : to σ H fun x H1 => qBM0 K T r x H1 Q) : tBM0 K T r to σ H Q := h
theorem go_qbm (h : H p = some (.lst xs)) (q : t σ H fun vs H2 => r (.ref p) vs H2 Q) : qBM K "list" r t (.ref p) σ H Q := ⟨.inl ⟨rfl, _, SqL.of h⟩, q⟩
theorem go_qbm0 (h : H p = some (.lst xs)) (q : r (.ref p) [] H Q) : qBM0 K "list" r (.ref p) H Q := ⟨.inl ⟨rfl, _, SqL.of h⟩, q⟩
theorem go_append (h : H p = some (.lst xs)) (l : xs.length < sizeLine) (q : Q .non (upd H p (.lst (xs ++ [y])))) : rAppend (.ref p) [y] H Q := ⟨p, xs, y, rfl, rfl, h, l, q⟩
end
def qDG (x y : V) (H2 : Hp) (Q : VK) : Prop := ∃ a v, x = .ref a ∧ DGet H2 a y (some v) ∧ Q v H2
def qDP (x y v : V) (H3 : Hp) (Q : Hp → Prop) : Prop := ∃ a H4, x = .ref a ∧ DPut H3 a y v H4 ∧ Q H4
def rSetD : TSet := fun o i v H Q => qDP o i v H Q
section
variable {X : Cx} {pins : List (Addr × Obj)} {σ : St} {H : Hp} {s : Shared} {a b : Addr} {kvs more : List (Key × V)} {A : Around} {E : Value → Shared → Prop}
end
section
variable {σ : St} {H : Hp} {Q : VK} {nx : St → Hp → Prop} {rt : VK} {bk ct : St → Hp → Prop} {td ty tv : TE} {p p' : Addr} {kvs kvs' more : List (Key × V)} {k : Str} {v x y : V} {QH : Hp → Prop} {trs : List (TE × TE)} {ps : List (V × V)} {QP : List (V × V) → Hp → Prop} {K : PySem.W.Frag} {t : TA} {r : V → List V → Hp → VK → Prop}
theorem go_dget (h : td σ H fun x H1 => ty σ H1 fun y H2 => qDG x y H2 Q) : tDGet td ty σ H Q := h
theorem go_dput (h : tv σ H fun v H1 => td σ H1 fun x H2 => ty σ H2 fun y H3 => qDP x y v H3 (nx σ)) : sDPut td ty tv ⟨nx, rt, bk, ct⟩ σ H := h
theorem go_setD (h : qDP x y v H QH) : rSetD x y v H QH := h
theorem go_pnil (h : QP [] H) : tPairs [] σ H QP := h
theorem go_pcons (h : td σ H fun x H1 => tv σ H1 fun y H2 => tPairs trs σ H2 fun ps H3 => QP ((x, y) :: ps) H3) : tPairs ((td, tv) :: trs) σ H QP := h
end
section
variable {prog : Program} {w : World} {A : Around} {E : Value → Shared → Prop}
end
def gLst (n : Nat) (t : TGs) : TG := fun v σ H Q => ∃ a xs, v = .ref a ∧ H a = some (.lst xs) ∧ xs.length = n ∧ t xs σ H Q
theorem go_glst {σ : St} {H : Hp} {nx : St → Hp → Prop} {p : Addr} {xs : List V} {n : Nat} {u : TGs} (h : H p = some (.lst xs)) (e : xs.length = n) (q : u xs σ H nx) : gLst n u (.ref p) σ H nx := ⟨p, xs, rfl, h, e, q⟩
def forQ (J : It) (g : TG) (tb : TS) (D : Ends) (σ : St) (H1 : Hp) : Prop := ∃ W : Nat → Nat → St → Hp → Prop, (∃ m, W 0 m σ H1) ∧ ∀ i m σ H, W i m σ H →
  (J.stop i H ∧ D.nx σ H) ∨ (J.go i H ∧ ∃ N : St → Hp → Prop, (∀ σ' H', N σ' H' → ∃ m', m' < m ∧ W (i + 1) m' σ' H') ∧ ∀ x H', J.yld i H x H' → g x σ H' fun σ2 H2 => tb { D with nx := N, ct := N, bk := D.nx } σ2 H2)
def qRng1 (vs : List V) (H1 : Hp) (R : It → Hp → Prop) : Prop := ∃ j : Int, vs = [.int j] ∧ -(2 ^ 62) ≤ j ∧ j < 2 ^ 62 ∧ R (Itr 0 j.toNat) H1
def qItL (K : PySem.W.Frag) (x : V) (H1 : Hp) (R : It → Hp → Prop) : Prop := ∃ a, x = .ref a ∧ (∃ xs, SqL K H1 a xs) ∧ R (Itl K a) H1
def qItT (K : PySem.W.Frag) (x : V) (H1 : Hp) (R : It → Hp → Prop) : Prop := ∃ a, x = .ref a ∧ (∃ xs, SqT K H1 a xs) ∧ R (Itt K a) H1
def whQ (Pv : St → Hp → Prop) (μ : St → Hp → Nat) (m : Nat) (tb : TS) (D : Ends) (σ : St) (b : Bool) (H1 : Hp) : Prop :=
  if b = true then ∃ N : St → Hp → Prop, (∀ σ' H', N σ' H' → ∃ m', m' < m ∧ (m' = μ σ' H' ∧ Pv σ' H')) ∧ tb { D with nx := N, ct := N, bk := D.nx } σ H1 else D.nx σ H1
def lcA (D : Addr) (y : V) (H4 : Hp) (N : Hp → Prop) : Prop := ∃ acc, H4 D = some (.lst acc) ∧ acc.length < sizeLine ∧ N (upd H4 D (.lst (acc ++ [y])))
def lcQ (J : It) (g : TG) (tt : TT) (te : TE) (vs : List Nat) (σ : St) (H1 : Hp) (Q : VK) : Prop := ∀ D, H1 D = none → ∃ W : Nat → Nat → Hp → Prop, (∃ m, W 0 m (upd H1 D (.lst []))) ∧ ∀ i m H, W i m H →
  (J.stop i H ∧ Q (.ref D) H) ∨ (J.go i H ∧ ∃ Nx : Hp → Prop, (∀ H', Nx H' → ∃ m', m' < m ∧ W (i + 1) m' H') ∧ ∀ x H', J.yld i H x H' → g x (wipe σ vs) H' fun σ2 H2 => wipe σ2 vs = wipe σ vs ∧ tt σ2 H2 fun b H3 =>
    if b = true then te σ2 H3 fun y H4 => lcA D y H4 Nx else Nx H3)
section
variable {σ : St} {H : Hp} {Q : VK} {nx : St → Hp → Prop} {rt : VK} {bk ct : St → Hp → Prop} {tb : TS} {c tt : TT} {te : TE} {tA : TA} {g : TG} {wi : TI} {R : It → Hp → Prop} {K : PySem.W.Frag} {p : Addr} {xs : List V} {n : Nat} {j lo : Int} {b : Bool} {vs : List Nat} {x : V}
theorem go_for (h : wi σ H fun J H1 => forQ J g tb ⟨nx, rt, bk, ct⟩ σ H1) : tFor wi g tb ⟨nx, rt, bk, ct⟩ σ H := h
theorem go_rng1 (h : tA σ H fun vs H1 => qRng1 vs H1 R) : iRng1 tA σ H R := h
theorem go_qrng1 (h1 : -(2 ^ 62) ≤ j) (h2 : j < 2 ^ 62) (h : R (Itr 0 j.toNat) H) : qRng1 [.int j] H R := ⟨j, rfl, h1, h2, h⟩
theorem go_iL (h : te σ H fun x H1 => qItL K x H1 R) : iList K te σ H R := h
theorem go_iT (h : te σ H fun x H1 => qItT K x H1 R) : iTup K te σ H R := h
theorem go_qiL (h : H p = some (.lst xs)) (q : R (Itl K p) H) : qItL K (.ref p) H R := ⟨p, rfl, ⟨xs, SqL.of h⟩, q⟩
theorem go_qiLs (h : SqL K H p xs) (q : R (Itl K p) H) : qItL K (.ref p) H R := ⟨p, rfl, ⟨xs, h⟩, q⟩
theorem go_qiT (h : H p = some (.tup xs)) (q : R (Itt K p) H) : qItT K (.ref p) H R := ⟨p, rfl, ⟨xs, SqT.of h⟩, q⟩
theorem fq_range (Pv : Nat → St → Hp → Prop) (h0 : Pv 0 σ H) (hs : ∀ (i : Nat) (σ : St) (H : Hp), i < n → Pv i σ H → g (.int (lo + i)) σ H fun σ2 H2 => tb ⟨Pv (i + 1), rt, nx, Pv (i + 1)⟩ σ2 H2) (hd : ∀ σ H, Pv n σ H → nx σ H) :
    forQ (Itr lo n) g tb ⟨nx, rt, bk, ct⟩ σ H := for_range (D := ⟨nx, rt, bk, ct⟩) Pv h0 hs hd
theorem fq_list (xs : List V) (Pv : Nat → St → Hp → Prop) (h0 : Pv 0 σ H) (hl : ∀ (i : Nat) (σ : St) (H : Hp), i ≤ xs.length → Pv i σ H → SqL K H p xs) (hs : ∀ (i : Nat) (x : V) (σ : St) (H : Hp), xs[i]? = some x → Pv i σ H → g x σ H fun σ2 H2 => tb ⟨Pv (i + 1), rt, nx, Pv (i + 1)⟩ σ2 H2) (hd : ∀ σ H, Pv xs.length σ H → nx σ H) :
    forQ (Itl K p) g tb ⟨nx, rt, bk, ct⟩ σ H := for_list (D := ⟨nx, rt, bk, ct⟩) Pv h0 hl hs hd
theorem go_whQ {Pv : St → Hp → Prop} {μ : St → Hp → Nat} {m : Nat} (h : if b = true then tb ⟨fun σ' H' => Pv σ' H' ∧ μ σ' H' < m, rt, nx, fun σ' H' => Pv σ' H' ∧ μ σ' H' < m⟩ σ H else nx σ H) : whQ Pv μ m tb ⟨nx, rt, bk, ct⟩ σ b H := by
  unfold whQ
  cases b with
  | true =>
    rw [if_pos rfl] at h ⊢
    exact ⟨_, fun σ' H' (z : Pv σ' H' ∧ μ σ' H' < m) => ⟨_, z.2, rfl, z.1⟩, h⟩
  | false =>
    rw [if_neg Bool.false_ne_true] at h ⊢
    exact h
theorem go_lc (h : wi σ H fun J H1 => lcQ J g tt te vs σ H1 Q) : tLc wi g tt te vs σ H Q := h
theorem go_yes {QB : Bool → Hp → Prop} (h : QB true H) : tYes σ H QB := h
theorem go_lcA {D : Addr} {acc : List V} {y : V} {N : Hp → Prop} (h : H D = some (.lst acc)) (l : acc.length < sizeLine) (q : N (upd H D (.lst (acc ++ [y])))) : lcA D y H N := ⟨acc, h, l, q⟩
theorem lq_range (h : ∀ D, H D = none → ∃ Pv : Nat → Hp → Prop, Pv 0 (upd H D (.lst [])) ∧ (∀ (i : Nat) (H : Hp), i < n → Pv i H → g (.int (lo + i)) (wipe σ vs) H fun σ2 H2 => wipe σ2 vs = wipe σ vs ∧ tt σ2 H2 fun b H3 =>
      if b = true then te σ2 H3 fun y H4 => lcA D y H4 (Pv (i + 1)) else Pv (i + 1) H3) ∧ ∀ H, Pv n H → Q (.ref D) H) : lcQ (Itr lo n) g tt te vs σ H Q := fun D hD => by
  obtain ⟨Pv, h0, hs, hd⟩ := h D hD
  exact lc_range (Qd := Q (.ref D)) Pv h0 hs hd
theorem lq_list (xs : List V) (h : ∀ D, H D = none → ∃ Pv : Nat → Hp → Prop, Pv 0 (upd H D (.lst [])) ∧ (∀ (i : Nat) (H : Hp), i ≤ xs.length → Pv i H → SqL K H p xs) ∧ (∀ (i : Nat) (x : V) (H : Hp), xs[i]? = some x → Pv i H → g x (wipe σ vs) H fun σ2 H2 => wipe σ2 vs = wipe σ vs ∧ tt σ2 H2 fun b H3 =>
      if b = true then te σ2 H3 fun y H4 => lcA D y H4 (Pv (i + 1)) else Pv (i + 1) H3) ∧ ∀ H, Pv xs.length H → Q (.ref D) H) : lcQ (Itl K p) g tt te vs σ H Q := fun D hD => by
  obtain ⟨Pv, h0, hl, hs, hd⟩ := h D hD
  exact lc_list (Qd := Q (.ref D)) Pv h0 hl hs hd
end
def Off (d : Addr) (H H' : Hp) : Prop := ∀ b o, H b = some o → b ≠ d → H' b = some o
theorem upd_new {H : Hp} {p a : Addr} {o u : HO} (hp : H p = none) (h : H a = some u) : upd H p o a = some u := by rw [upd_ne (ne_of_none h hp)]; exact h
theorem upd_oth {H : Hp} {p a : Addr} {o u : HO} (hp : a ≠ p) (h : H a = some u) : upd H p o a = some u := by rw [upd_ne hp]; exact h
theorem Same.get {H H' : Hp} {a : Addr} {o : HO} (s : Same H H') (h : H a = some o) : H' a = some o := s a o h
theorem Off.get {d : Addr} {H H' : Hp} {a : Addr} {o : HO} (s : Off d H H') (n : a ≠ d) (h : H a = some o) : H' a = some o := s a o h n
theorem Same.off {d : Addr} {H H' : Hp} (s : Same H H') : Off d H H' := fun b o h _ => s b o h
theorem Off.refl (d : Addr) (H : Hp) : Off d H H := fun _ _ h _ => h
theorem Off.trans {d : Addr} {H H1 H2 : Hp} (a : Off d H H1) (b : Off d H1 H2) : Off d H H2 := fun c o h n => b c o (a c o h n) n
theorem same_new {H : Hp} {p : Addr} (h : H p = none) (o : HO) : Same H (upd H p o) := fun b u q => by rw [upd_ne (ne_of_none q h)]; exact q
theorem off_upd (H : Hp) (d : Addr) (o : HO) : Off d H (upd H d o) := fun b u q n => by rw [upd_ne n]; exact q
end L2
set_option Elab.async false
set_option linter.all false
set_option maxRecDepth 100000
namespace L2
open PySem PySem.Spec PyProof.Rows
section
open PySem.SeqAt
open PySem.AutoSeq1 (wpAny_loadPart')
open PySem.MeetsSeq PySem.MeetsSeq2 PySem.MeetsSeq3
theorem ll_loop (l b : Addr) (us ws : Array Value) (c1 c2 : Nat) (d1 d2 : Option Addr) (f1 f2 : Array (Option Value)) (ns ms : List Int) (hu : IntsAre us.toList ns) (hw : IntsAre ws.toList ms) (k : Nat) :
    ∀ i : Nat, us.size + 1 - i = k → i ≤ us.size → i ≤ ws.size → Meets (Builtin.«list.__eq__.loop» ⟨[.ref l, .ref b, rawInt i, rawInt 0], []⟩) (fun _ Z s =>
      s.heap.get? l = some ⟨.type "list", d1, .seq us c1, f1⟩ ∧ s.heap.get? b = some ⟨.type "list", d2, .seq ws c2, f2⟩ ∧ Z (.ok (.ret (.bool (HT.lexLt (ns.drop i) (ms.drop i))))) s) := by
  have zu : us.size = ns.length := by rw [← hu.length]; simp
  have zw : ws.size = ms.length := by rw [← hw.length]; simp
  induction k with
  | zero => intro i hk h1 _; omega
  | succ k ih =>
    intro i hk h1 h2 prog w A Z s h
    obtain ⟨hp, g, d, tk, os⟩ := s
    obtain ⟨hl, hb, h⟩ := h
    wp_walk using wpAny_loadPart' hl, wpAny_loadPart' hb
    by_cases e1 : i < us.size
    · have a1 : us[((i : Nat) : Int).toNat]? = some us[i] := by simp [e1]
      by_cases e2 : i < ws.size
      · have a2 : ws[((i : Nat) : Int).toNat]? = some ws[i] := by simp [e2]
        have s1 : (i : Int) + 1 = ((i + 1 : Nat) : Int) := by omega
        rw [a1, a2]
        obtain ⟨x, hx⟩ : ∃ x, ns[i]? = some x := ⟨_, List.getElem?_eq_getElem (by omega)⟩
        obtain ⟨y, hy⟩ : ∃ y, ms[i]? = some y := ⟨_, List.getElem?_eq_getElem (by omega)⟩
        have n1 : ns.drop i = x :: ns.drop (i + 1) := by rw [List.drop_eq_getElem_cons (by omega)]; congr 1; exact Option.some.inj ((List.getElem?_eq_getElem _).symm.trans hx)
        have m1 : ms.drop i = y :: ms.drop (i + 1) := by rw [List.drop_eq_getElem_cons (by omega)]; congr 1; exact Option.some.inj ((List.getElem?_eq_getElem _).symm.trans hy)
        rw [n1, m1, HT.lexLt_cons] at h
        obtain ⟨t, ht⟩ : ∃ t, us[i] = .int x t := by
          obtain ⟨z, t, q1, q2⟩ := hu.at i us[i] (by rw [Array.getElem?_toList, Array.getElem?_eq_getElem e1])
          rw [q2] at hx
          exact ⟨t, by rw [q1, Option.some.inj hx]⟩
        obtain ⟨t', ht'⟩ : ∃ t, ws[i] = .int y t := by
          obtain ⟨z, t, q1, q2⟩ := hw.at i ws[i] (by rw [Array.getElem?_toList, Array.getElem?_eq_getElem e2])
          rw [q2] at hy
          exact ⟨t, by rw [q1, Option.some.inj hy]⟩
        rw [ht, ht']
        obtain ⟨e, he, hi⟩ := HT.eqAt_int A.in1 ⟨hp, g, d, tk, os⟩ x t y t'
        refine wpAny_bind (he prog w _ _ ?_)
        cases e with
        | true =>
          rw [if_pos (hi.mp rfl)] at h
          wp_walk
          rw [s1]
          refine ⟨plainId_quiet plain_eq_loop _, codeAny_builtin entry_eq_loop ?_⟩
          rw [Around.under_plainId plain_eq_loop _]
          exact ih (i + 1) (by omega) (by omega) (by omega) prog w A Z _ ⟨hl, hb, h⟩
        | false =>
          rw [if_neg (fun q => absurd (hi.mpr q) Bool.false_ne_true)] at h
          have hri := HT.rcLt_int A.in1 ⟨hp, g, d, tk, os⟩ x t y t' prog w
          wp_walk using wpAny_loadPart' hl, wpAny_loadPart' hb
          rw [a1, a2, ht, ht']
          wp_walk using hri
          exact h
      · have a2 : ws[((i : Nat) : Int).toNat]? = none := by simp; omega
        rw [a1, a2]
        have m1 : ms.drop i = [] := List.drop_eq_nil_of_le (by omega)
        rw [m1, show HT.lexLt (ns.drop i) [] = false by cases ns.drop i <;> rfl] at h
        wp_walk using wpAny_loadPart' hl, wpAny_loadPart' hb
        show Z (.ok (.ret (.bool (decide (us.size < ws.size))))) _
        rw [decide_eq_false (by omega)]
        exact h
    · have a1 : us[((i : Nat) : Int).toNat]? = none := by simp; omega
      rw [a1]
      have n1 : ns.drop i = [] := List.drop_eq_nil_of_le (by omega)
      rw [n1] at h
      have q : HT.lexLt [] (ms.drop i) = decide (us.size < ws.size) := by
        by_cases e2 : i < ws.size
        · rw [List.drop_eq_getElem_cons (by omega : i < ms.length), HT.lexLt_nil_cons]
          exact (decide_eq_true (by omega)).symm
        · rw [List.drop_eq_nil_of_le (by omega : ms.length ≤ i), HT.lexLt_nil_nil]
          exact (decide_eq_false (by omega)).symm
      rw [q] at h
      wp_walk using wpAny_loadPart' hl, wpAny_loadPart' hb
      exact h
theorem ll_lt (l b : Addr) (us ws : Array Value) (c1 c2 : Nat) (d1 d2 : Option Addr) (f1 f2 : Array (Option Value)) (ns ms : List Int) (hu : IntsAre us.toList ns) (hw : IntsAre ws.toList ms) :
    Meets (Builtin.«list.__lt__» ⟨[.ref l, .ref b], []⟩) (fun _ Z s =>
      s.heap.get? l = some ⟨.type "list", d1, .seq us c1, f1⟩ ∧ s.heap.get? b = some ⟨.type "list", d2, .seq ws c2, f2⟩ ∧ Z (.ok (.ret (.bool (HT.lexLt ns ms)))) s) := by
  intro prog w A Z s h
  obtain ⟨hp, g, d, tk, os⟩ := s
  obtain ⟨hl, hb, h⟩ := h
  have f3 := AutoSeq1.sub_list_list
  wp_walk using wpAny_loadPart' hl, wpAny_loadPart' hb
  refine ⟨plainId_quiet plain_eq_loop _, codeAny_builtin entry_eq_loop ?_⟩
  rw [Around.under_plainId plain_eq_loop _]
  exact ll_loop l b us ws c1 c2 d1 d2 f1 f2 ns ms hu hw _ 0 rfl (Nat.zero_le _) (Nat.zero_le _) prog w A Z _ ⟨hl, hb, h⟩
section
variable {prog : Program} {w : World} {A : Around} {E : Value → Shared → Prop} {s : Shared} {l b : Addr} {us ws : Array Value} {ns ms : List Int}
theorem rc_lists {Q : Value → Shared → Prop} (hl : s.heap.IsList l us) (hb : s.heap.IsList b ws) (hi : IntsAre us.toList ns) (hj : IntsAre ws.toList ms) (r : A.units < cLine) (q : Q (.bool (HT.lexLt ns ms)) s) :
    wpAny (model prog w) A (richCompare .Lt (.ref l) (.ref b)) Q E s := by
  obtain ⟨⟨k1, d1, x1, f1⟩, o1, e1, n1, e2⟩ := id hl
  obtain ⟨⟨k2, d2, x2, f2⟩, o2, e3, n2, e4⟩ := id hb
  simp only at e1 e2 e3 e4
  subst e1 e2 e3 e4
  refine richCompare_meets_room (op := .Lt) ⟨_, o1, rfl⟩ ⟨_, o2, rfl⟩ PySem.F.slot_list_lt PySem.F.entry_list_lt (PySem.F.args_list_lt_2 _ _) (ll_lt l b us ws n1 n2 d1 d2 f1 f2 ns ms hi hj) ⟨o1, o2, ?_⟩ r
  exact (show Value.bool (HT.lexLt ns ms) ≠ Value.notImplemented ∧ Q (.bool (HT.lexLt ns ms)) s from ⟨nofun, q⟩)
theorem ints_uniq : ∀ {vs : List Value} {ns ms : List Int}, IntsAre vs ns → IntsAre vs ms → ns = ms
  | _, _, _, .nil, .nil => rfl
  | _, _, _, .cons _ _ a, .cons _ _ b => by rw [ints_uniq a b]
theorem all_same : ∀ {ns ms : List Int}, ns.length = ms.length → ((List.range ns.length).all fun j => ns.getD j 0 == ms.getD j 0) = decide (ns = ms)
  | [], [], _ => rfl
  | x :: xs, y :: ys, h => by
    have ih := all_same (Nat.succ.inj h)
    rw [List.length_cons, List.range_succ_eq_map, List.all_cons, List.all_map]
    have e : ((fun j => (x :: xs).getD j 0 == (y :: ys).getD j 0) ∘ Nat.succ) = fun j => xs.getD j 0 == ys.getD j 0 := by
      funext j
      simp
    rw [e, ih]
    by_cases c : x = y
    · subst c; simp
    · simp [c]
theorem ea_lists (hl : s.heap.IsList l us) (hb : s.heap.IsList b ws) (hi : IntsAre us.toList ns) (hj : IntsAre ws.toList ms) (r : A.units < cLine) : EqAt A s (.ref l) (.ref b) (decide (ns = ms)) := by
  have zu : us.size = ns.length := by rw [← hi.length]; simp
  have zw : ws.size = ms.length := by rw [← hj.length]; simp
  by_cases c : l = b
  · subst c
    have e : us = ws := by
      obtain ⟨o, h1, _, n, h2⟩ := hl
      obtain ⟨o', h1', _, n', h2'⟩ := hb
      rw [h1] at h1'
      cases h1'
      rw [h2] at h2'
      injection h2'
    subst e
    rw [ints_uniq hi hj, decide_eq_true rfl]
    exact EqAt.same _
  · refine EqAt.of_refs c ?_
    by_cases z : us.size = ws.size
    · have q := RcAt.lists (e := fun j => ns.getD j 0 == ms.getD j 0) hl hb z r fun j h1 h2 => ?_
      · rw [zu, all_same (by omega)] at q
        exact q
      · obtain ⟨x, t, q1, q2⟩ := hi.at j us[j] (by rw [Array.getElem?_toList, Array.getElem?_eq_getElem h1])
        obtain ⟨y, t', q3, q4⟩ := hj.at j ws[j] (by rw [Array.getElem?_toList, Array.getElem?_eq_getElem h2])
        rw [q1, q3, List.getD_eq_getElem?_getD, List.getD_eq_getElem?_getD, q2, q4]
        exact EqAt.int_int x t y t'
    · rw [decide_eq_false (fun e => z (by rw [zu, zw, e]))]
      exact RcAt.lists_lengths hl hb (by simpa using z) r
def pLt (a b : Int × List Int) : Bool := if a.1 = b.1 then HT.lexLt a.2 b.2 else decide (a.1 < b.1)
theorem lex_irr : ∀ ns : List Int, HT.lexLt ns ns = false
  | [] => rfl
  | x :: xs => by rw [HT.lexLt_cons, if_pos rfl]; exact lex_irr xs
theorem tt_lt (p q : Addr) (c1 c2 : Nat) (d1 d2 : Option Addr) (f1 f2 : Array (Option Value)) (i j : Int) (ti tj : Tok) (hi : IntsAre us.toList ns) (hj : IntsAre ws.toList ms) :
    Meets (Builtin.«tuple.__lt__» ⟨[.ref p, .ref q], []⟩) (fun A Z s => A.units + 1 < cLine ∧ s.heap.IsList l us ∧ s.heap.IsList b ws ∧
      s.heap.get? p = some ⟨.type "tuple", d1, .seq #[.int i ti, .ref l] c1, f1⟩ ∧ s.heap.get? q = some ⟨.type "tuple", d2, .seq #[.int j tj, .ref b] c2, f2⟩ ∧ Z (.ok (.ret (.bool (pLt (i, ns) (j, ms))))) s) :=
  .of_wp fun prog w A Z s h => by
    obtain ⟨hp, g, d, tk, os⟩ := s
    obtain ⟨r, hl, hb, h1, h2, h⟩ := h
    have f2 := AutoSeq1.sub_tuple_tuple
    have z1 : i = j → ns = ms → pLt (i, ns) (j, ms) = false := fun e1 e2 => by
      subst e1 e2
      unfold pLt
      rw [if_pos rfl]
      exact lex_irr ns
    wp_walk using wpAny_loadPart' h1, wpAny_loadPart' h2, wpAny_forIn_list _ (fun rest x s' => x.1 = none ∧ s' = ⟨hp, g, d, tk, os⟩ ∧
      (rest = [(.int i ti, .int j tj), (.ref l, .ref b)] ∨ (rest = [(.ref l, .ref b)] ∧ i = j) ∨ (rest = [] ∧ i = j ∧ ns = ms))) _
    case turn =>
      rintro ⟨y, x⟩ rest k s' ⟨hk, rfl, hr | ⟨hr, e1⟩ | ⟨hr, _⟩⟩
      · injection hr with a1 a2
        injection a1 with a3 a4
        subst a2 a3 a4
        obtain ⟨e, he, hiff⟩ := HT.eqAt_int A.in1 ⟨hp, g, d, tk, os⟩ i ti j tj
        refine wpAny_bind (he prog w _ _ ?_)
        cases e with
        | true =>
          wp_walk
          exact ⟨rfl, rfl, .inr (.inl ⟨rfl, hiff.mp rfl⟩)⟩
        | false =>
          have hne : ¬ i = j := fun q => absurd (hiff.mpr q) Bool.false_ne_true
          have hri := HT.rcLt_int A.in1 ⟨hp, g, d, tk, os⟩ i ti j tj prog w
          wp_walk using hri
          refine ⟨_, rfl, ?_⟩
          unfold pLt at h
          rw [if_neg hne] at h
          exact h
      · injection hr with a1 a2
        injection a1 with a3 a4
        subst a2 a3 a4
        refine wpAny_bind (ea_lists (A := A.in1) hl hb hi hj r prog w _ _ ?_)
        by_cases e2 : ns = ms
        · rw [decide_eq_true e2]
          wp_walk
          exact ⟨rfl, rfl, .inr (.inr ⟨rfl, e1, e2⟩)⟩
        · rw [decide_eq_false e2]
          have hri : ∀ (Q : Value → Shared → Prop) (E : Value → Shared → Prop), Q (.bool (HT.lexLt ns ms)) ⟨hp, g, d, tk, os⟩ → wpAny (model prog w) A.in1 (richCompare .Lt (.ref l) (.ref b)) Q E ⟨hp, g, d, tk, os⟩ := fun Q E q => rc_lists hl hb hi hj r q
          wp_walk using hri
          refine ⟨_, rfl, ?_⟩
          unfold pLt at h
          rw [if_pos e1] at h
          exact h
      · cases hr
    case fin =>
      rintro ⟨x1, x2⟩ s' ⟨hk, rfl, hr | ⟨hr, _⟩ | ⟨_, e1, e2⟩⟩
      · cases hr
      · cases hr
      · simp only at hk
        subst hk
        rw [z1 e1 e2] at h
        wp_walk
        exact ⟨_, rfl, h⟩
    case h => exact ⟨rfl, rfl, .inl rfl⟩
theorem rc_pairs {p q : Addr} {i j : Int} {ti tj : Tok} {Q : Value → Shared → Prop} (hp : IsTup s.heap p #[.int i ti, .ref l]) (hq : IsTup s.heap q #[.int j tj, .ref b]) (hl : s.heap.IsList l us) (hb : s.heap.IsList b ws)
    (hi : IntsAre us.toList ns) (hj : IntsAre ws.toList ms) (r : A.units + 1 < cLine) (h : Q (.bool (pLt (i, ns) (j, ms))) s) : wpAny (model prog w) A (richCompare .Lt (.ref p) (.ref q)) Q E s := by
  obtain ⟨⟨k1, d1, x1, f1⟩, o1, e1, n1, e2⟩ := id hp
  obtain ⟨⟨k2, d2, x2, f2⟩, o2, e3, n2, e4⟩ := id hq
  simp only at e1 e2 e3 e4
  subst e1 e2 e3 e4
  refine richCompare_meets_room (op := .Lt) ⟨_, o1, rfl⟩ ⟨_, o2, rfl⟩ PySem.F.slot_tuple_lt PySem.F.entry_tuple_lt (PySem.F.args_tuple_lt_2 _ _) (tt_lt (l := l) (b := b) p q n1 n2 d1 d2 f1 f2 i j ti tj hi hj) ⟨r, hl, hb, o1, o2, ?_⟩ (by omega)
  exact (show Value.bool (pLt (i, ns) (j, ms)) ≠ Value.notImplemented ∧ Q (.bool (pLt (i, ns) (j, ms))) s from ⟨nofun, h⟩)
end
end
def CmpIn (prog : Program) (w : World) (A : Around) (G : Heap → Prop) (P : Nat → Value → Prop) (bt : Nat → Nat → Bool) : Prop :=
  ∀ i j x y (s : Shared) (Q : Value → Shared → Prop) (E : Value → Shared → Prop), G s.heap → P i x → P j y → Q (.bool (bt i j)) s → wpAny (model prog w) A (richCompare .Lt x y) Q E s
section
variable {prog : Program} {w : World} {A : Around} {Z : Result → Shared → Prop} {I S : Addr} {fp wr : List Addr} {n : Nat} {P : Nat → Value → Prop} {St : Nat → Heap → Prop} {G : Heap → Prop} {bt : Nat → Nat → Bool}
theorem mn_word : (toString "min" ++ toString ".loop" : String) = "min.loop" := by decide
theorem mn_loop (W : Walks prog w A.in1 I fp wr n P St) (cmp : CmpIn prog w A.in1 G P bt) (off : S ∉ fp) (stay : ∀ h h', (∀ b o, b ∉ wr → b ≠ S → h.get? b = some o → h'.get? b = some o) → G h → G h') :
    ∀ (k j : Nat) (s : Shared) (vb : Value) (c : Nat), n - (j + 1) = k → j + 1 ≤ n → St (j + 1) s.heap → G s.heap → P (argBest bt j) vb → s.heap.get? S = some ⟨.type "list", none, .seq #[vb, vb] c, #[]⟩ →
    (∀ v h' tk, P (argBest bt (n - 1)) v → (∀ b o, b ∉ wr → b ≠ S → s.heap.get? b = some o → h'.get? b = some o) → Z (.ok (.ret v)) { s with heap := h', toks := tk }) →
    codeAny (model prog w) A (.builtin "min.loop" ⟨[.ref I, .none, .ref S], []⟩) Z s := by
  have offw : S ∉ wr := fun z => off (W.sub _ z)
  intro k
  induction k with
  | zero =>
    intro j s vb c hk hj st hg hv hS z
    have en : j + 1 = n := by omega
    refine codeAny_builtin PySem.F.entry_min_loop ?_
    rw [Around.under_plainId PySem.F.plain_min_loop _]
    show wpAny _ A.in1 (seqItems? (.ref S) >>= _) _ _ s
    refine wpAny_bind (wpAny_seqItems hS rfl (show wpAny _ A.in1 (tryCatch (pyNext (.ref I)) _ >>= _) _ _ s from ?_))
    refine wpAny_bind (wpAny_tryCatch (W.done s _ _ (en ▸ st) fun h' tk kp => ?_))
    show wpAny _ A.in1 (updateSeq S (fun _ => #[]) >>= _) _ _ _
    refine wpAny_bind (wpAny_updateSeq (kp S _ offw hS) rfl (wpAny_bind (wpAny_letGo (wpAny_pure (z vb _ tk (by rw [← en]; exact hv) fun b o nb ns e => ?_)))))
    rw [Heap.get?_update_other _ _ (Ne.symm ns)]
    exact kp b o nb e
  | succ k ih =>
    intro j s vb c hk hj st hg hv hS z
    have lt : j + 1 < n := by omega
    refine codeAny_builtin PySem.F.entry_min_loop ?_
    rw [Around.under_plainId PySem.F.plain_min_loop _]
    show wpAny _ A.in1 (seqItems? (.ref S) >>= _) _ _ s
    refine wpAny_bind (wpAny_seqItems hS rfl (show wpAny _ A.in1 (tryCatch (pyNext (.ref I)) _ >>= _) _ _ s from ?_))
    refine wpAny_bind (wpAny_tryCatch (W.item (j + 1) s _ _ lt st fun v h' tk pv st' kp => ?_))
    have hS' := kp S _ offw hS
    have hg' : G h' := stay _ _ (fun b o nb _ e => kp b o nb e) hg
    show wpAny _ A.in1 (tryCatch (holding [v, v] (richCompare .Lt v vb >>= _)) _ >>= _) _ _ _
    refine wpAny_bind (wpAny_tryCatch (wpAny_holding (wpAny_bind (cmp (j + 1) (argBest bt j) v vb _ _ _ hg' pv hv (wpAny_bind (wpAny_holding (wpAny_truthy_bool (wpAny_bind (wpAny_letGo (wpAny_pure ?_))))))))))
    cases hb : bt (j + 1) (argBest bt j) with
    | true =>
      simp only [if_true]
      refine wpAny_bind (wpAny_updateSeq hS' rfl (wpAny_bind (wpAny_letGo ?_)))
      rw [mn_word]
      refine wpAny_pure ⟨plainId_quiet PySem.F.plain_min_loop _, ih (j + 1) _ v _ (by omega) lt (W.frame _ _ _ st' fun b fb o e => ?_) (stay _ _ (fun b o _ ns e => ?_) hg') (by simp only [argBest, hb, if_true]; exact pv) (Heap.get?_update_self _ hS' rfl) fun v' h2 tk2 pv' k2 => z v' h2 tk2 pv' fun b o nb ns e => k2 b o nb ns ?_⟩
      · rw [Heap.get?_update_other _ _ (fun q : S = b => off (by rw [q]; exact fb))]; exact e
      · rw [Heap.get?_update_other _ _ (Ne.symm ns)]; exact e
      · rw [Heap.get?_update_other _ _ (Ne.symm ns)]; exact kp b o nb e
    | false =>
      simp only [Bool.false_eq_true, if_false]
      refine wpAny_bind (wpAny_letGo ?_)
      rw [mn_word]
      exact wpAny_pure ⟨plainId_quiet PySem.F.plain_min_loop _, ih (j + 1) _ vb c (by omega) lt st' hg' (by simp only [argBest, hb, Bool.false_eq_true, if_false]; exact hv) hS' fun v' h2 tk2 pv' k2 => z v' h2 tk2 pv' fun b o nb ns e => k2 b o nb ns (kp b o nb e)⟩
theorem mn_first (W : Walks prog w A.in1 I fp wr n P St) (cmp : CmpIn prog w A.in1 G P bt) (off : S ∉ fp) (stay : ∀ h h', (∀ b o, b ∉ wr → b ≠ S → h.get? b = some o → h'.get? b = some o) → G h → G h') (pos : 0 < n) {s : Shared} {c : Nat} (st : St 0 s.heap) (hg : G s.heap)
    (hS : s.heap.get? S = some ⟨.type "list", none, .seq #[] c, #[]⟩) (z : ∀ v h' tk, P (argBest bt (n - 1)) v → (∀ b o, b ∉ wr → b ≠ S → s.heap.get? b = some o → h'.get? b = some o) → Z (.ok (.ret v)) { s with heap := h', toks := tk }) :
    codeAny (model prog w) A (.builtin "min.loop" ⟨[.ref I, .none, .ref S], []⟩) Z s := by
  have offw : S ∉ wr := fun z => off (W.sub _ z)
  refine codeAny_builtin PySem.F.entry_min_loop ?_
  rw [Around.under_plainId PySem.F.plain_min_loop _]
  show wpAny _ A.in1 (seqItems? (.ref S) >>= _) _ _ s
  refine wpAny_bind (wpAny_seqItems hS rfl (show wpAny _ A.in1 (tryCatch (pyNext (.ref I)) _ >>= _) _ _ s from ?_))
  refine wpAny_bind (wpAny_tryCatch (W.item 0 s _ _ pos st fun v h' tk pv st' kp => ?_))
  have hS' := kp S _ offw hS
  have hg' : G h' := stay _ _ (fun b o nb _ e => kp b o nb e) hg
  show wpAny _ A.in1 (updateSeq S (fun _ => #[v, v]) >>= _) _ _ _
  refine wpAny_bind (wpAny_updateSeq hS' rfl ?_)
  rw [mn_word]
  refine wpAny_pure ⟨plainId_quiet PySem.F.plain_min_loop _, mn_loop W cmp off stay _ 0 _ v _ rfl pos (W.frame _ _ _ st' fun b fb o e => ?_) (stay _ _ (fun b o _ ns e => ?_) hg') pv (Heap.get?_update_self _ hS' rfl) fun v' h2 tk2 pv' k2 => z v' h2 tk2 pv' fun b o nb ns e => k2 b o nb ns ?_⟩
  · rw [Heap.get?_update_other _ _ (fun q : S = b => off (by rw [q]; exact fb))]; exact e
  · rw [Heap.get?_update_other _ _ (Ne.symm ns)]; exact e
  · rw [Heap.get?_update_other _ _ (Ne.symm ns)]; exact kp b o nb e
end
section
variable {prog : Program} {w : World} {A : Around} {E : Value → Shared → Prop} {s : Shared}
theorem mn_call {a : Addr} {its : Array Value} {bt : Nat → Nat → Bool} {Q : Value → Shared → Prop} (calm : A.handled = none) (hl : s.heap.IsList a its) (pos : 0 < its.size)
    (cmp : CmpIn prog w A.in1 (fun h => ∀ b o, s.heap.get? b = some o → h.get? b = some o) (fun i v => its[i]? = some v) bt)
    (q : ∀ v h' tk, its[argBest bt (its.size - 1)]? = some v → (∀ b o, s.heap.get? b = some o → h'.get? b = some o) → Q v { s with heap := h', toks := tk }) : wpAny (model prog w) A (call (.builtin "min") [.ref a]) Q E s := by
  have la : a < s.heap.objs.size := by
    obtain ⟨_, e, _⟩ := hl
    exact Heap.lt_size e
  refine call_function_tree PySem.F.kind_min PySem.F.plain_min PySem.F.entry_min (PySem.F.args_min1 _) ?_
  show wpAny _ A.in1 (Builtin.Builtins.bindParams "min" ["key", "default"] 0 ⟨[], []⟩ >>= _) _ _ s
  refine wpAny_bind (wpAny_of_eq (show Builtin.Builtins.bindParams "min" ["key", "default"] 0 ⟨[], []⟩ = pure [none, none] from rfl) (wpAny_bind (wpAny_pure ?_)))
  refine wpAny_bind (wpAny_pyIter_list hl (wpAny_bind (wpAny_newObj_type ?_)))
  rw [mn_word]
  have ne : a ≠ s.heap.objs.size := Nat.ne_of_lt la
  have szS : (s.heap.push { cls := .type "list_iterator", data := .fields #[.ref a, .int 0 0] }).objs.size = s.heap.objs.size + 1 := Heap.size_push ..
  have old : ∀ (b : Addr) (o : Obj), s.heap.get? b = some o → b ≠ s.heap.objs.size ∧ b ≠ s.heap.objs.size + 1 := fun b o e => by
    have q := Heap.lt_size e
    exact ⟨Nat.ne_of_lt q, Nat.ne_of_lt (Nat.lt_succ_of_lt q)⟩
  refine wpAny_pure ⟨plainId_quiet PySem.F.plain_min_loop _, mn_first (G := fun h => ∀ b o, s.heap.get? b = some o → h.get? b = some o) (Walks.list (A := A.in1) calm s.heap.objs.size a ne its) cmp ?_ ?_ pos ⟨⟨_, Heap.get?_push_of_some _ (Heap.get?_push_size _ rfl), rfl, rfl⟩, (hl.push _).push _⟩ ?_ (Heap.get?_push_size _ rfl) fun v h' tk pv kp => q v h' tk pv fun b o e => ?_⟩
  · rw [szS]
    intro z
    rcases List.mem_cons.mp z with z | z
    · exact Nat.succ_ne_self _ z
    · exact Nat.ne_of_lt (Nat.lt_succ_of_lt la) (List.mem_singleton.mp z).symm
  · intro h h' k hg b o e
    refine k b o ?_ ?_ (hg b o e)
    · simpa using (old b o e).1
    · rw [szS]; exact (old b o e).2
  · intro b o e
    exact Heap.get?_push_of_some _ (Heap.get?_push_of_some _ e)
  · refine kp b o ?_ ?_ (Heap.get?_push_of_some _ (Heap.get?_push_of_some _ e))
    · simpa using (old b o e).1
    · rw [szS]; exact (old b o e).2
end
theorem best_is {bt : Nat → Nat → Bool} (irr : ∀ i, bt i i = false) (asy : ∀ i j, bt i j = true → bt j i = false) (neg : ∀ i j k, bt i j = false → bt j k = false → bt i k = false) : ∀ k, argBest bt k ≤ k ∧ ∀ j, j ≤ k → bt j (argBest bt k) = false
  | 0 => ⟨Nat.le_refl _, fun j h => by rw [Nat.le_zero.mp h]; exact irr _⟩
  | k + 1 => by
    obtain ⟨h1, h2⟩ := best_is irr asy neg k
    unfold argBest
    cases e : bt (k + 1) (argBest bt k) with
    | true =>
      refine ⟨Nat.le_refl _, fun j hj => ?_⟩
      rw [if_pos rfl]
      by_cases c : j = k + 1
      · rw [c]; exact irr _
      · exact neg _ _ _ (h2 j (by omega)) (asy _ _ e)
    | false =>
      rw [if_neg Bool.false_ne_true]
      refine ⟨by omega, fun j hj => ?_⟩
      by_cases c : j = k + 1
      · rw [c]; exact e
      · exact h2 j (by omega)
theorem lex_tot : ∀ {a b : List Int}, HT.lexLt a b = true → HT.lexLt b a = false
  | [], [], _ => rfl
  | [], _ :: _, _ => rfl
  | _ :: _, [], h => by cases h
  | x :: xs, y :: ys, h => by
    rw [HT.lexLt_cons] at h ⊢
    by_cases e : x = y
    · rw [if_pos e] at h
      rw [if_pos e.symm]
      exact lex_tot h
    · rw [if_neg e] at h
      rw [if_neg (fun z => e z.symm)]
      have := of_decide_eq_true h
      exact decide_eq_false (by omega)
theorem lex_neg : ∀ {a b c : List Int}, HT.lexLt a b = false → HT.lexLt b c = false → HT.lexLt a c = false
  | [], b, [], _, _ => rfl
  | [], [], _ :: _, _, h => h
  | [], _ :: _, _ :: _, h, _ => by cases h
  | _ :: _, _, [], _, _ => rfl
  | _ :: _, [], _ :: _, _, h => by cases h
  | x :: xs, y :: ys, z :: zs, h, h' => by
    rw [HT.lexLt_cons] at h h' ⊢
    by_cases e : x = y
    · subst e
      rw [if_pos rfl] at h
      by_cases e' : x = z
      · rw [if_pos e'] at h' ⊢
        exact lex_neg h h'
      · rw [if_neg e'] at h' ⊢
        exact h'
    · rw [if_neg e] at h
      have h1 := of_decide_eq_false h
      by_cases e' : y = z
      · subst e'
        rw [if_neg e]
        exact h
      · rw [if_neg e'] at h'
        have h2 := of_decide_eq_false h'
        rw [if_neg (by omega)]
        exact decide_eq_false (by omega)
theorem pLt_irr (a : Int × List Int) : pLt a a = false := by
  unfold pLt
  rw [if_pos rfl]
  exact lex_irr _
theorem pLt_asy {a b : Int × List Int} (h : pLt a b = true) : pLt b a = false := by
  unfold pLt at h ⊢
  by_cases e : a.1 = b.1
  · rw [if_pos e] at h
    rw [if_pos e.symm]
    exact lex_tot h
  · rw [if_neg e] at h
    rw [if_neg (fun z => e z.symm)]
    have := of_decide_eq_true h
    exact decide_eq_false (by omega)
theorem pLt_neg {a b c : Int × List Int} (h : pLt a b = false) (h' : pLt b c = false) : pLt a c = false := by
  unfold pLt at h h' ⊢
  by_cases e : a.1 = b.1
  · rw [if_pos e] at h
    by_cases e' : b.1 = c.1
    · rw [if_pos e'] at h'
      rw [if_pos (e.trans e')]
      exact lex_neg h h'
    · rw [if_neg e'] at h'
      rw [if_neg (fun z => e' (e.symm.trans z)), e]
      exact h'
  · rw [if_neg e] at h
    have h1 := of_decide_eq_false h
    by_cases e' : b.1 = c.1
    · rw [if_neg (fun z => e (z.trans e'.symm)), ← e']
      exact h
    · rw [if_neg e'] at h'
      have h2 := of_decide_eq_false h'
      rw [if_neg (by omega)]
      exact decide_eq_false (by omega)
def PrAt (H : Hp) (d : Int × List Int) (p : Addr) : Prop := ∃ l, H p = some (.tup [.int d.1, .ref l]) ∧ H l = some (.lst (d.2.map V.int))
def rMinP (K : PySem.W.Frag) : List V → Hp → VK → Prop := fun vs H Q => ∃ (a : Addr) (ps : List Addr) (ds : List (Int × List Int)), vs = [V.ref a] ∧ SqL K H a (ps.map V.ref) ∧ ps.length = ds.length ∧ 0 < ps.length ∧
  (∀ (i : Nat) p d, ps[i]? = some p → ds[i]? = some d → PrAt H d p) ∧ ∀ (i : Nat) p d, ps[i]? = some p → ds[i]? = some d → (∀ y ∈ ds, pLt y d = false) → Q (.ref p) H
theorem vals_refs : ∀ {ps : List Addr} {us : List Value}, Vals (ps.map V.ref) us → us = ps.map Value.ref
  | [], _, r => by cases r; rfl
  | p :: ps, _, r => by
    cases r with
    | cons r1 r2 =>
      cases r1
      rw [vals_refs r2]
      rfl
theorem cr_minP {X : Cx} (hc : X.calm = true) (hu : X.A.units + 64 < cLine) : CallR X (.builtin "min") (rMinP X.K) := by
  intro pins s σ H vs us Q I r h
  obtain ⟨a, ps, ds, rfl, hs, hl, h0, hp, q⟩ := h
  obtain ⟨its, rv, pl, _⟩ := I.list hs
  rw [Vals.ref1 r]
  have e := vals_refs rv
  subst e
  have zz : (ps.map Value.ref).toArray.size = ps.length := by simp
  have at1 : ∀ (i : Nat) (v : Value), (ps.map Value.ref).toArray[i]? = some v → ∃ p d, ps[i]? = some p ∧ ds[i]? = some d ∧ v = .ref p := fun i v e => by
    rw [List.getElem?_toArray, List.getElem?_map] at e
    cases e1 : ps[i]? with
    | none => rw [e1] at e; cases e
    | some p =>
      rw [e1] at e
      have : i < ps.length := (List.getElem?_eq_some_iff.mp e1).1
      exact ⟨p, ds[i]'(by omega), rfl, List.getElem?_eq_getElem _, (Option.some.inj e).symm⟩
  refine mn_call (bt := fun i j => pLt (ds.getD i (0, [])) (ds.getD j (0, []))) (I.ok.hd hc) pl.isList (by rw [zz]; exact h0) ?_ fun v h' tk hv kp => ?_
  · intro i j x y s' Q' E' hg hx hy q'
    obtain ⟨p1, d1, a1, b1, rfl⟩ := at1 i x hx
    obtain ⟨p2, d2, a2, b2, rfl⟩ := at1 j y hy
    obtain ⟨l1, t1, u1⟩ := hp i p1 d1 a1 b1
    obtain ⟨l2, t2, u2⟩ := hp j p2 d2 a2 b2
    obtain ⟨i1, v1, w1, _⟩ := I.tuple (SqT.of t1)
    obtain ⟨i2, v2, w2, _⟩ := I.tuple (SqT.of t2)
    obtain ⟨i3, n3, v3, w3, _⟩ := I.lst u1
    obtain ⟨i4, n4, v4, w4, _⟩ := I.lst u2
    obtain ⟨z1, z2, rfl, ⟨tk1, rfl⟩, r2⟩ := v1.two
    cases r2
    obtain ⟨z3, z4, rfl, ⟨tk2, rfl⟩, r4⟩ := v2.two
    cases r4
    simp only [List.getD_eq_getElem?_getD, b1, b2, Option.getD_some] at q'
    exact rc_pairs (w1.keeps hg) (w2.keeps hg) ⟨_, hg _ _ w3, rfl, n3, rfl⟩ ⟨_, hg _ _ w4, rfl, n4, rfl⟩ (intsAre_of v3) (intsAre_of v4) (by show X.A.units + 1 + 1 < cLine; omega) q'
  · obtain ⟨p, d, a1, b1, rfl⟩ := at1 _ v hv
    obtain ⟨k1, k2⟩ := best_is (bt := fun i j => pLt (ds.getD i (0, [])) (ds.getD j (0, []))) (fun i => pLt_irr _) (fun i j e => pLt_asy e) (fun i j k e e' => pLt_neg e e') ((ps.map Value.ref).toArray.size - 1)
    refine ⟨.ref p, H, I.kept kp, rfl, q _ p d a1 b1 fun y hy => ?_⟩
    obtain ⟨j, hj⟩ := List.mem_iff_getElem?.mp hy
    have lj : j < ds.length := (List.getElem?_eq_some_iff.mp hj).1
    have q2 := k2 j (by rw [zz]; omega)
    rw [List.getD_eq_getElem?_getD, List.getD_eq_getElem?_getD, b1, hj] at q2
    exact q2
section
variable {prog : Program} {w : World} {A : Around} {E : Value → Shared → Prop} {s : Shared}
theorem sub_rit : isSubtype (.type "range_iterator") (.type "reversed") = pure false := by rw [isSubtype_type]; kernel_rfl
def ritObj (a n c : Int) : Obj := { cls := .type "range_iterator", data := .fields #[rawInt a, rawInt n, rawInt c] }
theorem rv_range {r : Addr} {n : Int} {t1 t2 t3 : Tok} {Q : Value → Shared → Prop} (h : IsRange s.heap r 0 n 1 t1 t2 t3) (h0 : 0 ≤ n) (h1 : n < 2 ^ 62)
    (q : Q (.ref s.heap.objs.size) { s with heap := s.heap.push (ritObj (n - 1) n (-1)) }) : wpAny (model prog w) A (call (.builtin "range.__reversed__") [.ref r]) Q E s := by
  refine wpAny_call_entry PySem.F.slot_range_reversed ⟨_, h, rfl⟩ PySem.F.entry_range_reversed ?_ (PySem.F.args_range_reversed_1 _)
  unfold Builtin.«range.__reversed__» Builtin.Range.rangeFields
  refine wpAny_bind (wpAny_of_eq (a := Value.ref r) rfl ?_)
  have z : Builtin.Range.rangeSize 0 n 1 = n := by
    rw [rangeSize_one]
    split <;> omega
  have f : (Builtin.Range.rangeFitsLong 0 && Builtin.Range.rangeFitsLong n && Builtin.Range.rangeFitsLong 1 && Builtin.Range.rangeFitsLong (-1) && Builtin.Range.rangeFitsLong (0 - 1) && Builtin.Range.rangeFitsLong n) = true := by
    simp only [Builtin.Range.rangeFitsLong, Bool.and_eq_true, decide_eq_true_eq]
    omega
  wp_walk
  rw [z, f]
  have e : (0 : Int) + (n - 1) * 1 = n - 1 := by omega
  rw [e]
  wp_walk
  exact ⟨_, rfl, q⟩
theorem rv_new {r : Addr} {n : Int} {t1 t2 t3 : Tok} {Q : Value → Shared → Prop} (h : IsRange s.heap r 0 n 1 t1 t2 t3) (h0 : 0 ≤ n) (h1 : n < 2 ^ 62)
    (q : Q (.ref s.heap.objs.size) { s with heap := s.heap.push (ritObj (n - 1) n (-1)) }) : codeAny (model prog w) A (.call (.builtin "reversed.__new__") ⟨[.type "reversed", .ref r], []⟩) (wants Q E) s := by
  refine codeAny_of_tree (show wpAny _ A.in1 (do checkBuiltinCall "reversed.__new__" ⟨[.type "reversed", .ref r], []⟩; again (.builtin "reversed.__new__" ⟨[.type "reversed", .ref r], []⟩)) _ _ s from ?_)
  refine wpAny_bind (wpAny_of_eq (PySem.F.newCall_reversed_1 _) (wpAny_pure ⟨plainId_quiet PySem.F.plain_reversed_new _, codeAny_builtin PySem.F.entry_reversed_new ?_⟩))
  rw [Around.under_plainId PySem.F.plain_reversed_new _]
  unfold Builtin.«reversed.__new__»
  refine wpAny_bind (wpAny_of_eq (newClass_reversed _) ?_)
  try dsimp only
  refine wpAny_bind (wpAny_of_eq (a := ()) (by first | rfl | kernel_rfl) (wpAny_bind (wpAny_of_eq (a := ()) (by first | rfl | kernel_rfl) ?_)))
  try dsimp only
  refine wpAny_bind (wpAny_specialOf (show s.TypeIs (.ref r) "range" from ⟨_, h, rfl⟩) PySem.F.slot_range_reversed.lookup ?_)
  try dsimp only
  refine wpAny_bind (wpAny_of_eq (PySem.F.slot_range_reversed.bind _) ?_)
  try dsimp only
  have no : ¬ ((Value.builtin "range.__reversed__" == Value.none) = true) := Bool.false_ne_true
  first
  | rw [if_neg no]
  | (show wpAny _ _ (if (Value.builtin "range.__reversed__" == Value.none) = true then _ else _) _ _ _; rw [if_neg no])
  refine wpAny_bind (wpAny_rule ?_)
  refine wpAny_bind (m := runValue (.call (.builtin "range.__reversed__") ⟨[.ref r], []⟩)) (show wpAny _ _ (call (.builtin "range.__reversed__") [.ref r]) _ _ _ from rv_range h h0 h1 ?_)
  first
  | exact wpAny_pure q
  | exact wpAny_bind (wpAny_pure (wpAny_pure q))
theorem rv_call {r : Addr} {n : Int} {t1 t2 t3 : Tok} {Q : Value → Shared → Prop} (h : IsRange s.heap r 0 n 1 t1 t2 t3) (h0 : 0 ≤ n) (h1 : n < 2 ^ 62)
    (q : Q (.ref s.heap.objs.size) { s with heap := s.heap.push (ritObj (n - 1) n (-1)) }) : wpAny (model prog w) A (call (.type "reversed") [.ref r]) Q E s := by
  refine callType_other (U := "range_iterator") (Q₁ := fun x s' => x = .ref s.heap.objs.size ∧ s' = { s with heap := s.heap.push (ritObj (n - 1) n (-1)) }) (by decide +kernel) PySem.F.create_reversed ⟨_, _, PySem.F.mro_reversed⟩ PySem.F.made_reversed sub_rit (PySem.F.typeCall_reversed_1 _) (rv_new h h0 h1 ⟨rfl, rfl⟩) ?_
  rintro x s' ⟨rfl, rfl⟩
  exact ⟨⟨_, Heap.get?_push_size _ rfl, rfl⟩, q⟩
end
def iRvR (ta : TA) : TI := fun σ H R => ta σ H fun vs H1 => ∃ n : Int, vs = [.int n] ∧ 0 ≤ n ∧ n < 2 ^ 62 ∧ R (Itc (n - 1) (-1) n.toNat) H1
theorem pi_rvrange {X : Cx} {tg e : Expr} {ta : TA} {p p' pos pos' : Pos} (hg : Gl X "reversed") (hm : X.mg "reversed" = none) (hg' : Gl X "range") (hm' : X.mg "range" = none) (ha : PA X [e] ta)
    (hs : starEach [e] X.env = [(false, eval e X.env)] := by rfl) (hs' : starEach [Expr.Call (.Name "range" p') [e] [] pos'] X.env = [(false, eval (.Call (.Name "range" p') [e] [] pos') X.env)] := by rfl) :
    PI X tg (.Call (.Name "reversed" p) [.Call (.Name "range" p') [e] [] pos'] [] pos) (iRvR ta) := by
  intro pins s σ H R I h
  refine Call_ (ld_blt I hg hm boot_reversed5 (PyProof.Rows.callWith_type1 ?_ hs' rfl))
  rw [hs']
  refine Calls.spliced_cons (Call_ (ld_blt I hg' hm' boot_range (PyProof.Rows.callWith_type1 (thn (ha pos' pins s σ H _ I h) fun us s1 ⟨vs, H1, I1, r1, q1⟩ => ?_) hs rfl)))
  obtain ⟨n, e, h0, h1, q⟩ := q1
  subst e
  cases r1 with
  | cons r rr =>
    cases rr
    obtain ⟨t, rfl⟩ := r
    refine call_range_1 (Calls.spliced_nil ?_)
    have I2 := I1.kept (h' := s1.heap.push { cls := .type "range", data := .fields #[.int 0 s1.toks, .int n t, .int 1 (s1.toks + 1)] }) (t' := s1.toks + 1 + 1) fun b u e => Heap.get?_push_of_some _ e
    refine rv_call (s := { s1 with heap := s1.heap.push { cls := .type "range", data := .fields #[.int 0 s1.toks, .int n t, .int 1 (s1.toks + 1)] }, toks := s1.toks + 1 + 1 }) (IsRange.new ..) h0 h1 ?_
    have st : IsRangeIter ((s1.heap.push { cls := .type "range", data := .fields #[.int 0 s1.toks, .int n t, .int 1 (s1.toks + 1)] }).push (ritObj (n - 1) n (-1))) (s1.heap.push { cls := .type "range", data := .fields #[.int 0 s1.toks, .int n t, .int 1 (s1.toks + 1)] }).objs.size (n - 1 + ((0 : Nat) : Int) * -1) ((n.toNat : Int) - ((0 : Nat) : Int)) (-1) := by
      have e1 : n - 1 + ((0 : Nat) : Int) * -1 = n - 1 := by omega
      have e2 : (n.toNat : Int) - ((0 : Nat) : Int) = n := by omega
      rw [e1, e2]
      exact Heap.get?_push_size _ rfl
    refine wpAny_pyIter_rangeiter st ?_
    exact pi_one (tk := s1.toks + 1 + 1) I2 _ (turn_rangeC _ (n - 1) (-1) n.toNat) st q
def qRvR (vs : List V) (H1 : Hp) (R : It → Hp → Prop) : Prop := ∃ n : Int, vs = [.int n] ∧ 0 ≤ n ∧ n < 2 ^ 62 ∧ R (Itc (n - 1) (-1) n.toNat) H1
def qRng2 (vs : List V) (H1 : Hp) (R : It → Hp → Prop) : Prop := ∃ i j : Int, vs = [.int i, .int j] ∧ (-(2 ^ 62) ≤ i ∧ i < 2 ^ 62 ∧ -(2 ^ 62) ≤ j ∧ j < 2 ^ 62) ∧ R (Itr i (j - i).toNat) H1
def qEnum (K : PySem.W.Frag) (vs : List V) (H1 : Hp) (R : It → Hp → Prop) : Prop := ∃ a xs, vs = [.ref a] ∧ SqL K H1 a xs ∧ R (Ite K a) H1
section
variable {σ : St} {H : Hp} {Q : VK} {nx : St → Hp → Prop} {rt : VK} {bk ct : St → Hp → Prop} {tb : TS} {g : TG} {tA : TA} {R : It → Hp → Prop} {K : PySem.W.Frag} {a p : Addr} {n i j : Int} {m : Nat} {ns : List Int} {xs : List V}
theorem go_rvr (h : tA σ H fun vs H1 => qRvR vs H1 R) : iRvR tA σ H R := h
theorem go_qrvr (h0 : 0 ≤ n) (h1 : n < 2 ^ 62) (h : R (Itc (n - 1) (-1) n.toNat) H) : qRvR [.int n] H R := ⟨n, rfl, h0, h1, h⟩
theorem go_rng2 (h : tA σ H fun vs H1 => qRng2 vs H1 R) : iRng2 tA σ H R := h
theorem go_qrng2 (h1 : -(2 ^ 62) ≤ i) (h2 : i < 2 ^ 62) (h3 : -(2 ^ 62) ≤ j) (h4 : j < 2 ^ 62) (h : R (Itr i (j - i).toNat) H) : qRng2 [.int i, .int j] H R := ⟨i, j, rfl, ⟨h1, h2, h3, h4⟩, h⟩
theorem go_enum (h : tA σ H fun vs H1 => qEnum K vs H1 R) : iEnum K tA σ H R := h
theorem go_qenum (h : H p = some (.lst xs)) (q : R (Ite K p) H) : qEnum K [.ref p] H R := ⟨p, xs, rfl, SqL.of h, q⟩
theorem go_sumL (h : H p = some (.lst (ns.map V.int))) (q : Q (.int ns.sum) H) : rSum K [.ref p] H Q := ⟨p, ns, rfl, SqL.of h, q⟩
theorem fq_rvr {lo c : Int} (Pv : Nat → St → Hp → Prop) (h0 : Pv 0 σ H) (hs : ∀ (i : Nat) (σ : St) (H : Hp), i < m → Pv i σ H → g (.int (lo + (i : Nat) * c)) σ H fun σ2 H2 => tb ⟨Pv (i + 1), rt, nx, Pv (i + 1)⟩ σ2 H2) (hd : ∀ σ H, Pv m σ H → nx σ H) :
    forQ (Itc lo c m) g tb ⟨nx, rt, bk, ct⟩ σ H := for_rangeC (D := ⟨nx, rt, bk, ct⟩) Pv h0 hs hd
end
def qCh (r' : R2) (tc : TE) (y : V) (σ : St) (Q : VK) (z : V) (H3 : Hp) : Prop := ∃ k, z = .bl k ∧ (if k = true then tc σ H3 fun w' H4 => r' y w' H4 Q else Q (.bl false) H3)
theorem pe_gint {X : Cx} {x : Str} {n : Int} {pos : Pos} (hg : Gl X x) (h : ∃ t, X.mg x = some (.int n t)) (hd : (x == ("__debug__" : Str)) = false := by decide) : PE X (.Name x pos) (tC (.int n)) := by
  obtain ⟨t, h⟩ := h
  exact pe_glob hg h ⟨t, rfl⟩ hd
section
variable {X : Cx} (K : PySem.W.Frag)
theorem kSum (hc : X.calm = true) (e : X.K = K := by rfl) : CallR X (.builtin "sum") (rSum K) := e ▸ cr_sum hc
theorem kMax (hc : X.calm = true) (e : X.K = K := by rfl) : CallR X (.builtin "max") (rMax K) := e ▸ cr_max hc
theorem kMinP (hc : X.calm = true) (hu : X.A.units + 64 < cLine) (e : X.K = K := by rfl) : CallR X (.builtin "min") (rMinP K) := e ▸ cr_minP hc hu
theorem kSorted (e : X.K = K := by rfl) : CallR X (.builtin "sorted") (rSorted K) := e ▸ cr_sorted
end
section
variable {σ : St} {H : Hp} {Q : VK} {nx : St → Hp → Prop} {rt : VK} {bk ct : St → Hp → Prop} {ta tb tc : TE} {r r' : R2} {K : PySem.W.Frag} {p : Addr} {xs : List V} {n : Int} {b : Bool} {y v v' : V} {ns : List Int} {lo hi : Option Int} {kvs kvs' : List (Key × V)} {QH : Hp → Prop}
theorem go_chain (h : ta σ H fun x H1 => tb σ H1 fun y H2 => r x y H2 fun z H3 => qCh r' tc y σ Q z H3) : tChain r r' ta tb tc σ H Q := h
theorem go_qch (h : if b = true then tc σ H fun w H4 => r' y w H4 Q else Q (.bl false) H) : qCh r' tc y σ Q (.bl b) H := ⟨b, rfl, h⟩
theorem go_slL (h : H p = some (.lst xs)) (q : ∀ a, H a = none → Q (.ref a) (upd H a (.lst (cutV xs lo hi)))) : rSlL K (.ref p) lo hi H Q := ⟨p, xs, rfl, SqL.of h, q⟩
theorem go_sorted (h : H p = some (.lst (ns.map V.int))) (l : ns.length < 64) (q : ∀ (ns' : List Int) (a : Addr), ns'.Perm ns → ns'.Pairwise (· ≤ ·) → H a = none → Q (.ref a) (upd H a (.lst (ns'.map V.int)))) : rSorted K [.ref p] H Q := ⟨p, ns, rfl, SqL.of h, l, q⟩
theorem go_maxL (h : H p = some (.lst (ns.map V.int))) (l : 0 < ns.length) (q : ∀ m, m ∈ ns → (∀ y, y ∈ ns → y ≤ m) → Q (.int m) H) : rMax K [.ref p] H Q := ⟨p, ns, rfl, SqL.of h, l, q⟩
theorem go_dnew (q : ∀ a, H a = none → Q (.ref a) (upd H a (.dK []))) : tDNewK σ H Q := q
theorem go_qdgI (h : H p = some (.dK kvs)) (e : valV kvs (.inl n) = some v) (q : Q v H) : qDG (.ref p) (.int n) H Q := ⟨p, v, rfl, by rw [← e]; exact DGet.k (k := Sum.inl n) h, q⟩
theorem go_qdpI (h : H p = some (.dK kvs)) (l : kvs.length < sizeLine) (q : QH (upd H p (.dK (putK kvs (.inl n) v)))) : qDP (.ref p) (.int n) v H QH := ⟨p, _, rfl, DPut.k (k := Sum.inl n) h l, q⟩
theorem go_aug {i : Nat} {x : V} {te : TE} {ti : TIp} (e : σ[i]? = some (some x)) (h : te σ H fun y H1 => ti x y H1 fun z H2 => nx (σ.set i (some z)) H2) : tAug i te ti ⟨nx, rt, bk, ct⟩ σ H := ⟨x, e, h⟩
theorem go_ipI {f : Int → Int → Int} {m : Int} (h : Q (.int (f n m)) H) : ipI f (.int n) (.int m) H Q := ⟨n, m, rfl, rfl, h⟩
theorem fq_enum {g : TG} {tb : TS} (xs : List V) (Pv : Nat → St → Hp → Prop) (h0 : Pv 0 σ H) (hl : ∀ (i : Nat) (σ : St) (H : Hp), i ≤ xs.length → Pv i σ H → SqL K H p xs)
    (hs : ∀ (i : Nat) (x : V) (σ : St) (H : Hp) (t : Addr), xs[i]? = some x → H t = none → Pv i σ H → g (.ref t) σ (upd H t (.tup [.int (i : Nat), x])) fun σ2 H2 => tb ⟨Pv (i + 1), rt, nx, Pv (i + 1)⟩ σ2 H2) (hd : ∀ σ H, Pv xs.length σ H → nx σ H) :
    forQ (Ite K p) g tb ⟨nx, rt, bk, ct⟩ σ H := by
  refine ⟨fun i m σ H => m = xs.length - i ∧ i ≤ xs.length ∧ Pv i σ H, ⟨_, rfl, Nat.zero_le _, h0⟩, ?_⟩
  rintro i m σ H ⟨rfl, hi, q⟩
  have sq := hl i σ H hi q
  by_cases lt : i < xs.length
  · refine .inr ⟨⟨xs, xs[i], sq, List.getElem?_eq_getElem lt⟩, Pv (i + 1), fun σ' H' q' => ⟨xs.length - (i + 1), by omega, rfl, lt, q'⟩, fun x H' y => ?_⟩
    obtain ⟨t, x', rfl, ht, rfl, hx⟩ := y
    exact hs i x' σ H t (hx xs sq) ht q
  · have e : i = xs.length := by omega
    subst e
    exact .inl ⟨⟨xs, sq, Nat.le_refl _⟩, hd σ H q⟩
end
end L2
set_option Elab.async false
set_option linter.all false
set_option maxRecDepth 100000
namespace Lw
open PySem L2
inductive Op3 where | sum | diff | less
  deriving DecidableEq
def Op3.str : Op3 → Str
  | .sum => "sum" | .diff => "diff" | .less => "less"
inductive Part where
  | num (n : Int) | name (k : Int) | op (o : Op3) (a b : Part)
def Part.ok (nm : Int) : Nat → Part → Prop
  | 0, _ => False
  | _ + 1, .num n => 0 ≤ n ∧ n ≤ 10006
  | _ + 1, .name k => 0 ≤ k ∧ k < nm
  | d + 1, .op _ a b => a.ok nm d ∧ b.ok nm d
inductive Row where
  | set (n : Int) (p : Part) | take (n : Int) | get (n f : Int) (p : Part) | size (n f : Int)
  | add (f : Int) (p : Part) | put (f : Int) (p q : Part) | cut (f : Int) (p : Part) | send (p : Part)
  | go (r : Int) | unl (n r : Int) | mark
def Row.ok (nm fl many : Int) : Row → Prop
  | .set n p => 0 ≤ n ∧ n < nm ∧ p.ok nm 3
  | .take n => 0 ≤ n ∧ n < nm
  | .get n f p => 0 ≤ n ∧ n < nm ∧ 0 ≤ f ∧ f < fl ∧ p.ok nm 3
  | .size n f => 0 ≤ n ∧ n < nm ∧ 0 ≤ f ∧ f < fl
  | .add f p => 0 ≤ f ∧ f < fl ∧ p.ok nm 3
  | .put f p q => 0 ≤ f ∧ f < fl ∧ p.ok nm 3 ∧ q.ok nm 3
  | .cut f p => 0 ≤ f ∧ f < fl ∧ p.ok nm 3
  | .send p => p.ok nm 3
  | .go r => 0 ≤ r ∧ r ≤ many
  | .unl n r => 0 ≤ n ∧ n < nm ∧ 0 ≤ r ∧ r ≤ many
  | .mark => True
def Imm : HO → Prop
  | .tup _ => True
  | .frz _ _ => True
  | _ => False
def TK (H H' : Hp) : Prop := ∀ a o, Imm o → H a = some o → H' a = some o
theorem TK.refl (H : Hp) : TK H H := fun _ _ _ h => h
theorem TK.trans {H H1 H2 : Hp} (a : TK H H1) (b : TK H1 H2) : TK H H2 := fun c o m h => b c o m (a c o m h)
theorem TK.get {H H' : Hp} {a : Addr} {xs : List V} (s : TK H H') (h : H a = some (.tup xs)) : H' a = some (.tup xs) := s a _ True.intro h
theorem _root_.L2.Same.tk {H H' : Hp} (s : Same H H') : TK H H' := fun a o _ h => s a o h
theorem TK.new {H : Hp} {p : Addr} {o : HO} (h : H p = none) : TK H (upd H p o) := (same_new h o).tk
theorem _root_.L2.Off.tkm {d : Addr} {H H' : Hp} {u : HO} (s : Off d H H') (h : H d = some u) (n : ¬ Imm u) : TK H H' := fun a o m q => s a o q (ne_of q h (by intro z; subst z; exact n m))
theorem _root_.L2.Off.tk {d : Addr} {H H' : Hp} {ys : List V} (s : Off d H H') (h : H d = some (.lst ys)) : TK H H' := s.tkm h (fun z => z)
theorem TK.updL {H : Hp} {p : Addr} {o : HO} {ys : List V} (h : H p = some (.lst ys)) : TK H (upd H p o) := (off_upd H p o).tk h
def Scr (K : PySem.W.Frag) (H : Hp) (a : Addr) (ns : List Int) : Prop := (∃ o, H a = some (.frz o (.lst (ns.map V.int)))) ∨ SqL K (fun _ => none) a (ns.map V.int)
theorem Scr.mono {K : PySem.W.Frag} {H H' : Hp} {a : Addr} {ns : List Int} (t : TK H H') : Scr K H a ns → Scr K H' a ns
  | .inl ⟨o, h⟩ => .inl ⟨o, t a _ True.intro h⟩
  | .inr h => .inr h
theorem Scr.sq {K : PySem.W.Frag} {H : Hp} {a : Addr} {ns : List Int} : Scr K H a ns → SqL K H a (ns.map V.int)
  | .inl ⟨o, h⟩ => .inl (.inr ⟨o, h⟩)
  | .inr h => by
    rcases h with (h | ⟨o, h⟩) | h
    · cases h
    · cases h
    · exact .inr h
theorem Scr.of {K : PySem.W.Frag} {H : Hp} {a : Addr} {ns : List Int} (O : Only H) (h : SqL K H a (ns.map V.int)) : Scr K H a ns := by
  rcases h with (h | ⟨o, h⟩) | h
  · rcases O a with z | ⟨o, xs, z⟩
    · rw [h] at z; cases z
    · rw [h] at z; cases z
  · exact .inl ⟨o, h⟩
  · exact .inr (.inr h)
def PartAt (H : Hp) : Part → V → Prop
  | .num n, v => ∃ a, v = .ref a ∧ H a = some (.tup [.str "num", .int n])
  | .name k, v => ∃ a, v = .ref a ∧ H a = some (.tup [.str "name", .int k])
  | .op o x y, v => ∃ a u w, v = .ref a ∧ H a = some (.tup [.str o.str, u, w]) ∧ PartAt H x u ∧ PartAt H y w
def RowXs (H : Hp) : Row → List V → Prop
  | .set n p, xs => ∃ v, xs = [.str "set", .int n, v] ∧ PartAt H p v
  | .take n, xs => xs = [.str "take", .int n]
  | .get n f p, xs => ∃ v, xs = [.str "get", .int n, .int f, v] ∧ PartAt H p v
  | .size n f, xs => xs = [.str "size", .int n, .int f]
  | .add f p, xs => ∃ v, xs = [.str "add", .int f, v] ∧ PartAt H p v
  | .put f p q, xs => ∃ v u, xs = [.str "put", .int f, v, u] ∧ PartAt H p v ∧ PartAt H q u
  | .cut f p, xs => ∃ v, xs = [.str "cut", .int f, v] ∧ PartAt H p v
  | .send p, xs => ∃ v, xs = [.str "send", v] ∧ PartAt H p v
  | .go r, xs => xs = [.str "go", .int r]
  | .unl n r, xs => xs = [.str "unless", .int n, .int r]
  | .mark, xs => xs = [.str "mark"]
def RowAt (H : Hp) (r : Row) (v : V) : Prop := ∃ a xs, v = .ref a ∧ H a = some (.tup xs) ∧ RowXs H r xs
theorem PartAt.mono {H H' : Hp} (t : TK H H') : ∀ {p : Part} {v : V}, PartAt H p v → PartAt H' p v
  | .num _, _, ⟨a, e, h⟩ => ⟨a, e, t.get h⟩
  | .name _, _, ⟨a, e, h⟩ => ⟨a, e, t.get h⟩
  | .op .., _, ⟨a, u, w, e, h, h1, h2⟩ => ⟨a, u, w, e, t.get h, PartAt.mono t h1, PartAt.mono t h2⟩
theorem RowXs.mono {H H' : Hp} (t : TK H H') : ∀ {r : Row} {xs : List V}, RowXs H r xs → RowXs H' r xs
  | .set .., _, ⟨v, e, h⟩ => ⟨v, e, h.mono t⟩
  | .take _, _, h => h
  | .get .., _, ⟨v, e, h⟩ => ⟨v, e, h.mono t⟩
  | .size .., _, h => h
  | .add .., _, ⟨v, e, h⟩ => ⟨v, e, h.mono t⟩
  | .put .., _, ⟨v, u, e, h, h'⟩ => ⟨v, u, e, h.mono t, h'.mono t⟩
  | .cut .., _, ⟨v, e, h⟩ => ⟨v, e, h.mono t⟩
  | .send _, _, ⟨v, e, h⟩ => ⟨v, e, h.mono t⟩
  | .go _, _, h => h
  | .unl .., _, h => h
  | .mark, _, h => h
theorem RowAt.mono {H H' : Hp} (t : TK H H') {r : Row} {v : V} : RowAt H r v → RowAt H' r v := fun ⟨a, xs, e, h, q⟩ => ⟨a, xs, e, t.get h, q.mono t⟩
inductive RowsAt (H : Hp) : List Row → List V → Prop
  | nil : RowsAt H [] []
  | cons {r : Row} {v : V} {rs : List Row} {vs : List V} : RowAt H r v → RowsAt H rs vs → RowsAt H (r :: rs) (v :: vs)
theorem RowsAt.length {H : Hp} {rs : List Row} {vs : List V} (h : RowsAt H rs vs) : rs.length = vs.length := by
  induction h with
  | nil => rfl
  | cons _ _ ih => simp [ih]
theorem RowsAt.mono {H H' : Hp} (t : TK H H') {rs : List Row} {vs : List V} (h : RowsAt H rs vs) : RowsAt H' rs vs := by
  induction h with
  | nil => exact .nil
  | cons h _ ih => exact .cons (h.mono t) ih
theorem RowsAt.snoc {H : Hp} {rs : List Row} {vs : List V} {r : Row} {v : V} (h : RowsAt H rs vs) (q : RowAt H r v) : RowsAt H (rs ++ [r]) (vs ++ [v]) := by
  induction h with
  | nil => exact .cons q .nil
  | cons h _ ih => exact .cons h ih
theorem RowsAt.get {H : Hp} {rs : List Row} {vs : List V} (h : RowsAt H rs vs) : ∀ {i : Nat} {r : Row}, rs[i]? = some r → ∃ v, vs[i]? = some v ∧ RowAt H r v := by
  induction h with
  | nil => intro i r e; simp at e
  | cons h _ ih =>
    intro i r e
    cases i with
    | zero => simp at e; subst e; exact ⟨_, rfl, h⟩
    | succ i => simpa using ih (by simpa using e)
theorem RowsAt.set {H : Hp} {rs : List Row} {vs : List V} (h : RowsAt H rs vs) : ∀ {i : Nat} {r : Row} {v : V}, RowAt H r v → RowsAt H (rs.set i r) (vs.set i v) := by
  induction h with
  | nil => intro i r v _; exact .nil
  | cons h t ih =>
    intro i r v q
    cases i with
    | zero => exact .cons q t
    | succ i => exact .cons h (ih q)
structure Prog where
  nm : Int
  fl : Int
  rows : List Row
structure Prog.Ok (p : Prog) : Prop where
  n1 : 1 ≤ p.nm
  n2 : p.nm ≤ 8
  f1 : 1 ≤ p.fl
  f2 : p.fl ≤ 4
  ln : p.rows.length ≤ 60
  rw : ∀ r ∈ p.rows, r.ok p.nm p.fl p.rows.length
def ProgAt (H : Hp) (p : Prog) (v : V) : Prop := ∃ a b vs, v = .ref a ∧ H a = some (.tup [.int p.nm, .int p.fl, .ref b]) ∧ H b = some (.tup vs) ∧ RowsAt H p.rows vs
theorem ProgAt.mono {H H' : Hp} (t : TK H H') {p : Prog} {v : V} : ProgAt H p v → ProgAt H' p v := fun ⟨a, b, vs, e, h, h', q⟩ => ⟨a, b, vs, e, t.get h, t.get h', q.mono t⟩
theorem at_two {x y : V} {r : Int} (h0 : 0 ≤ r) (h1 : r < 2) : ∃ z, atI [x, y] r = some z ∧ (z = x ∨ z = y) := by
  have : r = 0 ∨ r = 1 := by omega
  rcases this with rfl | rfl
  · exact ⟨x, rfl, .inl rfl⟩
  · exact ⟨y, rfl, .inr rfl⟩
theorem mem_set {α : Type} {P : α → Prop} {xs : List α} {i : Nat} {y : α} (h : ∀ x ∈ xs, P x) (hy : P y) : ∀ x ∈ xs.set i y, P x := fun x hx => by
  rcases List.mem_or_eq_of_mem_set hx with z | z
  · exact h x z
  · subst z; exact hy
theorem mem_snoc {α : Type} {P : α → Prop} {xs : List α} {y : α} (h : ∀ x ∈ xs, P x) (hy : P y) : ∀ x ∈ xs ++ [y], P x := fun x hx => by
  rcases List.mem_append.mp hx with z | z
  · exact h x z
  · rw [List.mem_singleton.mp z]; exact hy
theorem RowsAt.take_succ {H : Hp} {rs : List Row} {vs : List V} (h : RowsAt H rs vs) {i : Nat} {v : V} (e : vs[i]? = some v) : ∃ r, rs[i]? = some r ∧ RowAt H r v := by
  have hl := h.length
  have hi : i < rs.length := by
    have := (List.getElem?_eq_some_iff.mp e).1
    omega
  obtain ⟨v', e', q⟩ := h.get (List.getElem?_eq_getElem hi)
  rw [e] at e'
  cases e'
  exact ⟨_, List.getElem?_eq_getElem hi, q⟩
theorem take_snoc {α : Type} {xs : List α} {i : Nat} {x : α} (e : xs[i]? = some x) : xs.take (i + 1) = xs.take i ++ [x] := by
  rw [List.take_succ, e]; rfl
theorem small_line {n : Nat} (h : n ≤ 100000) : n < sizeLine := Nat.lt_of_le_of_lt h (by decide)
theorem small_le {n : Nat} (h : n ≤ 100000) : n ≤ sizeLine := Nat.le_of_lt (small_line h)
end Lw
set_option Elab.async false
set_option linter.all false
set_option maxRecDepth 100000
namespace Lw
open PySem L2
def Part.val (ns : List Int) : Part → Int
  | .num n => n
  | .name k => ns.getD k.toNat 0
  | .op .sum a b => (a.val ns + b.val ns) % 10007
  | .op .diff a b => (a.val ns - b.val ns) % 10007
  | .op .less a b => if a.val ns < b.val ns then 1 else 0
structure S where
  row : Int
  names : List Int
  taken : Nat
  done : Nat
  files : List (List Int)
  sent : List Int
inductive Out where
  | fault (w : Str)
  | next (s : S)
def S.hold (s : S) (n x : Int) : S := { s with row := s.row + 1, done := s.done + 1, names := s.names.set n.toNat x }
def S.file (s : S) (f : Int) : List Int := s.files.getD f.toNat []
def S.fill (s : S) (f : Int) (xs : List Int) : S := { s with row := s.row + 1, done := s.done + 1, files := s.files.set f.toNat xs }
def stepM (hs : List Int) (s : S) : Row → Out
  | .set n p => .next (s.hold n (p.val s.names))
  | .take n => if s.taken = hs.length then .fault "none" else .next { s.hold n (hs.getD s.taken 0) with taken := s.taken + 1 }
  | .get n f p => if ((s.file f).length : Int) ≤ p.val s.names then .fault "place" else .next (s.hold n ((s.file f).getD (p.val s.names).toNat 0))
  | .size n f => .next (s.hold n ((s.file f).length : Int))
  | .add f p => if (s.file f).length = 40 then .fault "full" else .next (s.fill f (s.file f ++ [p.val s.names]))
  | .put f p q => if ((s.file f).length : Int) ≤ p.val s.names then .fault "place" else .next (s.fill f ((s.file f).set (p.val s.names).toNat (q.val s.names)))
  | .cut f p => .next (s.fill f ((s.file f).take (p.val s.names).toNat))
  | .send p => .next { s with row := s.row + 1, done := s.done + 1, sent := s.sent ++ [p.val s.names] }
  | .go r => .next { s with row := r, done := s.done + 1 }
  | .unl n r => .next { s with row := if s.names.getD n.toNat 0 = 0 then r else s.row + 1, done := s.done + 1 }
  | .mark => .next { s with row := s.row + 1, done := s.done + 1 }
def Num (xs : List Int) : Prop := ∀ x ∈ xs, 0 ≤ x ∧ x ≤ 10006
theorem Num.getD {xs : List Int} (h : Num xs) (i : Nat) : 0 ≤ xs.getD i 0 ∧ xs.getD i 0 ≤ 10006 := by
  rw [List.getD_eq_getElem?_getD]
  cases e : xs[i]? with
  | none => exact ⟨by decide, by decide⟩
  | some x => exact h x (List.mem_of_getElem? e)
theorem Part.val_num {ns : List Int} (h : Num ns) {nm : Int} : ∀ {p : Part} {d : Nat}, p.ok nm d → 0 ≤ p.val ns ∧ p.val ns ≤ 10006
  | _, 0, k => k.elim
  | .num _, _ + 1, k => k
  | .name k, _ + 1, _ => h.getD k.toNat
  | .op .sum a b, _ + 1, _ => by show 0 ≤ (_ : Int) % 10007 ∧ (_ : Int) % 10007 ≤ 10006; omega
  | .op .diff a b, _ + 1, _ => by show 0 ≤ (_ : Int) % 10007 ∧ (_ : Int) % 10007 ≤ 10006; omega
  | .op .less a b, _ + 1, _ => by show 0 ≤ (if _ then (1 : Int) else 0) ∧ (if _ then (1 : Int) else 0) ≤ 10006; split <;> omega
theorem Num.set {xs : List Int} (h : Num xs) {i : Nat} {x : Int} (hx : 0 ≤ x ∧ x ≤ 10006) : Num (xs.set i x) := mem_set (P := fun x => 0 ≤ x ∧ x ≤ 10006) h hx
theorem Num.snoc {xs : List Int} (h : Num xs) {x : Int} (hx : 0 ≤ x ∧ x ≤ 10006) : Num (xs ++ [x]) := mem_snoc (P := fun x => 0 ≤ x ∧ x ≤ 10006) h hx
theorem Num.take {xs : List Int} (h : Num xs) (i : Nat) : Num (xs.take i) := fun x hx => h x (List.mem_of_mem_take hx)
structure Good (p : Prog) (hs : List Int) (s : S) : Prop where
  r0 : 0 ≤ s.row
  r1 : s.row ≤ p.rows.length
  nl : s.names.length = p.nm.toNat
  nn : Num s.names
  tk : s.taken ≤ hs.length
  fl : s.files.length = p.fl.toNat
  ff : ∀ f ∈ s.files, f.length ≤ 40 ∧ Num f
  st : s.sent.length ≤ s.done
  dn : s.done ≤ 1000
theorem Good.file {p : Prog} {hs : List Int} {s : S} (g : Good p hs s) (f : Int) : (s.file f).length ≤ 40 ∧ Num (s.file f) := by
  unfold S.file
  rw [List.getD_eq_getElem?_getD]
  cases e : s.files[f.toNat]? with
  | none => exact ⟨by decide, fun x hx => by cases hx⟩
  | some x => exact g.ff x (List.mem_of_getElem? e)
theorem Good.hold {p : Prog} {hs : List Int} {s : S} (g : Good p hs s) {n x : Int} (hx : 0 ≤ x ∧ x ≤ 10006) (hr : s.row < p.rows.length) (hd : s.done < 1000) : Good p hs (s.hold n x) :=
  ⟨by have := g.r0; show 0 ≤ s.row + 1; omega, by show s.row + 1 ≤ _; omega, by show (s.names.set _ _).length = _; rw [List.length_set]; exact g.nl, g.nn.set hx, g.tk, g.fl, g.ff, by have := g.st; show s.sent.length ≤ s.done + 1; omega, hd⟩
theorem Good.fill {p : Prog} {hs : List Int} {s : S} (g : Good p hs s) {f : Int} {xs : List Int} (hx : xs.length ≤ 40 ∧ Num xs) (hr : s.row < p.rows.length) (hd : s.done < 1000) : Good p hs (s.fill f xs) :=
  ⟨by have := g.r0; show 0 ≤ s.row + 1; omega, by show s.row + 1 ≤ _; omega, g.nl, g.nn, g.tk, by show (s.files.set _ _).length = _; rw [List.length_set]; exact g.fl, mem_set (P := fun (f : List Int) => f.length ≤ 40 ∧ Num f) g.ff hx, by have := g.st; show s.sent.length ≤ s.done + 1; omega, hd⟩
theorem Good.step {p : Prog} {hs : List Int} {s s' : S} {r : Row} (g : Good p hs s) (hh : Num hs) (hr : s.row < p.rows.length) (hd : s.done < 1000) (ok : r.ok p.nm p.fl p.rows.length) (e : stepM hs s r = .next s') : Good p hs s' := by
  have g0 := g.r0; have g1 := g.r1; have g2 := g.st; have g3 := g.tk
  cases r with
  | set n q => cases e; exact g.hold (Part.val_num g.nn ok.2.2) hr hd
  | take n =>
    simp only [stepM] at e
    split at e
    · cases e
    · cases e
      have z := g.hold (n := n) (x := hs.getD s.taken 0) (Num.getD hh s.taken) hr hd
      exact ⟨z.r0, z.r1, z.nl, z.nn, by show s.taken + 1 ≤ _; omega, z.fl, z.ff, z.st, z.dn⟩
  | get n f q =>
    simp only [stepM] at e
    split at e
    · cases e
    · cases e; exact g.hold ((g.file f).2.getD _) hr hd
  | size n f => cases e; exact g.hold (by have := (g.file f).1; omega) hr hd
  | add f q =>
    simp only [stepM] at e
    split at e
    · cases e
    · cases e
      have hf := g.file f
      exact g.fill ⟨by rw [List.length_append]; show _ + 1 ≤ 40; omega, hf.2.snoc (Part.val_num g.nn ok.2.2)⟩ hr hd
  | put f q r =>
    simp only [stepM] at e
    split at e
    · cases e
    · cases e
      have hf := g.file f
      exact g.fill ⟨by rw [List.length_set]; exact hf.1, hf.2.set (Part.val_num g.nn ok.2.2.2)⟩ hr hd
  | cut f q =>
    cases e
    have hf := g.file f
    exact g.fill ⟨by rw [List.length_take]; omega, hf.2.take _⟩ hr hd
  | send q => cases e; exact ⟨by show 0 ≤ s.row + 1; omega, by show s.row + 1 ≤ _; omega, g.nl, g.nn, g.tk, g.fl, g.ff, by show (s.sent ++ [_]).length ≤ s.done + 1; rw [List.length_append]; show _ + 1 ≤ _; omega, hd⟩
  | go r => cases e; exact ⟨ok.1, ok.2, g.nl, g.nn, g.tk, g.fl, g.ff, by show s.sent.length ≤ s.done + 1; omega, hd⟩
  | unl n r =>
    cases e
    have k1 : 0 ≤ r := ok.2.2.1
    have k2 : r ≤ p.rows.length := ok.2.2.2
    have z : 0 ≤ (if s.names.getD n.toNat 0 = 0 then r else s.row + 1) ∧ (if s.names.getD n.toNat 0 = 0 then r else s.row + 1) ≤ p.rows.length := by split <;> omega
    exact ⟨z.1, z.2, g.nl, g.nn, g.tk, g.fl, g.ff, by show s.sent.length ≤ s.done + 1; omega, hd⟩
  | mark => cases e; exact ⟨by show 0 ≤ s.row + 1; omega, by show s.row + 1 ≤ _; omega, g.nl, g.nn, g.tk, g.fl, g.ff, by show s.sent.length ≤ s.done + 1; omega, hd⟩
def s0 (p : Prog) : S := ⟨0, List.replicate p.nm.toNat 0, 0, 0, List.replicate p.fl.toNat [], []⟩
inductive End where
  | done | long | fault (w : Str)
def outM (p : Prog) (hs : List Int) : Nat → S → S × End
  | 0, s => if s.row = p.rows.length then (s, .done) else (s, .long)
  | k + 1, s => if s.row = p.rows.length then (s, .done) else match stepM hs s (p.rows.getD s.row.toNat .mark) with
    | .fault w => (s, .fault w)
    | .next s' => outM p hs k s'
def fin (p : Prog) (hs : List Int) (s : S) : S × End := outM p hs (1000 - s.done) s
end Lw
set_option Elab.async false
set_option linter.all false
set_option maxRecDepth 100000
namespace Lw
open PySem L2
structure Eff where
  row : Int
  taken : Nat
  name : Option (Int × Int)
  file : Option (Int × List Int)
  letter : Option Int
  fault : Option Str
end Lw
set_option Elab.async false
set_option linter.all false
set_option maxRecDepth 100000
namespace Lw
open PySem L2
theorem same_upd {H H' : Hp} {p : Addr} {o : HO} (h : H p = none) (s : Same H H') : Same H (upd H' p o) := fun b u q => by rw [upd_ne (ne_of_none q h)]; exact s b u q
theorem _root_.L2.Same.none {H H' : Hp} {p : Addr} (s : Same H H') (h : H' p = Option.none) : H p = Option.none := s.free h
inductive FilesAt (H : Hp) : List V → List (List Int) → Prop
  | nil : FilesAt H [] []
  | cons {a : Addr} {xs : List Int} {vs : List V} {fs : List (List Int)} : H a = some (.lst (xs.map V.int)) → FilesAt H vs fs → FilesAt H (.ref a :: vs) (xs :: fs)
theorem FilesAt.length {H : Hp} {vs : List V} {fs : List (List Int)} (h : FilesAt H vs fs) : vs.length = fs.length := by
  induction h with
  | nil => rfl
  | cons _ _ ih => simp [ih]
theorem FilesAt.get {H : Hp} {vs : List V} {fs : List (List Int)} (h : FilesAt H vs fs) : ∀ {i : Nat}, i < fs.length → ∃ a, vs[i]? = some (.ref a) ∧ H a = some (.lst ((fs.getD i []).map V.int)) := by
  induction h with
  | nil => intro i hi; simp at hi
  | cons h _ ih =>
    intro i hi
    cases i with
    | zero => exact ⟨_, rfl, h⟩
    | succ i => simpa using ih (by simpa using hi)
theorem FilesAt.same {H H' : Hp} {vs : List V} {fs : List (List Int)} (h : FilesAt H vs fs) (s : Same H H') : FilesAt H' vs fs := by
  induction h with
  | nil => exact .nil
  | cons h _ ih => exact .cons (s _ _ h) ih
theorem cut_from {xs : List V} {i : Int} (h : 0 ≤ i) : cutV xs (some i) none = xs.drop i.toNat := by
  unfold cutV HT.sIx
  simp only [if_neg (show ¬ i < 0 by omega)]
  by_cases c : i.toNat ≤ xs.length
  · rw [Nat.min_eq_left c, List.take_of_length_le (by rw [List.length_drop]; omega)]
  · rw [Nat.min_eq_right (by omega), List.drop_eq_nil_of_le (Nat.le_refl _), List.drop_eq_nil_of_le (by omega), List.take_nil]
def whM (W : Nat → St → Hp → Prop) (m : Nat) (tb : TS) (D : Ends) (σ : St) (b : Bool) (H1 : Hp) : Prop :=
  if b = true then ∃ N : St → Hp → Prop, (∀ σ' H', N σ' H' → ∃ m', m' < m ∧ W m' σ' H') ∧ tb { D with nx := N, ct := N, bk := D.nx } σ H1 else D.nx σ H1
theorem go_whileM {σ : St} {H : Hp} {nx : St → Hp → Prop} {rt : VK} {bk ct : St → Hp → Prop} {tb : TS} {c : TT} (W : Nat → St → Hp → Prop) (m : Nat) (h0 : W m σ H) (hs : ∀ m σ H, W m σ H → c σ H fun b H1 => whM W m tb ⟨nx, rt, bk, ct⟩ σ b H1) : tWhile c tb ⟨nx, rt, bk, ct⟩ σ H := ⟨W, ⟨m, h0⟩, hs⟩
theorem go_whM {σ : St} {H : Hp} {nx : St → Hp → Prop} {rt : VK} {bk ct : St → Hp → Prop} {tb : TS} {W : Nat → St → Hp → Prop} {m : Nat} {b : Bool} (h : if b = true then tb ⟨fun σ' H' => ∃ m', m' < m ∧ W m' σ' H', rt, nx, fun σ' H' => ∃ m', m' < m ∧ W m' σ' H'⟩ σ H else nx σ H) : whM W m tb ⟨nx, rt, bk, ct⟩ σ b H := by
  unfold whM
  cases b with
  | true =>
    rw [if_pos rfl] at h ⊢
    exact ⟨_, fun _ _ z => z, h⟩
  | false =>
    rw [if_neg Bool.false_ne_true] at h ⊢
    exact h
theorem FilesAt.keep {H H' : Hp} {vs : List V} {fs : List (List Int)} (h : FilesAt H vs fs) : (∀ a xs, V.ref a ∈ vs → H a = some (.lst xs) → H' a = some (.lst xs)) → FilesAt H' vs fs := by
  induction h with
  | nil => intro _; exact .nil
  | cons h _ ih => intro z; exact .cons (z _ _ (List.mem_cons_self ..) h) (ih fun a xs m => z a xs (List.mem_cons_of_mem _ m))
theorem FilesAt.set {H : Hp} {vs : List V} {fs : List (List Int)} (h : FilesAt H vs fs) : ∀ {i : Nat} {a : Addr} {xs : List Int}, H a = some (.lst (xs.map V.int)) → FilesAt H (vs.set i (.ref a)) (fs.set i xs) := by
  induction h with
  | nil => intro i a xs _; exact .nil
  | cons h t ih =>
    intro i a xs q
    cases i with
    | zero => exact .cons q t
    | succ i => exact .cons h (ih q)
theorem FilesAt.snoc {H : Hp} {vs : List V} {fs : List (List Int)} {a : Addr} {xs : List Int} (h : FilesAt H vs fs) (q : H a = some (.lst (xs.map V.int))) : FilesAt H (vs ++ [.ref a]) (fs ++ [xs]) := by
  induction h with
  | nil => exact .cons q .nil
  | cons h _ ih => exact .cons h ih
def EndAt (H : Hp) : End → V → Prop
  | .done, v => ∃ a, v = .ref a ∧ H a = some (.tup [.str "end"])
  | .long, v => ∃ a, v = .ref a ∧ H a = some (.tup [.str "long"])
  | .fault w, v => ∃ a, v = .ref a ∧ H a = some (.tup [.str "fault", .str w])
theorem EndAt.ref {H : Hp} {e : End} {v : V} (h : EndAt H e v) : ∃ a, v = .ref a := by
  cases e with
  | done => exact ⟨h.choose, h.choose_spec.1⟩
  | long => exact ⟨h.choose, h.choose_spec.1⟩
  | fault w => exact ⟨h.choose, h.choose_spec.1⟩
theorem EndAt.mono {H H' : Hp} (t : TK H H') {e : End} {v : V} (h : EndAt H e v) : EndAt H' e v := by
  cases e with
  | done => obtain ⟨a, e, q⟩ := h; exact ⟨a, e, t.get q⟩
  | long => obtain ⟨a, e, q⟩ := h; exact ⟨a, e, t.get q⟩
  | fault w => obtain ⟨a, e, q⟩ := h; exact ⟨a, e, t.get q⟩
end Lw
set_option linter.all false
namespace Lw
def lxLt : List Int → List Int → Bool
  | [], [] => false
  | [], _ :: _ => true
  | _ :: _, [] => false
  | x :: xs, y :: ys => if x = y then lxLt xs ys else decide (x < y)
theorem lxLt_tot : ∀ {a b : List Int}, lxLt a b = false → lxLt b a = false → a = b
  | [], [], _, _ => rfl
  | [], _ :: _, h, _ => by simp [lxLt] at h
  | _ :: _, [], _, h => by simp [lxLt] at h
  | x :: xs, y :: ys, h, h' => by
    unfold lxLt at h h'
    by_cases e : x = y
    · subst e
      rw [if_pos rfl] at h h'
      rw [lxLt_tot h h']
    · rw [if_neg e] at h
      rw [if_neg (fun z => e z.symm)] at h'
      have h1 := of_decide_eq_false h
      have h2 := of_decide_eq_false h'
      omega
theorem lxLt_neg : ∀ {a b c : List Int}, lxLt a b = false → lxLt b c = false → lxLt a c = false
  | [], b, [], _, _ => rfl
  | [], [], _ :: _, _, h => by simp [lxLt] at h
  | [], _ :: _, _ :: _, h, _ => by simp [lxLt] at h
  | _ :: _, _, [], _, _ => rfl
  | _ :: _, [], _ :: _, _, h => by simp [lxLt] at h
  | x :: xs, y :: ys, z :: zs, h, h' => by
    unfold lxLt at h h' ⊢
    by_cases e : x = y
    · subst e
      rw [if_pos rfl] at h
      by_cases e' : x = z
      · subst e'
        rw [if_pos rfl] at h' ⊢
        exact lxLt_neg h h'
      · rw [if_neg e'] at h' ⊢
        exact h'
    · rw [if_neg e] at h
      have h1 := of_decide_eq_false h
      by_cases e' : y = z
      · subst e'
        rw [if_neg e]
        exact h
      · rw [if_neg e'] at h'
        have h2 := of_decide_eq_false h'
        rw [if_neg (by omega)]
        exact decide_eq_false (by omega)
def prLt (a b : Int × List Int) : Bool := if a.1 = b.1 then lxLt a.2 b.2 else decide (a.1 < b.1)
theorem prLt_tot {a b : Int × List Int} (h : prLt a b = false) (h' : prLt b a = false) : a = b := by
  obtain ⟨a1, a2⟩ := a
  obtain ⟨b1, b2⟩ := b
  unfold prLt at h h'
  dsimp only at h h'
  by_cases e : a1 = b1
  · subst e
    rw [if_pos rfl] at h h'
    rw [lxLt_tot h h']
  · rw [if_neg e] at h
    rw [if_neg (fun z => e z.symm)] at h'
    have h1 := of_decide_eq_false h
    have h2 := of_decide_eq_false h'
    omega
theorem prLt_neg {a b c : Int × List Int} (h : prLt a b = false) (h' : prLt b c = false) : prLt a c = false := by
  obtain ⟨a1, a2⟩ := a
  obtain ⟨b1, b2⟩ := b
  obtain ⟨c1, c2⟩ := c
  unfold prLt at h h' ⊢
  dsimp only at h h' ⊢
  by_cases e : a1 = b1
  · subst e
    rw [if_pos rfl] at h
    by_cases e' : a1 = c1
    · subst e'
      rw [if_pos rfl] at h' ⊢
      exact lxLt_neg h h'
    · rw [if_neg e'] at h' ⊢
      exact h'
  · rw [if_neg e] at h
    have h1 := of_decide_eq_false h
    by_cases e' : b1 = c1
    · subst e'
      rw [if_neg e]
      exact h
    · rw [if_neg e'] at h'
      have h2 := of_decide_eq_false h'
      rw [if_neg (by omega)]
      exact decide_eq_false (by omega)
theorem prLt_cons {c c' d : Int} {m : Int} {a b : List Int} (h : prLt (c, a) (c', b) = false) : prLt (d + c, m :: a) (d + c', m :: b) = false := by
  unfold prLt at h ⊢
  dsimp only at h ⊢
  by_cases e : c = c'
  · subst e
    rw [if_pos rfl] at h ⊢
    unfold lxLt
    rw [if_pos rfl]
    exact h
  · rw [if_neg e] at h
    have h1 := of_decide_eq_false h
    rw [if_neg (by omega)]
    exact decide_eq_false (by omega)
def seg (W : List Int) (a b : Int) : Int := ((W.drop a.toNat).take (b.toNat - a.toNat)).sum
def againM (W F : List Int) (s e : Int) : Int := ((F.filter fun f => decide (s ≤ f) && decide (f < e)).map fun f => seg W s f).sum
def Cm (W F : List Int) (p : Int) : Int → List Int → Int
  | s, [] => againM W F s (W.length + 1)
  | s, m :: r => againM W F s m + p + Cm W F p m r
def Adm (s n : Int) (ms : List Int) : Prop := ms.Pairwise (· < ·) ∧ ∀ m ∈ ms, s < m ∧ m < n
structure Opt (W F : List Int) (p s : Int) (x : Int × List Int) : Prop where
  adm : Adm s W.length x.2
  val : x.1 = Cm W F p s x.2
  low : ∀ ms, Adm s W.length ms → prLt (Cm W F p s ms, ms) x = false
theorem Opt.uniq {W F : List Int} {p s : Int} {x y : Int × List Int} (h : Opt W F p s x) (h' : Opt W F p s y) : x = y := by
  refine prLt_tot ?_ ?_
  · have q := h'.low x.2 h.adm
    rw [← h.val] at q
    exact q
  · have q := h.low y.2 h'.adm
    rw [← h'.val] at q
    exact q
def chs (W F : List Int) (p s : Int) (B : Nat → Int × List Int) : Nat → List (Int × List Int)
  | 0 => [(againM W F s (W.length + 1), [])]
  | k + 1 => chs W F p s B k ++ [(againM W F s (s + 1 + k) + p + (B k).1, (s + 1 + k) :: (B k).2)]
theorem chs_length (W F : List Int) (p s : Int) (B : Nat → Int × List Int) : ∀ k, (chs W F p s B k).length = k + 1
  | 0 => rfl
  | k + 1 => by rw [chs, List.length_append, chs_length W F p s B k]; rfl
theorem chs_mem {W F : List Int} {p s : Int} {B : Nat → Int × List Int} {x : Int × List Int} : ∀ {k : Nat}, x ∈ chs W F p s B k → x = (againM W F s (W.length + 1), []) ∨ ∃ j, j < k ∧ x = (againM W F s (s + 1 + j) + p + (B j).1, (s + 1 + j) :: (B j).2)
  | 0, h => by rw [chs] at h; exact .inl (by simpa using h)
  | k + 1, h => by
    rw [chs, List.mem_append] at h
    rcases h with h | h
    · rcases chs_mem h with h | ⟨j, hj, h⟩
      · exact .inl h
      · exact .inr ⟨j, by omega, h⟩
    · exact .inr ⟨k, by omega, by simpa using h⟩
theorem chs_zero {W F : List Int} {p s : Int} {B : Nat → Int × List Int} : ∀ k : Nat, (againM W F s (W.length + 1), []) ∈ chs W F p s B k
  | 0 => by rw [chs]; exact .head _
  | k + 1 => by rw [chs]; exact List.mem_append_left _ (chs_zero k)
theorem chs_at {W F : List Int} {p s : Int} {B : Nat → Int × List Int} {j : Nat} : ∀ {k : Nat}, j < k → (againM W F s (s + 1 + j) + p + (B j).1, (s + 1 + j) :: (B j).2) ∈ chs W F p s B k
  | 0, h => by omega
  | k + 1, h => by
    rw [chs]
    by_cases e : j = k
    · subst e; exact List.mem_append_right _ (.head _)
    · exact List.mem_append_left _ (chs_at (by omega))
theorem Adm.tail {s n m : Int} {r : List Int} (h : Adm s n (m :: r)) : Adm m n r ∧ s < m ∧ m < n := by
  obtain ⟨h1, h2⟩ := h
  rw [List.pairwise_cons] at h1
  exact ⟨⟨h1.2, fun x hx => ⟨h1.1 x hx, (h2 x (.tail _ hx)).2⟩⟩, h2 m (.head _)⟩
theorem Adm.cons {s n m : Int} {r : List Int} (h : Adm m n r) (h1 : s < m) (h2 : m < n) : Adm s n (m :: r) :=
  ⟨List.pairwise_cons.mpr ⟨fun x hx => (h.2 x hx).1, h.1⟩, fun x hx => by
    rcases List.mem_cons.mp hx with rfl | hx
    · exact ⟨h1, h2⟩
    · exact ⟨by have := (h.2 x hx).1; omega, (h.2 x hx).2⟩⟩
theorem Adm.nil (s n : Int) : Adm s n [] := ⟨List.Pairwise.nil, fun _ h => nomatch h⟩
theorem opt_step {W F : List Int} {p s : Int} {B : Nat → Int × List Int} {k : Nat} {x : Int × List Int} (hk : (k : Int) = W.length - (s + 1) ∨ (k = 0 ∧ (W.length : Int) ≤ s + 1)) (hB : ∀ j, j < k → Opt W F p (s + 1 + j) (B j))
    (hx : x ∈ chs W F p s B k) (hlow : ∀ y ∈ chs W F p s B k, prLt y x = false) : Opt W F p s x := by
  refine ⟨?_, ?_, fun ms hm => ?_⟩
  · rcases chs_mem hx with rfl | ⟨j, hj, rfl⟩
    · exact Adm.nil _ _
    · exact (hB j hj).adm.cons (by omega) (by omega)
  · rcases chs_mem hx with rfl | ⟨j, hj, rfl⟩
    · rfl
    · show _ = againM W F s (s + 1 + j) + p + Cm W F p (s + 1 + j) (B j).2
      rw [← (hB j hj).val]
  · cases ms with
    | nil => exact hlow _ (chs_zero k)
    | cons m r =>
      obtain ⟨ha, h1, h2⟩ := hm.tail
      obtain ⟨j, hj, e⟩ : ∃ j : Nat, j < k ∧ m = s + 1 + j := ⟨(m - (s + 1)).toNat, by omega, by omega⟩
      subst e
      refine prLt_neg ?_ (hlow _ (chs_at hj))
      exact prLt_cons ((hB j hj).low r ha)
def atF : Int → List Int → Int → Int
  | s, [], _ => s
  | s, m :: r, f => if m ≤ f then atF m r f else s
def costM (W F : List Int) (p : Int) (ms : List Int) : Int := p * ms.length + (F.map fun f => seg W (atF 0 ms f) f).sum
theorem sum_filter (q : Int → Bool) (h : Int → Int) : ∀ F : List Int, ((F.filter q).map h).sum = (F.map fun f => if q f = true then h f else 0).sum
  | [] => rfl
  | f :: F => by
    rw [List.filter_cons, List.map_cons, List.sum_cons, ← sum_filter q h F]
    cases e : q f with
    | true => rw [if_pos rfl, if_pos rfl, List.map_cons, List.sum_cons]
    | false => rw [if_neg Bool.false_ne_true, if_neg Bool.false_ne_true, Int.zero_add]
theorem sum_add (g h : Int → Int) : ∀ F : List Int, (F.map fun f => g f + h f).sum = (F.map g).sum + (F.map h).sum
  | [] => rfl
  | f :: F => by
    rw [List.map_cons, List.sum_cons, List.map_cons, List.sum_cons, List.map_cons, List.sum_cons, sum_add g h F]
    omega
theorem sum_congr {g h : Int → Int} : ∀ {F : List Int}, (∀ f ∈ F, g f = h f) → (F.map g).sum = (F.map h).sum
  | [], _ => rfl
  | f :: F, e => by
    rw [List.map_cons, List.sum_cons, List.map_cons, List.sum_cons, e f (.head _), sum_congr fun f' h' => e f' (.tail _ h')]
theorem Cm_eq {W F : List Int} {p : Int} (hF : ∀ f ∈ F, f ≤ W.length) : ∀ (ms : List Int) (s : Int), Adm s W.length ms → Cm W F p s ms = p * ms.length + (F.map fun f => if s ≤ f then seg W (atF s ms f) f else 0).sum
  | [], s, _ => by
    show againM W F s (W.length + 1) = p * 0 + _
    rw [Int.mul_zero, Int.zero_add, againM, sum_filter]
    refine sum_congr fun f hf => ?_
    have := hF f hf
    by_cases h : s ≤ f
    · rw [if_pos h, if_pos (by simp; omega)]; rfl
    · rw [if_neg h, if_neg (by simp; omega)]
  | m :: r, s, h => by
    obtain ⟨ha, h1, h2⟩ := h.tail
    show againM W F s m + p + Cm W F p m r = p * ((r.length : Int) + 1) + _
    rw [Cm_eq hF r m ha, againM, sum_filter]
    have e : (F.map fun f => if s ≤ f then seg W (atF s (m :: r) f) f else 0).sum = (F.map fun f => if (decide (s ≤ f) && decide (f < m)) = true then seg W s f else 0).sum + (F.map fun f => if m ≤ f then seg W (atF m r f) f else 0).sum := by
      rw [← sum_add]
      refine sum_congr fun f hf => ?_
      by_cases c1 : s ≤ f
      · by_cases c2 : m ≤ f
        · rw [if_pos c1, if_pos c2, if_neg (by simp; omega), Int.zero_add, atF, if_pos c2]
        · rw [if_pos c1, if_neg c2, if_pos (by simp; omega), Int.add_zero, atF, if_neg c2]
      · rw [if_neg c1, if_neg (by simp; omega), if_neg (by omega), Int.add_zero]
    rw [e, Int.mul_add, Int.mul_one]
    omega
theorem cost_eq {W F : List Int} {p : Int} {ms : List Int} (hF : ∀ f ∈ F, 0 ≤ f ∧ f ≤ W.length) (h : Adm 0 W.length ms) : costM W F p ms = Cm W F p 0 ms := by
  rw [Cm_eq (fun f hf => (hF f hf).2) ms 0 h, costM]
  congr 1
  refine sum_congr fun f hf => ?_
  rw [if_pos (hF f hf).1]
theorem atF_is {f : Int} : ∀ {ms : List Int} {s n : Int}, Adm s n ms → (atF s ms f ∈ s :: ms.filter (fun m => decide (m ≤ f))) ∧ ∀ y ∈ s :: ms.filter (fun m => decide (m ≤ f)), y ≤ atF s ms f
  | [], s, n, _ => ⟨.head _, fun y hy => by
    have e : y = s := by simpa using hy
    subst e
    exact Int.le_refl _⟩
  | m :: r, s, n, h => by
    obtain ⟨ha, h1, h2⟩ := h.tail
    unfold atF
    by_cases c : m ≤ f
    · rw [if_pos c, List.filter_cons, if_pos (decide_eq_true c)]
      obtain ⟨q1, q2⟩ := atF_is (f := f) ha
      refine ⟨.tail _ q1, fun y hy => ?_⟩
      rcases List.mem_cons.mp hy with rfl | hy
      · have := q2 m (.head _); omega
      · exact q2 y hy
    · rw [if_neg c]
      have e : (m :: r).filter (fun m => decide (m ≤ f)) = [] := by
        rw [List.filter_eq_nil_iff]
        intro x hx
        rcases List.mem_cons.mp hx with rfl | hx
        · simpa using c
        · have := (ha.2 x hx).1
          simp; omega
      rw [e]
      exact ⟨.head _, fun y hy => by
        have e : y = s := by simpa using hy
        subst e
        exact Int.le_refl _⟩
theorem atF_max {ms : List Int} {s n f m : Int} (h : Adm s n ms) (h1 : m ∈ s :: ms.filter (fun m => decide (m ≤ f))) (h2 : ∀ y ∈ s :: ms.filter (fun m => decide (m ≤ f)), y ≤ m) : m = atF s ms f := by
  obtain ⟨q1, q2⟩ := atF_is (f := f) h
  have := q2 m h1
  have := h2 _ q1
  omega
end Lw
set_option Elab.async false
set_option linter.all false
set_option maxRecDepth 100000
namespace L2
open PySem PySem.Spec PyProof.Rows
section
variable {prog : Program} {w : World} {A : Around} {E : Value → Shared → Prop} {s : Shared}
end
section
variable {prog : Program} {w : World} {A : Around} {E : Value → Shared → Prop} {s : Shared}
end
end L2
set_option Elab.async false
set_option linter.all false
set_option maxRecDepth 100000
namespace L2
open PySem PySem.Spec PyProof.Rows
section
variable {prog : Program} {w : World} {A : Around} {E : Value → Shared → Prop} {s : Shared}
end
section
variable {prog : Program} {w : World} {A : Around} {E : Value → Shared → Prop} {s : Shared}
end
section
variable {prog : Program} {w : World} {A : Around} {E : Value → Shared → Prop} {s : Shared} {K : PySem.W.Frag} {a : Addr} {k : Str} {tk : Tok} {r : Option Value}
end
section
variable {X : Cx} {o i e : Expr} {pos : Pos} {td ty : TE}
end
def MtC (P : Program) (w : World) (K : PySem.W.Frag) (mg : Str → Option Value) (base : Heap) (k : Nat) (C : Addr) (m : Str) (ps : List Str) (sp : Sp) : Prop :=
  ∃ f fd, Cls K C ∧ Meth K C m f ∧ FnOk P w K mg base CX0 k f fd ps sp ∧ Binds K fd ps []
theorem MtC.mono {P : Program} {w : World} {K : PySem.W.Frag} {mg : Str → Option Value} {base : Heap} {j k : Nat} {C : Addr} {m : Str} {ps : List Str} {sp : Sp} (c : MtC P w K mg base j C m ps sp) (h : j ≤ k) : MtC P w K mg base k C m ps sp := by
  obtain ⟨f, fd, a, b, F, r⟩ := c
  exact ⟨f, fd, a, b, F.mono h, r⟩
section
variable {X : Cx} {k : Nat} {C : Addr} {ps : List Str} {sp : Sp} {x m : Str} {p pos apos : Pos} {e o : Expr} {es : List Expr} {ta : TE} {t : TA}
end
section
variable {σ : St} {H : Hp} {Q : VK} {K : PySem.W.Frag} {ta tv te : TE} {t : TA} {f m : Str} {nx bk ct : St → Hp → Prop} {rt : VK} {C a : Addr} {sp : Sp} {R : It → Hp → Prop}
end
end L2
set_option Elab.async false
set_option linter.all false
set_option maxRecDepth 100000
namespace L2
open PySem PySem.Spec PyProof.Rows
section
variable {σ : St} {H : Hp} {Q : VK} {K : PySem.W.Frag} {nx bk ct : St → Hp → Prop} {rt : VK} {p b : Addr} {g : TG} {tb : TS}
end
section
variable {X : Cx} (K : PySem.W.Frag) {o e value : Expr} {f : Str} {pos pos' tpos : Pos} {ta tv : TE}
end
section
variable {σ : St} {H : Hp} {K : PySem.W.Frag} {ta : TE} {QB : Bool → Hp → Prop} {p : Addr} {Q : VK}
end
structure ClsN (K : PySem.W.Frag) (C : Addr) (ks : List Str) : Prop where
  c : Cls K C
  n : ∀ k ∈ ks, NoAttr K C k
section
variable {H : Hp} {Q : VK} {K : PySem.W.Frag} {a C dx : Addr} {ks : List Str} {vs : List V} {k : Str} {v y : V} {nx : St → Hp → Prop} {σ : St}
end
end L2
set_option Elab.async false
set_option linter.all false
set_option maxRecDepth 100000
namespace L2
open PySem PySem.Spec PyProof.Rows
section
variable {X : Cx} {e st : Expr} {te : TE} {t3 : TO} {p2 pos : Pos}
end
section
variable {σ : St} {H : Hp} {Q : VK} {K : PySem.W.Frag} {te : TE} {t3 : TO} {p : Addr} {xs : List V} {ns : List Int}
end
end L2
set_option Elab.async false
set_option linter.all false
set_option maxRecDepth 100000
namespace L2
open PySem PySem.Spec PyProof.Rows
section
variable {prog : Program} {w : World} {A : Around} {E : Value → Shared → Prop} {s : Shared}
end
section
variable {prog : Program} {w : World} {A : Around} {E : Value → Shared → Prop} {s : Shared}
end
section
variable {K : PySem.W.Frag} {t : TA} {σ : List (Option V)} {H : Hp} {R : It → Hp → Prop}
end
end L2
set_option Elab.async false
set_option linter.all false
set_option maxRecDepth 100000
namespace L2
open PySem
section
variable {K : PySem.W.Frag} {σ : St} {H : Hp} {nx : St → Hp → Prop} {rt : VK} {bk ct : St → Hp → Prop} {tb : TS} {g : TG} {a b : Addr} {t : TA} {R : It → Hp → Prop}
theorem fq_zipL (xs ys : List V) (hlen : xs.length = ys.length) (Pv : Nat → St → Hp → Prop) (h0 : Pv 0 σ H) (hl : ∀ (i : Nat) (σ : St) (H : Hp), i ≤ xs.length → Pv i σ H → SqL K H a xs ∧ SqL K H b ys)
    (hs : ∀ (i : Nat) (x y : V) (σ : St) (H : Hp) (t : Addr), xs[i]? = some x → ys[i]? = some y → H t = none → Pv i σ H → g (.ref t) σ (upd H t (.tup [x, y])) fun σ2 H2 => tb ⟨Pv (i + 1), rt, nx, Pv (i + 1)⟩ σ2 H2) (hd : ∀ σ H, Pv xs.length σ H → nx σ H) :
    forQ (Itz K a b) g tb ⟨nx, rt, bk, ct⟩ σ H := by
  refine ⟨fun i m σ H => m = xs.length - i ∧ i ≤ xs.length ∧ Pv i σ H, ⟨_, rfl, Nat.zero_le _, h0⟩, ?_⟩
  rintro i m σ H ⟨rfl, hi, q⟩
  obtain ⟨sq, sq'⟩ := hl i σ H hi q
  by_cases lt : i < xs.length
  · refine .inr ⟨⟨xs, ys, xs[i], ys[i], sq, sq', List.getElem?_eq_getElem lt, List.getElem?_eq_getElem (by omega)⟩, Pv (i + 1), fun σ' H' q' => ⟨xs.length - (i + 1), by omega, rfl, lt, q'⟩, fun x H' y => ?_⟩
    obtain ⟨t, x', y', rfl, ht, rfl, hx, hy⟩ := y
    exact hs i x' y' σ H t (hx xs sq) (hy ys sq') ht q
  · have e : i = xs.length := by omega
    subst e
    exact .inl ⟨⟨xs, ys, sq, sq', .inl (Nat.le_refl _)⟩, hd σ H q⟩
def qZipL (K : PySem.W.Frag) (vs : List V) (H1 : Hp) (R : It → Hp → Prop) : Prop := ∃ a b xs ys, vs = [.ref a, .ref b] ∧ SqL K H1 a xs ∧ SqL K H1 b ys ∧ R (Itz K a b) H1
theorem go_zipL (h : t σ H fun vs H1 => qZipL K vs H1 R) : iZip K t σ H R := h
theorem go_qzipL {xs ys : List V} (h : SqL K H a xs) (h' : SqL K H b ys) (q : R (Itz K a b) H) : qZipL K [.ref a, .ref b] H R := ⟨a, b, xs, ys, rfl, h, h', q⟩
end
end L2
set_option Elab.async false
set_option linter.all false
namespace Lw
theorem lxLt_irr : ∀ a : List Int, lxLt a a = false
  | [] => rfl
  | x :: xs => by unfold lxLt; rw [if_pos rfl]; exact lxLt_irr xs
theorem lxLt_asy : ∀ {a b : List Int}, lxLt a b = true → lxLt b a = false
  | [], [], h => by cases h
  | [], _ :: _, _ => rfl
  | _ :: _, [], h => by cases h
  | x :: xs, y :: ys, h => by
    unfold lxLt at h ⊢
    by_cases e : x = y
    · subst e
      rw [if_pos rfl] at h ⊢
      exact lxLt_asy h
    · rw [if_neg e] at h
      have := of_decide_eq_true h
      rw [if_neg (fun z => e z.symm)]
      exact decide_eq_false (by omega)
theorem prLt_irr (a : Int × List Int) : prLt a a = false := by unfold prLt; rw [if_pos rfl]; exact lxLt_irr _
theorem prLt_asy {a b : Int × List Int} (h : prLt a b = true) : prLt b a = false := by
  unfold prLt at h ⊢
  by_cases e : a.1 = b.1
  · rw [if_pos e] at h
    rw [if_pos e.symm]
    exact lxLt_asy h
  · rw [if_neg e] at h
    have := of_decide_eq_true h
    rw [if_neg (fun z => e z.symm)]
    exact decide_eq_false (by omega)
theorem pr_le {a b : Int × List Int} (h : prLt a b = false) : b.1 ≤ a.1 := by
  unfold prLt at h
  by_cases e : a.1 = b.1
  · omega
  · rw [if_neg e] at h
    have := of_decide_eq_false h
    omega
theorem min_ex : ∀ (l : List (Int × List Int)), l ≠ [] → ∃ x ∈ l, ∀ y ∈ l, prLt y x = false
  | [], h => absurd rfl h
  | [a], _ => ⟨a, List.mem_cons_self, fun y hy => by cases List.mem_singleton.mp hy; exact prLt_irr _⟩
  | a :: b :: l, _ => by
    obtain ⟨x, hx, hl⟩ := min_ex (b :: l) (by simp)
    cases c : prLt a x with
    | false => exact ⟨x, List.mem_cons_of_mem _ hx, fun y hy => (List.mem_cons.mp hy).elim (fun e => e ▸ c) (hl y)⟩
    | true =>
      refine ⟨a, List.mem_cons_self, fun y hy => ?_⟩
      rcases List.mem_cons.mp hy with rfl | hy
      · exact prLt_irr _
      · exact prLt_neg (hl y hy) (prLt_asy c)
section
variable (W F : List Int) (p : Int)
theorem opt_ex : ∀ (g : Nat) (s : Int), (W.length : Int) - s ≤ g → ∃ x, Opt W F p s x := by
  intro g
  induction g with
  | zero =>
    intro s h
    obtain ⟨x, hx, hl⟩ := min_ex (chs W F p s (fun _ => (0, [])) 0) (by simp [chs])
    exact ⟨x, opt_step (B := fun _ => (0, [])) (.inr ⟨rfl, by omega⟩) (fun j hj => absurd hj (Nat.not_lt_zero j)) hx hl⟩
  | succ g ih =>
    intro s h
    have hB : ∀ j : Nat, ∃ x, j < ((W.length : Int) - (s + 1)).toNat → Opt W F p (s + 1 + j) x := fun j => by
      by_cases c : j < ((W.length : Int) - (s + 1)).toNat
      · obtain ⟨x, hx⟩ := ih (s + 1 + j) (by omega)
        exact ⟨x, fun _ => hx⟩
      · exact ⟨(0, []), fun z => absurd z c⟩
    obtain ⟨x, hx, hl⟩ := min_ex (chs W F p s (fun j => Classical.choose (hB j)) ((W.length : Int) - (s + 1)).toNat) (by
      intro e
      have := chs_length W F p s (fun j => Classical.choose (hB j)) ((W.length : Int) - (s + 1)).toNat
      rw [e] at this
      cases this)
    exact ⟨x, opt_step (B := fun j => Classical.choose (hB j)) (by omega) (fun j hj => Classical.choose_spec (hB j) hj) hx hl⟩
noncomputable def OO (s : Int) : Int × List Int := Classical.choose (opt_ex W F p ((W.length : Int) - s).toNat s (by omega))
theorem OO_is (s : Int) : Opt W F p s (OO W F p s) := Classical.choose_spec (opt_ex W F p ((W.length : Int) - s).toNat s (by omega))
end
section
variable {W F : List Int} {p s : Int}
theorem oo_end : (OO W F p s).1 ≤ againM W F s (W.length + 1) := pr_le ((OO_is W F p s).low [] (Adm.nil _ _))
theorem oo_at {m : Int} (h1 : s < m) (h2 : m < W.length) : (OO W F p s).1 ≤ againM W F s m + p + (OO W F p m).1 := by
  have o := OO_is W F p m
  have := pr_le ((OO_is W F p s).low (m :: (OO W F p m).2) (o.adm.cons h1 h2))
  rw [o.val]
  exact this
theorem oo_is : ((OO W F p s).1 = againM W F s (W.length + 1) ∧ (OO W F p s).2 = []) ∨ ∃ m r, (OO W F p s).2 = m :: r ∧ s < m ∧ m < W.length ∧ (OO W F p s).1 = againM W F s m + p + (OO W F p m).1 ∧ Cm W F p m r = (OO W F p m).1 ∧ Adm m W.length r := by
  have o := OO_is W F p s
  have hv := o.val
  have ha := o.adm
  cases e : (OO W F p s).2 with
  | nil =>
    rw [e] at hv
    exact .inl ⟨hv, rfl⟩
  | cons m r =>
    rw [e] at hv ha
    obtain ⟨h1, h2, h3⟩ := ha.tail
    have l1 := oo_at (F := F) (p := p) h2 h3
    have l2 := pr_le ((OO_is W F p m).low r h1)
    have hv' : (OO W F p s).1 = againM W F s m + p + Cm W F p m r := hv
    have l2' : (OO W F p m).1 ≤ Cm W F p m r := l2
    exact .inr ⟨m, r, rfl, h2, h3, by omega, by omega, h1⟩
noncomputable def minV (W F : List Int) (p s : Int) : Nat → Int
  | 0 => againM W F s (W.length + 1)
  | k + 1 => min (minV W F p s k) (againM W F s (s + 1 + k) + p + (OO W F p (s + 1 + k)).1)
theorem minV_ge : ∀ {k : Nat}, (k = 0 ∨ s + 1 + (k : Int) ≤ W.length) → (OO W F p s).1 ≤ minV W F p s k
  | 0, _ => oo_end
  | k + 1, h => by
    have h1 := minV_ge (k := k) (by omega)
    have h2 := oo_at (W := W) (F := F) (p := p) (s := s) (m := s + 1 + k) (by omega) (by omega)
    unfold minV
    omega
theorem minV_end : ∀ k : Nat, minV W F p s k ≤ againM W F s (W.length + 1)
  | 0 => Int.le_refl _
  | k + 1 => by have := minV_end k; unfold minV; omega
theorem minV_at {j : Nat} : ∀ {k : Nat}, j < k → minV W F p s k ≤ againM W F s (s + 1 + j) + p + (OO W F p (s + 1 + j)).1
  | 0, h => absurd h (Nat.not_lt_zero j)
  | k + 1, h => by
    unfold minV
    rcases Nat.lt_or_eq_of_le (Nat.le_of_lt_succ h) with c | c
    · have := minV_at (k := k) c; omega
    · subst c; omega
theorem minV_eq {k : Nat} (hk : (k : Int) = W.length - (s + 1) ∨ (k = 0 ∧ (W.length : Int) ≤ s + 1)) : minV W F p s k = (OO W F p s).1 := by
  have h1 := minV_ge (W := W) (F := F) (p := p) (s := s) (k := k) (by omega)
  have h2 := minV_end (W := W) (F := F) (p := p) (s := s) k
  rcases oo_is (W := W) (F := F) (p := p) (s := s) with ⟨e, _⟩ | ⟨m, r, _, m1, m2, e, _⟩
  · omega
  · have := minV_at (W := W) (F := F) (p := p) (s := s) (j := (m - (s + 1)).toNat) (k := k) (by omega)
    rw [show s + 1 + (((m - (s + 1)).toNat : Nat) : Int) = m by omega] at this
    omega
noncomputable def tie (W F : List Int) (p s : Int) (k : Nat) : List Int := ((List.range k).map fun j : Nat => s + 1 + (j : Int)).filter fun m => decide (againM W F s m + p + (OO W F p m).1 = (OO W F p s).1)
theorem tie_succ {k : Nat} : tie W F p s (k + 1) = tie W F p s k ++ if againM W F s (s + 1 + k) + p + (OO W F p (s + 1 + k)).1 = (OO W F p s).1 then [s + 1 + (k : Int)] else [] := by
  unfold tie
  rw [List.range_succ, List.map_append, List.filter_append]
  congr 1
  by_cases c : againM W F s (s + 1 + k) + p + (OO W F p (s + 1 + k)).1 = (OO W F p s).1
  · rw [if_pos c]; simp [c]
  · rw [if_neg c]; simp [c]
theorem gr_stop (h : ¬ (OO W F p s).1 < againM W F s (W.length + 1)) : (OO W F p s).2 = [] := by
  have h1 := oo_end (W := W) (F := F) (p := p) (s := s)
  have q := (OO_is W F p s).low [] (Adm.nil _ _)
  unfold prLt at q
  rw [if_pos (show (Cm W F p s [], ([] : List Int)).1 = (OO W F p s).1 by show againM W F s (W.length + 1) = _; omega)] at q
  cases e : (OO W F p s).2 with
  | nil => rfl
  | cons m r => rw [e] at q; cases q
theorem gr_step {k : Nat} (hk : (k : Int) = W.length - (s + 1) ∨ (k = 0 ∧ (W.length : Int) ≤ s + 1)) (h : (OO W F p s).1 < againM W F s (W.length + 1)) : ∃ m rest, tie W F p s k = m :: rest ∧ s < m ∧ m < W.length ∧ (OO W F p s).2 = m :: (OO W F p m).2 := by
  rcases oo_is (W := W) (F := F) (p := p) (s := s) with ⟨e, _⟩ | ⟨m, r, e2, m1, m2, e, ev, ar⟩
  · omega
  · have hm : m ∈ tie W F p s k := by
      unfold tie
      refine List.mem_filter.mpr ⟨List.mem_map.mpr ⟨(m - (s + 1)).toNat, List.mem_range.mpr (by omega), by omega⟩, decide_eq_true e.symm⟩
    have hp : (tie W F p s k).Pairwise (· < ·) := by
      unfold tie
      refine List.Pairwise.filter _ (List.pairwise_map.mpr ?_)
      exact List.pairwise_lt_range.imp fun h => by omega
    have hq : ∀ x ∈ tie W F p s k, s < x ∧ x < W.length ∧ againM W F s x + p + (OO W F p x).1 = (OO W F p s).1 := fun x hx => by
      unfold tie at hx
      obtain ⟨h1, h2⟩ := List.mem_filter.mp hx
      obtain ⟨j, hj, rfl⟩ := List.mem_map.mp h1
      have := List.mem_range.mp hj
      exact ⟨by omega, by omega, of_decide_eq_true h2⟩
    cases et : tie W F p s k with
    | nil => rw [et] at hm; cases hm
    | cons m0 rest =>
      rw [et] at hm hp
      obtain ⟨q1, q2, q3⟩ := hq m0 (by rw [et]; exact List.mem_cons_self)
      have o0 := OO_is W F p m0
      have low := (OO_is W F p s).low (m0 :: (OO W F p m0).2) (o0.adm.cons q1 q2)
      have ec : Cm W F p s (m0 :: (OO W F p m0).2) = (OO W F p s).1 := by
        show againM W F s m0 + p + Cm W F p m0 (OO W F p m0).2 = _
        rw [← o0.val]
        exact q3
      unfold prLt at low
      rw [if_pos ec, e2] at low
      have hle : m0 ≤ m := by
        rcases List.mem_cons.mp hm with h1 | h1
        · omega
        · have := (List.pairwise_cons.mp hp).1 m h1; omega
      have low' : lxLt (m0 :: (OO W F p m0).2) (m :: r) = false := low
      unfold lxLt at low'
      have em : m0 = m := by
        by_cases c : m0 = m
        · exact c
        · rw [if_neg c] at low'
          have := of_decide_eq_false low'
          omega
      subst em
      rw [if_pos rfl] at low'
      have l2 := o0.low r ar
      unfold prLt at l2
      rw [if_pos (show (Cm W F p m0 r, r).1 = (OO W F p m0).1 from ev)] at l2
      have er : r = (OO W F p m0).2 := lxLt_tot l2 low'
      exact ⟨m0, rest, rfl, q1, q2, by rw [e2, er]⟩
theorem seg_nn (h : ∀ x ∈ W, 0 ≤ x) (a b : Int) : 0 ≤ seg W a b := by
  unfold seg
  have : ∀ l : List Int, (∀ x ∈ l, 0 ≤ x) → 0 ≤ l.sum := by
    intro l
    induction l with
    | nil => intro _; exact Int.le_refl _
    | cons x l ih =>
      intro hl
      rw [List.sum_cons]
      have := hl x List.mem_cons_self
      have := ih fun y hy => hl y (List.mem_cons_of_mem _ hy)
      omega
  exact this _ fun x hx => h x (List.mem_of_mem_drop (List.mem_of_mem_take hx))
theorem again_drop (h : ∀ x ∈ W, 0 ≤ x) (s e : Int) : againM W (F.drop 1) s e ≤ againM W F s e := by
  cases F with
  | nil => exact Int.le_refl _
  | cons f F =>
    show againM W F s e ≤ againM W (f :: F) s e
    unfold againM
    rw [List.filter_cons]
    split
    · rw [List.map_cons, List.sum_cons]
      have := seg_nn h s f
      omega
    · exact Int.le_refl _
theorem Cm_drop (h : ∀ x ∈ W, 0 ≤ x) : ∀ (ms : List Int) (s : Int), Cm W (F.drop 1) p s ms ≤ Cm W F p s ms
  | [], s => again_drop h _ _
  | m :: r, s => by
    have h1 := again_drop (F := F) h s m
    have h2 := Cm_drop h r m
    unfold Cm
    omega
theorem Cm_price : ∀ (ms : List Int) (s : Int), Cm W F (p - 1) s ms ≤ Cm W F p s ms
  | [], s => Int.le_refl _
  | m :: r, s => by
    have h2 := Cm_price r m
    unfold Cm
    omega
theorem opt_drop {x y : Int × List Int} (h : ∀ x ∈ W, 0 ≤ x) (o : Opt W F p 0 x) (o' : Opt W (F.drop 1) p 0 y) : y.1 ≤ x.1 := by
  have l1 := pr_le (o'.low x.2 o.adm)
  have l2 := Cm_drop (F := F) (p := p) h x.2 0
  have := o.val
  have l1' : y.1 ≤ Cm W (F.drop 1) p 0 x.2 := l1
  omega
theorem opt_price {x y : Int × List Int} (o : Opt W F p 0 x) (o' : Opt W F (p - 1) 0 y) : y.1 ≤ x.1 := by
  have l1 := pr_le (o'.low x.2 o.adm)
  have l2 := Cm_price (W := W) (F := F) (p := p) x.2 0
  have := o.val
  have l1' : y.1 ≤ Cm W F (p - 1) 0 x.2 := l1
  omega
end
end Lw
set_option Elab.async false
set_option linter.all false
set_option maxRecDepth 100000
namespace L2
open PySem PySem.Spec PyProof.Rows
section
variable {X : Cx}
def rNeNil : R2 := fun x y H Q => ∃ a b xs, x = .ref a ∧ y = .ref b ∧ H a = some (.lst xs) ∧ H b = some (.lst []) ∧ Q (.bl (!xs.isEmpty)) H
theorem op_neNil (hu : X.A.units + 1 < cLine) : OpR X (compareOp .NotEq) rNeNil := by
  intro pins s σ H x y v u Q I rx ry h
  obtain ⟨a, b, xs, rfl, rfl, ha, hb, q⟩ := h
  cases rx; cases ry
  obtain ⟨its, rv, p1, _⟩ := I.list (SqL.of ha)
  obtain ⟨its2, rv2, p2, _⟩ := I.list (SqL.of hb)
  cases rv2
  cases xs with
  | nil =>
    cases rv
    exact SeqAt.RcNeAt.lists (e := fun _ => true) p1.isList p2.isList rfl (by omega) (fun j h1 h2 => absurd h1 (Nat.not_lt_zero j)) _ _ _ _ ⟨.bl false, H, I, rfl, q⟩
  | cons z zs =>
    cases rv
    exact SeqAt.RcNeAt.lists_lengths p1.isList p2.isList (by simp) (by omega) _ _ _ _ ⟨.bl true, H, I, rfl, q⟩
end
section
variable {H : Hp} {Q : VK} {a b : Addr} {xs : List V} {kvs : List (Key × V)} {y : V}
theorem go_neNilC {x : V} (ha : H a = some (.lst (x :: xs))) (hb : H b = some (.lst [])) (q : Q (.bl true) H) : rNeNil (.ref a) (.ref b) H Q := ⟨a, b, x :: xs, rfl, rfl, ha, hb, q⟩
theorem go_neNilE (ha : H a = some (.lst [])) (hb : H b = some (.lst [])) (q : Q (.bl false) H) : rNeNil (.ref a) (.ref b) H Q := ⟨a, b, [], rfl, rfl, ha, hb, q⟩
end
end L2
set_option Elab.async false
set_option linter.all false
set_option maxRecDepth 100000
namespace Lw
open PySem L2
def Rise (xs : Array Nat) : Prop := xs.toList.Pairwise (· < ·)
theorem Rise.lt {xs : Array Nat} (h : Rise xs) {i k : Nat} (hik : i < k) (hk : k < xs.size) : xs[i]'(Nat.lt_trans hik hk) < xs[k] := by
  have := List.pairwise_iff_getElem.mp h i k (by simpa using Nat.lt_trans hik hk) (by simpa using hk) hik
  simpa using this
theorem below_go {xs : Array Nat} {j : Nat} (h : Rise xs) : ∀ (fuel lo hi : Nat), hi - lo ≤ fuel → lo ≤ hi → hi ≤ xs.size → (∀ i (hi' : i < xs.size), i < lo → xs[i] < j) → (∀ i (hi' : i < xs.size), hi ≤ i → j ≤ xs[i]) →
    SetTable.below.go xs j fuel lo hi ≤ xs.size ∧ (∀ i (hi' : i < xs.size), i < SetTable.below.go xs j fuel lo hi → xs[i] < j) ∧ (∀ i (hi' : i < xs.size), SetTable.below.go xs j fuel lo hi ≤ i → j ≤ xs[i]) := by
  intro fuel
  induction fuel with
  | zero =>
    intro lo hi h1 h2 h3 h4 h5
    have e : lo = hi := by omega
    subst e
    exact ⟨h3, h4, h5⟩
  | succ fuel ih =>
    intro lo hi h1 h2 h3 h4 h5
    unfold SetTable.below.go
    by_cases c : lo < hi
    · rw [if_pos c]
      have hm : (lo + hi) / 2 < xs.size := by omega
      have hg : xs.getD ((lo + hi) / 2) j = xs[(lo + hi) / 2] := by simp [Array.getD, hm]
      show (if xs.getD ((lo + hi) / 2) j < j then _ else _) ≤ _ ∧ (∀ i (hi' : i < xs.size), i < (if xs.getD ((lo + hi) / 2) j < j then _ else _) → _) ∧ (∀ i (hi' : i < xs.size), (if xs.getD ((lo + hi) / 2) j < j then _ else _) ≤ i → _)
      rw [hg]
      by_cases d : xs[(lo + hi) / 2] < j
      · rw [if_pos d]
        refine ih _ _ (by omega) (by omega) h3 (fun i hi' hl => ?_) h5
        rcases Nat.lt_or_eq_of_le (Nat.le_of_lt_succ hl) with e | e
        · exact Nat.lt_trans (h.lt e hm) d
        · subst e; exact d
      · rw [if_neg d]
        refine ih _ _ (by omega) (by omega) (by omega) h4 (fun i hi' hl => ?_)
        rcases Nat.lt_or_eq_of_le hl with e | e
        · exact Nat.le_trans (Nat.le_of_not_lt d) (Nat.le_of_lt (h.lt e hi'))
        · subst e; exact Nat.le_of_not_lt d
    · rw [if_neg c]
      have e : lo = hi := by omega
      subst e
      exact ⟨h3, h4, h5⟩
theorem below_spec {xs : Array Nat} {j : Nat} (h : Rise xs) : SetTable.below xs j ≤ xs.size ∧ (∀ i (hi' : i < xs.size), i < SetTable.below xs j → xs[i] < j) ∧ (∀ i (hi' : i < xs.size), SetTable.below xs j ≤ i → j ≤ xs[i]) :=
  below_go h _ _ _ (by omega) (Nat.zero_le _) (Nat.le_refl _) (fun i _ z => absurd z (Nat.not_lt_zero i)) (fun i hi' z => absurd hi' (Nat.not_lt.mpr z))
theorem below_next {xs : Array Nat} (h : Rise xs) {i : Nat} (hi : i < xs.size) : SetTable.below xs (xs[i] + 1) = i + 1 := by
  obtain ⟨h1, h2, h3⟩ := below_spec (j := xs[i] + 1) h
  rcases Nat.lt_trichotomy (SetTable.below xs (xs[i] + 1)) (i + 1) with c | c | c
  · have := h3 i hi (by omega); omega
  · exact c
  · have h4 : i + 1 < xs.size := by omega
    have := h2 (i + 1) h4 (by omega)
    have := h.lt (show i < i + 1 by omega) h4
    omega
theorem below_zero {xs : Array Nat} (h : Rise xs) : SetTable.below xs 0 = 0 := by
  obtain ⟨h1, h2, h3⟩ := below_spec (j := 0) h
  rcases Nat.eq_zero_or_pos (SetTable.below xs 0) with c | c
  · exact c
  · exact absurd (h2 0 (by omega) c) (Nat.not_lt_zero _)
theorem not_live {t : SetTable} {j : Nat} (h : Rise t.place) (hs : ∀ i, t.slot j ≠ .live i) : j ∉ t.place.toList := by
  intro hm
  obtain ⟨k, hk, e⟩ := List.getElem_of_mem hm
  have hk' : k < t.place.size := by simpa using hk
  have e' : t.place[k] = j := by simpa using e
  obtain ⟨h1, h2, h3⟩ := below_spec (j := j) h
  have hb : SetTable.below t.place j = k := by
    rcases Nat.lt_trichotomy (SetTable.below t.place j) k with c | c | c
    · have a := h3 _ (Nat.lt_trans c hk') (Nat.le_refl _)
      have b := h.lt c hk'
      omega
    · exact c
    · have := h2 k hk' c; omega
  refine hs k ?_
  unfold SetTable.slot
  simp [hb, hk', e']
theorem rise_put {t : SetTable} {j : Nat} (h : Rise t.place) (hn : j ∉ t.place.toList) : Rise (t.put j).1.place := by
  obtain ⟨h1, h2, h3⟩ := below_spec (j := j) h
  show Rise (SetTable.insertAt t.place (SetTable.below t.place j) j)
  unfold Rise
  rw [SetTable.toList_insertAt]
  have hlt : ∀ x ∈ t.place.toList.take (SetTable.below t.place j), x < j := fun x hx => by
    obtain ⟨i, hi, e⟩ := List.getElem_of_mem hx
    rw [List.length_take] at hi
    rw [List.getElem_take] at e
    have := h2 i (by simp at hi; omega) (by omega)
    simp at e; omega
  have hgt : ∀ x ∈ t.place.toList.drop (SetTable.below t.place j), j < x := fun x hx => by
    obtain ⟨i, hi, e⟩ := List.getElem_of_mem hx
    rw [List.length_drop] at hi
    rw [List.getElem_drop] at e
    have := h3 (SetTable.below t.place j + i) (by simp at hi; omega) (by omega)
    simp at e
    have hne : x ≠ j := fun z => hn (by rw [← z]; exact List.mem_of_mem_drop hx)
    omega
  have hp := h
  unfold Rise at hp
  rw [← List.take_append_drop (SetTable.below t.place j) t.place.toList] at hp
  obtain ⟨p1, p2, p3⟩ := List.pairwise_append.mp hp
  exact List.pairwise_append.mpr ⟨p1, List.pairwise_cons.mpr ⟨hgt, p2⟩, fun x hx y hy => by
      rcases List.mem_cons.mp hy with rfl | hy
      · exact hlt x hx
      · exact p3 x hx y hy⟩
theorem probe_free {t : SetTable} {f : Nat → Int} {h : Int} : ∀ (fuel : Nat) (p : SetTable.Probe), (∀ d, p.dummy = some d → t.slot d = .dummy) → ∀ j d, SetTable.probe.go t f h fuel p = some (.empty j d) → t.slot j = .empty ∧ ∀ d', d = some d' → t.slot d' = .dummy := by
  intro fuel
  induction fuel with
  | zero => intro p hp j d e; cases e
  | succ fuel ih =>
    intro p hp j d e
    unfold SetTable.probe.go at e
    have adv : ∀ q : SetTable.Probe, (t.advance q).dummy = q.dummy := fun q => by unfold SetTable.advance; split <;> rfl
    cases hs : t.slot p.j with
    | empty => rw [hs] at e; cases e; exact ⟨hs, hp⟩
    | dummy =>
      rw [hs] at e
      refine ih _ (fun d' hd => ?_) j d e
      rw [adv] at hd
      cases hd; exact hs
    | live i =>
      rw [hs] at e
      dsimp only at e
      split at e
      · cases e
      · exact ih _ (fun d' hd => hp d' (by rw [adv] at hd; exact hd)) j d e
theorem freeSlot_free {t : SetTable} {h : Int} {j : Nat} {b : Bool} (e : t.freeSlot h = some (j, b)) : ∀ i, t.slot j ≠ .live i := by
  unfold SetTable.freeSlot at e
  split at e
  · rename_i j' d hp
    obtain ⟨h1, h2⟩ := probe_free _ _ (fun d hd => by cases hd) j' d hp
    cases d with
    | none => cases e; intro i z; rw [show (none : Option Nat).getD j' = j' from rfl, h1] at z; cases z
    | some d' => cases e; intro i z; rw [show (some d').getD j' = d' from rfl, h2 d' rfl] at z; cases z
  · cases e
theorem fm_fst {f : Nat → Option Nat} : ∀ l : List Nat, (l.filterMap fun j => (f j).map (j, ·)).map (·.1) = l.filter fun j => (f j).isSome
  | [] => rfl
  | x :: l => by
    cases e : f x with
    | none => simp [e, fm_fst l]
    | some y => simp [e, fm_fst l]
def Tab (bt : Bool) (t : SetTable) : Prop := bt = true ∨ (t.led = true ∧ (t.plain = true → Rise t.place))
theorem tab_standIn {bt : Bool} {t : SetTable} {n : Nat} (h : Tab bt t) : Tab bt (t.standIn n) := h.imp id fun h => ⟨h.1, fun z => by cases z⟩
theorem tab_off {bt : Bool} {t : SetTable} (h : Tab bt t) : Tab bt { t with plain := false } := h.imp id fun h => ⟨h.1, fun z => by cases z⟩
theorem tab_layNew {bt : Bool} {t : SetTable} {es : Array (Int × Value)} {h : Int} {x : Value} (T : Tab bt t) : Tab bt (layNew t es h x).2.1 := by
  unfold layNew
  cases e : t.freeSlot h with
  | none => exact tab_standIn T
  | some q =>
    obtain ⟨j, b⟩ := q
    show Tab bt ((t.put j).1.orStandIn _)
    have T' : Tab bt (t.put j).1 := T.imp id fun T => ⟨T.1, fun z => rise_put (T.2 z) (not_live (T.2 z) (freeSlot_free e))⟩
    unfold SetTable.orStandIn
    split
    · exact T'
    · exact tab_standIn T'
theorem tab_relay {bt : Bool} {t : SetTable} {es : Array (Int × Value)} {n : Nat} (T : Tab bt t) : Tab bt (relayAll t es n).2.1 := by
  unfold relayAll
  cases e : t.relaid (es.map (·.1)) n with
  | none => exact tab_standIn T
  | some q =>
    obtain ⟨t', o⟩ := q
    dsimp only
    split
    · refine T.imp id fun T => ?_
      unfold SetTable.relaid SetTable.laid at e
      cases e2 : SetTable.layClean (SetTable.sizeAbove n - 1) (es.map (·.1)) with
      | none => rw [e2] at e; cases e
      | some ow =>
        rw [e2] at e
        cases e
        refine ⟨T.1, fun _ => ?_⟩
        unfold Rise
        show ((List.filterMap (fun j => (ow.getD j none).map (j, ·)) (List.range (SetTable.sizeAbove n - 1 + 1))).map (·.1)).toArray.toList.Pairwise (· < ·)
        rw [List.toList_toArray, fm_fst]
        exact List.pairwise_lt_range.filter _
    · exact tab_standIn T
section
variable {prog : Program} {w : World} {A : Around} {E : Value → Shared → Prop} {s : Shared}
def SetT (prog : Program) (w : World) (h : Heap) (a : Addr) (S : Int → Bool) (n : Nat) : Prop :=
  ∃ o es ep t, h.get? a = some o ∧ o.ExactSet ∧ o.data = .set es ep t ∧ ElemsOf (intKind prog w) es.toList ∧ (∀ k, S k = true ↔ ∃ e ∈ es.toList, (intKind prog w).is k e.2 = true) ∧ es.size < scanBound ∧ t.fits es.size = true ∧ es.size = n ∧ Tab (w.params.followText "set-order") t
theorem SetT.at {h h' : Heap} {a : Addr} {S : Int → Bool} {n : Nat} (x : SetT prog w h a S n) (k : ∀ o, h.get? a = some o → h'.get? a = some o) : SetT prog w h' a S n := by
  obtain ⟨o, es, ep, t, ho, r⟩ := x
  exact ⟨o, es, ep, t, k _ ho, r⟩
theorem SetT.congr {h : Heap} {a : Addr} {S S' : Int → Bool} {n n' : Nat} (x : SetT prog w h a S n) (e : ∀ k, S k = S' k) (en : n = n') : SetT prog w h a S' n' := by
  obtain rfl : S = S' := funext e
  subst en; exact x
theorem add_tail {g : Bool → Sem Unit} (hg : ∀ (b : Bool) (s₁ : Shared) (Q' : Unit → Shared → Prop), Q' () s₁ → wpAny (model prog w) A (g b) Q' E s₁) {a : Addr} {o : Obj} {es : Array (Int × Value)} {ep : Nat} {t : SetTable} (ho : s.heap.get? a = some o) (hex : o.ExactSet) (hd : o.data = .set es ep t)
    {es1 : Array (Int × Value)} {t2 : SetTable} {S' : Int → Bool} (hel1 : ElemsOf (intKind prog w) es1.toList) (hmem1 : ∀ k', S' k' = true ↔ ∃ e ∈ es1.toList, (intKind prog w).is k' e.2 = true)
    (hb1 : es1.size < scanBound) (hf2 : t2.fits es1.size = true) (T2 : Tab (w.params.followText "set-order") t2) {wasDummy : Bool} {R : Option Bool → Shared → Prop}
    (h : ∀ h', Heap.SameBut a s.heap h' → SetT prog w h' a S' es1.size → R (some true) { s with heap := h' }) :
    wpAny (model prog w) A (do
        storeSet a es1 t2
        if (!wasDummy && t2.tooFull) = true then do
            g (relayAll t2 es1 (SetTable.grown es1.size)).2.2
            storeSet a (relayAll t2 es1 (SetTable.grown es1.size)).1 (relayAll t2 es1 (SetTable.grown es1.size)).2.1
            pure (some true)
          else pure (some true)) R E s := by
  refine wpAny_bind (wpAny_storeSet_of ho hd ?_ (fits_of_scanBound hb1))
  have ho1 := (SetOf_store (knd := intKind prog w) ho hex hd hel1 hmem1 hb1 hf2).1
  have hsb1 := Heap.SameBut.update s.heap a (Obj.putSet es1 t2)
  split
  · have hp := relayAll_perm t2 es1 (SetTable.grown es1.size)
    have hfr := relayAll_fits t2 es1 (SetTable.grown es1.size)
    have hT := tab_relay (es := es1) (n := SetTable.grown es1.size) T2
    generalize relayAll t2 es1 (SetTable.grown es1.size) = Rl at hp hfr hT ⊢
    obtain ⟨es2, t3, gave2⟩ := Rl
    dsimp only at hp hfr hT ⊢
    have hsz : es2.size = es1.size := by rw [← Array.length_toList, hp.length_eq, Array.length_toList]
    have hm2 : ∀ k', S' k' = true ↔ ∃ e ∈ es2.toList, (intKind prog w).is k' e.2 = true := fun k' => (hmem1 k').trans ⟨fun ⟨e, he, q⟩ => ⟨e, hp.mem_iff.mpr he, q⟩, fun ⟨e, he, q⟩ => ⟨e, hp.mem_iff.mp he, q⟩⟩
    refine wpAny_bind (hg _ _ _ ?_)
    refine wpAny_bind (wpAny_storeSet_of ho1 rfl ?_ (fits_of_scanBound (by omega)))
    have ho2 := (SetOf_store (knd := intKind prog w) ho1 hex rfl (hel1.perm hp) hm2 (by omega) hfr).1
    exact wpAny_pure (h _ (hsb1.trans (Heap.SameBut.update _ a _)) ⟨_, es2, _, t3, ho2, hex, rfl, hel1.perm hp, hm2, by omega, hfr, hsz, hT⟩)
  · exact wpAny_pure (h _ hsb1 ⟨_, es1, _, t2, ho1, hex, rfl, hel1, hmem1, hb1, hf2, rfl, T2⟩)
theorem add_T {a : Addr} {S : Int → Bool} {n : Nat} {k : Int} {x : Value} {Q : Bool → Shared → Prop} (hkey : (intKind prog w).is k x = true) (hsc : x.scannable = true) (hS : SetT prog w s.heap a S n) (hroom : n + 1 < scanBound)
    (h : ∀ h', Heap.SameBut a s.heap h' → SetT prog w h' a (fun k' => S k' || decide (k' = k)) (if S k then n else n + 1) → Q (!S k) { s with heap := h' }) :
    wpAny (model prog w) A (setAddHashed a x ((intKind prog w).hash k)) Q E s := by
  obtain ⟨o, es, ep, t, ho, hex, hd, hel, hmem, hb, hf, hn, T⟩ := hS
  unfold setAddHashed setAddHashedIn
  refine wpAny_holding (wpAny_bind (wpAny_setState_of ho hd hf ?_))
  dsimp only
  rw [byScan_of hsc hb hel]
  simp only [↓reduceIte]
  unfold setAddByScan
  refine wpAny_bind ?_
  refine wpAny_bind (wpAny_rule ?_)
  refine wpAny_bind (wpAny_setScan_of hkey ho hd hf hel ?_)
  cases hr : List.findIdx? (fun e => (intKind prog w).is k e.2) es.toList with
  | some j =>
    dsimp only
    obtain ⟨hj, hpj, _⟩ := List.findIdx?_eq_some_iff_getElem.mp hr
    have hSk : S k = true := (hmem k).mpr ⟨es.toList[j], List.getElem_mem hj, hpj⟩
    refine wpAny_pure (wpAny_pure ?_)
    have q := h s.heap (Heap.SameBut.refl a s.heap) (SetT.congr ⟨o, es, ep, t, ho, hex, hd, hel, hmem, hb, hf, hn, T⟩ (fun k' => by
      by_cases e : k' = k
      · subst e; rw [hSk]; rfl
      · simp [e]) (by rw [hSk]; rfl))
    rw [hSk] at q
    exact q
  | none =>
    dsimp only
    have hSk : S k = false := by
      cases hk : S k with
      | false => rfl
      | true => obtain ⟨e, he, hp⟩ := (hmem k).mp hk; have := List.findIdx?_eq_none_iff.mp hr e he; rw [hp] at this; exact Bool.noConfusion this
    have hperm := layNew_perm t es ((intKind prog w).hash k) x
    have hfits := layNew_fits t es ((intKind prog w).hash k) x
    have hT := tab_layNew (es := es) (h := (intKind prog w).hash k) (x := x) T
    generalize layNew t es ((intKind prog w).hash k) x = L at hperm hfits hT ⊢
    obtain ⟨es1, t1, wasDummy, gave⟩ := L
    dsimp only at hperm hfits hT ⊢
    rw [Array.toList_push] at hperm
    have hel1 : ElemsOf (intKind prog w) es1.toList := (hel.push hkey hsc).perm hperm
    have hmem1 : ∀ k', (S k' || decide (k' = k)) = true ↔ ∃ e ∈ es1.toList, (intKind prog w).is k' e.2 = true := mem_push_iff hkey hmem hperm
    have hsz1 : es1.size = n + 1 := by rw [← Array.length_toList, hperm.length_eq, List.length_append, Array.length_toList, hn]; rfl
    have hg : ∀ (b : Bool) (s₁ : Shared) (Q' : Unit → Shared → Prop), Q' () s₁ → wpAny (model prog w) A (match b with | true => rule "set.scan.the-table-gave-way" | false => pure ()) Q' E s₁ := fun b s₁ Q' hq => by cases b <;> first | exact wpAny_pure hq | exact wpAny_rule hq
    have hend : ∀ h', Heap.SameBut a s.heap h' → SetT prog w h' a (fun k' => S k' || decide (k' = k)) es1.size → Q true { s with heap := h' } := fun h' hsb hS' => by
      have q := h h' hsb
      rw [hSk] at q
      rw [hsz1] at hS'
      exact q hS'
    refine wpAny_bind (hg _ _ _ ?_)
    split
    · refine wpAny_bind ?_
      rw [hashByValue_scannable 8 hsc]
      refine wpAny_pure ?_
      refine add_tail ?_ ho hex hd hel1 hmem1 (by omega) ?_ ?_ ?_
      · exact fun b s₁ Q' hq => by cases b <;> first | exact wpAny_pure hq | exact wpAny_rule hq
      · split
        · exact hfits
        · exact SetTable.fits_plain_off hfits
      · split
        · exact hT
        · exact tab_off hT
      · intro h' hsb hS'; dsimp only; exact wpAny_pure (hend h' hsb hS')
    · refine wpAny_bind (wpAny_pure ?_)
      simp only [↓reduceIte]
      refine add_tail ?_ ho hex hd hel1 hmem1 (by omega) hfits hT ?_
      · exact fun b s₁ Q' hq => by cases b <;> first | exact wpAny_pure hq | exact wpAny_rule hq
      · intro h' hsb hS'; dsimp only; exact wpAny_pure (hend h' hsb hS')
def set0 (w : World) : Obj := { cls := .type "set", dict := none, data := .set #[] 0 (.fresh 0 0 (!(w.params.followText "set-order"))) }
theorem set0_T {h : Heap} {a : Addr} (ho : h.get? a = some (set0 w)) : SetT prog w h a (fun _ => false) 0 := by
  refine ⟨_, #[], 0, _, ho, ⟨rfl, rfl, rfl⟩, rfl, fun e he => by simp at he, fun k => by simp, by decide, by rfl, rfl, ?_⟩
  cases hb : w.params.followText "set-order" with
  | true => exact .inl rfl
  | false => exact .inr ⟨rfl, fun _ => List.Pairwise.nil⟩
theorem new_T (a : Value) {Q₁ : Value → Shared → Prop} (h : Q₁ (.ref s.heap.objs.size) { s with heap := s.heap.push (set0 w) }) :
    codeAny (model prog w) A (.call (.builtin "set.__new__") ⟨[.type "set", a], []⟩) (wants Q₁ E) s := by
  refine codeAny_of_tree ?_
  show wpAny _ A.in1 (do checkBuiltinCall "set.__new__" ⟨[.type "set", a], []⟩; again (.builtin "set.__new__" ⟨[.type "set", a], []⟩)) _ _ s
  refine wpAny_bind (wpAny_of_eq (F.newCall_set_1 a) (wpAny_pure ⟨plainId_quiet F.plain_set_new _, codeAny_builtin F.entry_set_new ?_⟩))
  rw [Around.under_plainId F.plain_set_new _]
  unfold Builtin.«set.__new__» Builtin.Frozenset.newClass
  have hsub := sub_set_self
  obtain ⟨hp, g, d, tk, os⟩ := s
  dsimp only
  wp_walk
  refine wpAny_askSetting (wpAny_pure ?_)
  dsimp only
  simp only [newObj]
  refine wpAny_bind (wpAny_alloc (wpAny_pure ?_))
  exact wpAny_pure h
section
open PyProof.Rows
variable {R : Result → Shared → Prop} {I : Addr} {fp wr : List Addr} {G : Array GenState → Array GenState → Prop} {n : Nat} {P : Nat → Value → Prop} {St : Nat → Shared → Prop}
theorem loop_T (W : WalksS prog w A.in1 I fp wr G n P St) (S : Addr) (hSf : S ∉ fp) (val : Nat → Int) (hval : ∀ i v, P i v → ∃ t, v = .int (val i) t) (hb : n + 1 < scanBound) :
    ∀ (k i : Nat) (s : Shared), n - i = k → i ≤ n → St i s → SetT prog w s.heap S (fun k' => (firstMet val i).any (· == k')) (firstMet val i).length →
      (∀ s', Moved (S :: wr) G s s' → SetT prog w s'.heap S (fun k' => (firstMet val n).any (· == k')) (firstMet val n).length → R (.ok (.ret .none)) s') →
      codeAny (model prog w) A (.builtin "set.update.loop" ⟨[.ref S, .ref I], []⟩) R s := by
  have hSw : S ∉ wr := fun h => hSf (W.sub _ h)
  have hsub : ∀ b ∈ wr, b ∈ S :: wr := fun b hb => List.mem_cons_of_mem _ hb
  intro k
  induction k with
  | zero =>
    intro i s hk hi hst hS hR
    obtain rfl : i = n := by omega
    refine codeAny_builtin F.entry_set_update_loop ?_
    rw [Around.under_plainId F.plain_set_update_loop _]
    show wpAny _ A.in1 (pyNext (.ref I) >>= _) _ _ s
    refine wpAny_bind (W.done s _ _ hst fun s' hm => ?_)
    show wpAny _ A.in1 (ret Value.none) _ _ s'
    exact wpAny_pure (hR s' (hm.mono hsub) (hS.at fun o e => hm.heap S _ hSw e))
  | succ k ih =>
    intro i s hk hi hst hS hR
    have hlt : i < n := by omega
    refine codeAny_builtin F.entry_set_update_loop ?_
    rw [Around.under_plainId F.plain_set_update_loop _]
    show wpAny _ A.in1 (pyNext (.ref I) >>= _) _ _ s
    refine wpAny_bind (W.item i s _ _ hlt hst fun v s' hP hst' hm => ?_)
    obtain ⟨t, rfl⟩ := hval i v hP
    have hS' := hS.at fun o e => hm.heap S _ hSw e
    show wpAny _ A.in1 (holding [Value.int (val i) t] (setAdd S (.int (val i) t)) >>= _) _ _ s'
    refine wpAny_bind (wpAny_holding ?_)
    unfold setAdd
    refine wpAny_holding ?_
    refine wpAny_bind ((intKind prog w).pyHash (k := val i) (intKind_is _ _ _ _) ?_)
    have hroom : (firstMet val i).length + 1 < scanBound := by have := firstMet_length_le val i; omega
    refine add_T (s := { s' with toks := s'.toks + 1 }) (intKind_is _ _ _ _) rfl hS' hroom fun h' hsb hS2 => ?_
    have hSi := hS2.congr (S' := fun k' => (firstMet val (i + 1)).any (· == k')) (n' := (firstMet val (i + 1)).length) (fun k' => by rw [firstMet_succ, step_any]) (by rw [firstMet_succ, step_length])
    refine wpAny_pure ⟨plainId_quiet F.plain_set_update_loop _, ih (i + 1) _ (by omega) hlt (W.frame _ s' _ _ hst' (Nat.le_succ _) fun b hb o e => ?_) hSi fun s'' hm'' hS'' => ?_⟩
    · rw [hsb.2 b (fun h : b = S => hSf (by rw [← h]; exact hb))]; exact e
    · refine hR s'' (Moved.trans W.gtrans ((hm.mono hsub).then_heap (Nat.le_succ _) fun b o hb e => ?_) hm'') hS''
      rw [hsb.2 b (fun h : b = S => hb (by rw [h]; exact List.mem_cons_self))]; exact e
set_option maxHeartbeats 3200000 in
theorem call_T {l : Addr} {items : Array Value} {ns : List Int} {Q : Value → Shared → Prop} (hh : A.handled = none) (hl : s.heap.IsList l items) (hi : IntsAre items.toList ns) (hb : items.size + 1 < scanBound)
    (h : ∀ (h' : Heap) (tk : Nat), SetT prog w h' s.heap.objs.size (fun k' => (firstMet (fun i => ns.getD i 0) items.size).any (· == k')) (firstMet (fun i => ns.getD i 0) items.size).length →
      (∀ b o, b < s.heap.objs.size → s.heap.get? b = some o → h'.get? b = some o) → Q (.ref s.heap.objs.size) { s with heap := h', toks := tk }) :
    wpAny (model prog w) A (call (.type "set") [.ref l]) Q E s := by
  obtain ⟨c, tl, hmro⟩ := F.called_set.mro
  have hmade := F.called_set.made
  have hsub := F.called_set.sub
  refine wpAny_call (codeAny_of_tree ?_)
  show wpAny _ _ (callAny (.type "set") _) _ _ _
  refine wpAny_pure ⟨Code.quiet_builtin _ (by decide +kernel), codeAny_builtin F.entry_type_call ?_⟩
  rw [Around.under_plain (weight_type_call_type "set" [.ref l] []) rfl]
  have h1 := F.called_set.notType
  have h2 := F.called_set.canCreate
  have hct := F.typeCall_set_1 (.ref l)
  repeat (any_goals (first | assumption | wp_step))
  refine codeAny_mono (new_T (.ref l) (E := E) (Q₁ := fun obj s₁ => obj = .ref s.heap.objs.size ∧ s₁ = { s with heap := s.heap.push (set0 w) }) ⟨rfl, rfl⟩) fun r s₁ hr => ?_
  cases r with
  | error e => exact hr
  | ok fl =>
    cases fl with
    | ret obj =>
      obtain ⟨rfl, rfl⟩ := hr
      have hS : (s.heap.push (set0 w)).get? s.heap.objs.size = some (set0 w) := Heap.get?_push_size _ rfl
      have hT : Shared.TypeIs { s with heap := s.heap.push (set0 w) } (.ref s.heap.objs.size) "set" := ⟨_, hS, rfl⟩
      have hli := F.called_set.init.lookup
      have hbi := F.called_set.init.bind (.ref s.heap.objs.size)
      repeat (any_goals (first | assumption | wp_step))
      refine codeAny_mono (codeAny_call_builtin (R := wants (fun r s₂ => r = .none ∧ ∃ h' tk, s₂ = { s with heap := h', toks := tk } ∧
          SetT prog w h' s.heap.objs.size (fun k' => (firstMet (fun i => ns.getD i 0) items.size).any (· == k')) (firstMet (fun i => ns.getD i 0) items.size).length ∧
          (∀ b o, b < s.heap.objs.size → s.heap.get? b = some o → h'.get? b = some o)) E) F.called_set.init.plain F.entry_set_init (check_set_init_1 hT ?_)) fun r₂ s₂ hr₂ => ?_
      · obtain ⟨ol, hol, hcl, nl, hdl⟩ := hl
        obtain ⟨ocls, odict, odata, oslots⟩ := ol
        simp only at hcl hdl
        subst hcl; subst hdl
        have hol' : (s.heap.push (set0 w)).get? l = some { cls := .type "list", dict := odict, data := .seq items nl, slots := oslots } := Heap.get?_push_of_some _ hol
        have hsls := F.sub_list_set
        have hslf := F.sub_list_frozenset
        have hne : (Value.type "list" == Value.type "dict") = false := by decide
        have hl1 : (s.heap.push (set0 w)).IsList l items := ⟨_, hol', rfl, nl, rfl⟩
        unfold Builtin.«set.__init__» noKeywords Builtin.Frozenset.updateFrom
        generalize hPI : pyIter = PI
        wp_walk
        subst hPI
        refine wpAny_pyIter_list hl1 ?_
        refine wpAny_bind (wpAny_runValue ?_)
        have hlS : l < s.heap.objs.size := Heap.lt_size hol
        have hh3 : A.in1.in1.in1.handled = none := by simp [hh]
        have hneI : l ≠ (s.heap.push (set0 w)).objs.size := by rw [Heap.size_push]; exact Nat.ne_of_lt (Nat.lt_succ_of_lt hlS)
        have hSf : s.heap.objs.size ∉ [(s.heap.push (set0 w)).objs.size, l] := by
          rw [Heap.size_push]; simp only [List.mem_cons, List.mem_singleton, List.not_mem_nil, or_false, not_or]
          exact ⟨Nat.ne_of_lt (Nat.lt_succ_self _), Nat.ne_of_gt hlS⟩
        have hval : ∀ (i : Nat) (v : Value), items[i]? = some v → ∃ t, v = .int ((fun i => ns.getD i 0) i) t := fun i v hv => IntsAre.int_at hi i v (by rw [Array.getElem?_toList]; exact hv)
        refine loop_T ((Walks.list hh3 _ l hneI items).toS) s.heap.objs.size hSf (fun i => ns.getD i 0) hval hb (items.size - 0) 0 _ (by omega) (Nat.zero_le _) ⟨⟨_, Heap.get?_push_size _ rfl, rfl, rfl⟩, (hl1.push _)⟩ ?hS0 ?hR
        case hS0 => exact (set0_T (Heap.get?_push_of_some _ hS)).congr (fun _ => rfl) rfl
        case hR =>
          intro s' hm hS'
          obtain ⟨h', g', d', tk', os'⟩ := s'
          obtain rfl : g' = s.gens := hm.gens
          obtain rfl : d' = s.drawn := hm.drawn
          obtain rfl : os' = s.os := hm.os
          show wpAny _ _ _ _ _ _
          refine wpAny_pure ?_
          show wpAny _ _ (ret Value.none) _ _ _
          refine wpAny_pure ⟨rfl, h', tk', rfl, hS', fun b o hb e => ?_⟩
          have hb1 : b ≠ s.heap.objs.size := Nat.ne_of_lt hb
          have hb2 : b ≠ (s.heap.push (set0 w)).objs.size := by rw [Heap.size_push]; exact Nat.ne_of_lt (Nat.lt_succ_of_lt hb)
          exact hm.heap b o (by simp only [List.mem_cons, List.mem_singleton, List.not_mem_nil, or_false, not_or]; exact ⟨hb1, hb2⟩) (Heap.get?_push_of_some _ (Heap.get?_push_of_some _ e))
      · cases r₂ with
        | error e => exact hr₂
        | ok fl₂ =>
          cases fl₂ with
          | ret r =>
            obtain ⟨rfl, h', tk, rfl, hS', hk'⟩ := hr₂
            repeat (any_goals (first | assumption | wp_step))
            exact h _ _ hS' hk'
          | _ => exact hr₂.elim
    | _ => exact hr.elim
end
end
end Lw
set_option Elab.async false
set_option linter.all false
set_option maxRecDepth 100000
namespace Lw
open PySem L2
section
theorem own_setit : Manifest.owners.lookup (String.ofList ['r', 'o', 't', 'a', 'r', 'e', 't', 'i', '_', 't', 'e', 's'].reverse) = some Manifest.sig_set_iterator := by kernel_rfl
theorem slot_setit_next : Slot "set_iterator" "__next__" "set_iterator.__next__" :=
  .of (owner := "set_iterator") (n := "__next__") (by rw [typeLookup_type, builtinLookup_eq_fast]; kernel_rfl) (by decide +kernel) (by decide +kernel) (by decide +kernel) (by first | exact .inl (by decide +kernel) | exact .inr (by decide +kernel)) (by rw [isSubtype_type]; kernel_rfl)
theorem entry_setit_next : entryFor table "set_iterator.__next__" = some Builtin.«set_iterator.__next__» := entryFor_of_tree (by kernel_rfl)
theorem args_setit_next (a : Value) : argsOk "set_iterator.__next__" ⟨[a], []⟩ := by
  unfold argsOk; rw [signature?_of (id := "set_iterator.__next__") (n := ['_', '_', 't', 'x', 'e', 'n', '_', '_']) (o := ['r', 'o', 't', 'a', 'r', 'e', 't', 'i', '_', 't', 'e', 's']) (by kernel_rfl) own_setit]; kernel_rfl
theorem slot_setit_iter : Slot "set_iterator" "__iter__" "set_iterator.__iter__" :=
  .of (owner := "set_iterator") (n := "__iter__") (by rw [typeLookup_type, builtinLookup_eq_fast]; kernel_rfl) (by decide +kernel) (by decide +kernel) (by decide +kernel) (by first | exact .inl (by decide +kernel) | exact .inr (by decide +kernel)) (by rw [isSubtype_type]; kernel_rfl)
theorem entry_setit_iter : entryFor table "set_iterator.__iter__" = some Builtin.«dict_keyiterator.__iter__» := entryFor_alias (id' := "dict_keyiterator.__iter__") (by kernel_rfl) rfl (by decide +kernel) (by kernel_rfl)
theorem args_setit_iter (a : Value) : argsOk "set_iterator.__iter__" ⟨[a], []⟩ := by
  unfold argsOk; rw [signature?_of (id := "set_iterator.__iter__") (n := ['_', '_', 'r', 'e', 't', 'i', '_', '_']) (o := ['r', 'o', 't', 'a', 'r', 'e', 't', 'i', '_', 't', 'e', 's']) (by kernel_rfl) own_setit]; kernel_rfl
theorem entry_set_iter : entryFor table "set.__iter__" = some Builtin.«frozenset.__iter__» := entryFor_alias (id' := "frozenset.__iter__") (by kernel_rfl) rfl (by decide +kernel) (by kernel_rfl)
end
section
variable {prog : Program} {w : World} {A : Around} {E : Value → Shared → Prop} {s : Shared}
theorem any_choose {src : Source} {n : Nat} {Q : Nat → Shared → Prop} (hn : n ≠ 0) (h : ∀ i, i < n → Q i { s with drawn := s.drawn.bump src }) : wpAny (model prog w) A (choose src n) Q E s := fun Γ p hΓ => by
  unfold choose
  rw [Sem.wp_choose]
  exact ⟨hn, h _ (Nat.mod_lt _ (Nat.pos_of_ne_zero hn))⟩
theorem perm_erase {α : Type} : ∀ (xs : List α) (i : Nat) (h : i < xs.length), (xs[i] :: xs.eraseIdx i).Perm xs
  | [], i, h => absurd h (Nat.not_lt_zero i)
  | x :: xs, 0, h => List.Perm.refl _
  | x :: xs, i + 1, h => ((List.Perm.swap x _ _)).trans ((perm_erase xs i (Nat.lt_of_succ_lt_succ h)).cons x)
theorem any_draw {α : Type} {E : Value → Shared → Prop} : ∀ (n : Nat) (xs : List α) (s : Shared) (Q : List α → Shared → Prop), xs.length = n → (∀ ys d, ys.Perm xs → Q ys { s with drawn := d }) → wpAny (model prog w) A (drawOrder n xs) Q E s
  | 0, [], s, Q, _, h => by unfold drawOrder; exact wpAny_pure (h [] s.drawn (List.Perm.refl _))
  | 0, _ :: _, s, Q, e, h => by cases e
  | n + 1, [], s, Q, e, h => by cases e
  | n + 1, x :: xs, s, Q, e, h => by
    unfold drawOrder
    refine wpAny_bind (any_choose (by rw [e]; exact Nat.succ_ne_zero n) fun i hi => ?_)
    rw [List.getElem?_eq_getElem hi]
    dsimp only
    refine wpAny_bind (any_draw n _ _ _ (by rw [List.length_eraseIdx_of_lt hi, e]; rfl) fun ys d hp => ?_)
    exact wpAny_pure (h _ _ ((hp.cons _).trans (perm_erase _ _ hi)))
def ItAt (h : Heap) (I a : Addr) (first : Value) (i n ep : Nat) : Prop := ∃ o, h.get? I = some o ∧ o.cls = .type "set_iterator" ∧ o.data = .fields #[first, .int i 0, .ref a, .int n 0, .int ep 0]
theorem ItAt.type {I a : Addr} {first : Value} {i n ep : Nat} (x : ItAt s.heap I a first i n ep) : s.TypeIs (.ref I) "set_iterator" := let ⟨o, ho, hc, _⟩ := x; ⟨o, ho, hc⟩
theorem ItAt.at {h h' : Heap} {I a : Addr} {first : Value} {i n ep : Nat} (x : ItAt h I a first i n ep) (k : ∀ o, h.get? I = some o → h'.get? I = some o) : ItAt h' I a first i n ep := let ⟨o, ho, r⟩ := x; ⟨o, k _ ho, r⟩
theorem it_self {I a : Addr} {first : Value} {i n ep : Nat} {Q : Value → Shared → Prop} (hit : ItAt s.heap I a first i n ep) (h : Q (.ref I) s) : wpAny (model prog w) A (pyIter (.ref I)) Q E s := by
  refine wpAny_pyIter_slot hit.type slot_setit_iter (wpAny_call_entry slot_setit_iter hit.type entry_setit_iter ?_ (args_setit_iter _))
  show wpAny _ _ (ret (.ref I)) _ _ s
  exact wpAny_pure ⟨_, rfl, "set_iterator", _, hit.type, slot_setit_next.lookup, h⟩
theorem it_item {I a : Addr} {sl i n ep : Nat} {o : Obj} {es : Array (Int × Value)} {t : SetTable} {x : Value} {sl' : Nat} {Q : Option Value → Shared → Prop} (hit : ItAt s.heap I a (.int sl 0) i n ep) (ho : s.heap.get? a = some o) (hd : o.data = .set es ep t) (hf : t.fits es.size = true) (hn : es.size = n)
    (hx : ∀ (A : Around) (E : Value → Shared → Prop) (Q : Option (Value × Nat) → Shared → Prop), Q (some (x, sl')) s → wpAny (model prog w) A (setNext a sl i ep) Q E s)
    (hQ : ∀ h', ItAt h' I a (.int sl' 0) (i + 1) n ep → Heap.SameBut I s.heap h' → Q (some x) { s with heap := h' }) : wpAny (model prog w) A (pyNext (.ref I)) Q E s := by
  obtain ⟨oi, hoi, hc, hdi⟩ := id hit
  unfold pyNext
  refine wpAny_bind (wpAny_attempt (wpAny_callSpecial?_slot (name := Str.ofString "__next__") hit.type slot_setit_next (wpAny_call_entry slot_setit_next hit.type entry_setit_next ?_ (args_setit_next _))))
  show wpAny _ _ (fieldsOf (.ref I) >>= _) _ _ s
  refine wpAny_bind (wpAny_fieldsOf hoi hdi ?_)
  show wpAny _ _ (setEntries a >>= _) _ _ s
  refine wpAny_bind (wpAny_setEntries_of ho hd hf ?_)
  rw [if_neg (by rw [hn]; simp)]
  show wpAny _ _ (setNext a (Int.toNat sl) (Int.toNat i) (Int.toNat ep) >>= _) _ _ s
  simp only [Int.toNat_natCast]
  refine wpAny_bind (hx _ _ _ ?_)
  show wpAny _ _ (setField (.ref I) 0 (rawInt sl') >>= _) _ _ s
  refine wpAny_bind (wpAny_setField hoi hdi (by simp) ?_)
  have g1 := Heap.get?_update_self (Obj.mapFields (·.setIfInBounds 0 (rawInt (sl' : Int)))) hoi (Obj.isFreed_of_fields (Obj.data_mapFields hdi _))
  have d1 : (Obj.mapFields (·.setIfInBounds 0 (rawInt (sl' : Int))) oi).data = .fields #[.int sl' 0, .int i 0, .ref a, .int n 0, .int ep 0] := by rw [Obj.data_mapFields hdi]; simp [rawInt]
  refine wpAny_bind (wpAny_setField g1 d1 (by simp) ?_)
  show wpAny _ _ (ret x) _ _ _
  refine wpAny_pure ⟨x, rfl, wpAny_pure (hQ _ ?_ ((Heap.SameBut.update ..).trans (Heap.SameBut.update ..)))⟩
  exact ⟨_, Heap.get?_update_self _ g1 (Obj.isFreed_of_fields (Obj.data_mapFields d1 _)), (Obj.cls_mapFields ..).trans ((Obj.cls_mapFields ..).trans hc), by rw [Obj.data_mapFields d1]; simp [rawInt]⟩
theorem stop_T {I : Addr} {o : Obj} {vs : Array Value} {Q : Option Value → Shared → Prop} (hh : A.handled = none) (ho : s.heap.get? I = some o) (hd : o.data = .fields vs) (h2 : 2 < vs.size)
    (hQ : ∀ h', Heap.ExtBut I s.heap h' → Q none { s with heap := h' }) :
    wpAny (model prog w) A.in1 (do setField (.ref I) 2 .none; raiseNew (← newExc (.type "StopIteration") []) : Sem Fin) (fun fin s' => ∃ v, fin = Fin.done (Flow.ret v) ∧ wpAny (model prog w) A (pure (some v)) Q E s')
      (fun e s' => wpAny (model prog w) A (do if ← isInstance e (.type "StopIteration") then pure none else throw e) Q E s') s := by
  refine wpAny_bind (wpAny_setField ho hd h2 ?_)
  refine wpAny_bind ?_
  simp only [newExc, newTuple]
  refine wpAny_bind (wpAny_newObj_type ?_ (by size_fits))
  refine wpAny_bind (m := firstArgMember _ _) (wpAny_of_eq (a := Value.none) (by first | rfl | (simp only [firstArgMember]; rfl)) ?_)
  refine wpAny_newObj_type ?_ (by size_fits)
  simp only [raiseNew]
  refine wpAny_bind (wpAny_handled ?_)
  rw [show A.in1.handled = none from hh]
  refine wpAny_bind (wpAny_pure (wpAny_throw ?_))
  refine wpAny_bind (wpAny_isInstance (T := "StopIteration") (b := true) ⟨_, Heap.get?_push_size _ rfl, rfl⟩ isSubtype_stop ?_)
  exact wpAny_pure (hQ _ (((Heap.SameBut.update ..).extBut.push _).push _))
theorem it_end {I a : Addr} {sl i n ep : Nat} {o : Obj} {es : Array (Int × Value)} {t : SetTable} {Q : Option Value → Shared → Prop} (hh : A.handled = none) (hit : ItAt s.heap I a (.int sl 0) i n ep) (ho : s.heap.get? a = some o) (hd : o.data = .set es ep t) (hf : t.fits es.size = true) (hn : es.size = n)
    (hx : ∀ (A : Around) (E : Value → Shared → Prop) (Q : Option (Value × Nat) → Shared → Prop), Q none s → wpAny (model prog w) A (setNext a sl i ep) Q E s)
    (hQ : ∀ h', Heap.ExtBut I s.heap h' → Q none { s with heap := h' }) : wpAny (model prog w) A (pyNext (.ref I)) Q E s := by
  obtain ⟨oi, hoi, hc, hdi⟩ := id hit
  unfold pyNext
  refine wpAny_bind (wpAny_attempt (wpAny_callSpecial?_slot (name := Str.ofString "__next__") hit.type slot_setit_next (wpAny_call_entry slot_setit_next hit.type entry_setit_next ?_ (args_setit_next _))))
  show wpAny _ _ (fieldsOf (.ref I) >>= _) _ _ s
  refine wpAny_bind (wpAny_fieldsOf hoi hdi ?_)
  show wpAny _ _ (setEntries a >>= _) _ _ s
  refine wpAny_bind (wpAny_setEntries_of ho hd hf ?_)
  rw [if_neg (by rw [hn]; simp)]
  show wpAny _ _ (setNext a (Int.toNat sl) (Int.toNat i) (Int.toNat ep) >>= _) _ _ s
  simp only [Int.toNat_natCast]
  refine wpAny_bind (hx _ _ _ ?_)
  exact stop_T hh hoi hdi (by simp) hQ
theorem it_itemD {I a tp : Addr} {i n ep : Nat} {o ot : Obj} {es : Array (Int × Value)} {t : SetTable} {pl : Array Value} {c q : Nat} {u : Tok} {x : Int × Value} {Q : Option Value → Shared → Prop} (hit : ItAt s.heap I a (.ref tp) i n ep) (ho : s.heap.get? a = some o) (hd : o.data = .set es ep t) (hf : t.fits es.size = true) (hn : es.size = n)
    (hot : s.heap.get? tp = some ot) (hdt : ot.data = .seq pl c) (hq : pl[i]? = some (.int q u)) (hx : es[q]? = some x)
    (hQ : ∀ h', ItAt h' I a (.ref tp) (i + 1) n ep → Heap.SameBut I s.heap h' → Q (some x.2) { s with heap := h' }) : wpAny (model prog w) A (pyNext (.ref I)) Q E s := by
  obtain ⟨oi, hoi, hc, hdi⟩ := id hit
  unfold pyNext
  refine wpAny_bind (wpAny_attempt (wpAny_callSpecial?_slot (name := Str.ofString "__next__") hit.type slot_setit_next (wpAny_call_entry slot_setit_next hit.type entry_setit_next ?_ (args_setit_next _))))
  show wpAny _ _ (fieldsOf (.ref I) >>= _) _ _ s
  refine wpAny_bind (wpAny_fieldsOf hoi hdi ?_)
  show wpAny _ _ (setEntries a >>= _) _ _ s
  refine wpAny_bind (wpAny_setEntries_of ho hd hf ?_)
  rw [if_neg (by rw [hn]; simp)]
  show wpAny _ _ (seqItems? (.ref tp) >>= _) _ _ s
  refine wpAny_bind (wpAny_seqItems hot hdt ?_)
  simp only [Int.toNat_natCast, hq]
  refine wpAny_bind ?_
  unfold setNextDrawn
  refine wpAny_bind (wpAny_setState_of ho hd hf ?_)
  simp only [Int.toNat_natCast, bne_self_eq_false, Bool.false_eq_true, if_false, hx]
  refine wpAny_pure ?_
  refine wpAny_bind (wpAny_setField hoi hdi (by simp) ?_)
  refine wpAny_pure ⟨_, rfl, wpAny_pure (hQ _ ?_ (Heap.SameBut.update ..))⟩
  exact ⟨_, Heap.get?_update_self _ hoi (Obj.isFreed_of_fields (Obj.data_mapFields hdi _)), (Obj.cls_mapFields ..).trans hc, by rw [Obj.data_mapFields hdi]; simp [rawInt]⟩
theorem it_endD {I a tp : Addr} {i n ep : Nat} {o ot : Obj} {es : Array (Int × Value)} {t : SetTable} {pl : Array Value} {c : Nat} {Q : Option Value → Shared → Prop} (hh : A.handled = none) (hit : ItAt s.heap I a (.ref tp) i n ep) (ho : s.heap.get? a = some o) (hd : o.data = .set es ep t) (hf : t.fits es.size = true) (hn : es.size = n)
    (hot : s.heap.get? tp = some ot) (hdt : ot.data = .seq pl c) (hq : pl[i]? = none)
    (hQ : ∀ h', Heap.ExtBut I s.heap h' → Q none { s with heap := h' }) : wpAny (model prog w) A (pyNext (.ref I)) Q E s := by
  obtain ⟨oi, hoi, hc, hdi⟩ := id hit
  unfold pyNext
  refine wpAny_bind (wpAny_attempt (wpAny_callSpecial?_slot (name := Str.ofString "__next__") hit.type slot_setit_next (wpAny_call_entry slot_setit_next hit.type entry_setit_next ?_ (args_setit_next _))))
  show wpAny _ _ (fieldsOf (.ref I) >>= _) _ _ s
  refine wpAny_bind (wpAny_fieldsOf hoi hdi ?_)
  show wpAny _ _ (setEntries a >>= _) _ _ s
  refine wpAny_bind (wpAny_setEntries_of ho hd hf ?_)
  rw [if_neg (by rw [hn]; simp)]
  show wpAny _ _ (seqItems? (.ref tp) >>= _) _ _ s
  refine wpAny_bind (wpAny_seqItems hot hdt ?_)
  simp only [Int.toNat_natCast, hq]
  refine wpAny_bind (wpAny_setField hoi hdi (by simp) ?_)
  have g1 := Heap.get?_update_self (Obj.mapFields (·.setIfInBounds 0 (rawInt (0 : Int)))) hoi (Obj.isFreed_of_fields (Obj.data_mapFields hdi _))
  refine stop_T (s := { s with heap := _ }) hh g1 (Obj.data_mapFields hdi _) (by simp) (fun h' hx => hQ h' fun b ob hb e => hx b ob hb ?_)
  rw [Heap.get?_update_ne _ _ _ _ hb]
  exact e
theorem pick_perm {α : Type} {f : Nat → Nat} : ∀ (n k : Nat) (left : List α) (out : Array α), left.length = n → (pickOrder.go f n k left out).toList.Perm (out.toList ++ left)
  | 0, k, [], out, _ => by unfold pickOrder.go; rw [List.append_nil]
  | 0, k, _ :: _, out, e => by cases e
  | n + 1, k, [], out, e => by cases e
  | n + 1, k, x :: xs, out, e => by
    have hlt : f k % (x :: xs).length < (x :: xs).length := Nat.mod_lt _ (Nat.succ_pos _)
    unfold pickOrder.go
    rw [List.getElem?_eq_getElem hlt]
    dsimp only
    refine (pick_perm n (k + 1) _ _ (by rw [List.length_eraseIdx_of_lt hlt, e]; rfl)).trans ?_
    rw [Array.toList_push, List.append_assoc]
    exact List.Perm.append_left _ (perm_erase _ _ hlt)
theorem pickOrder_perm {α : Type} {f : Nat → Nat} {xs : Array α} : (pickOrder f xs).toList.Perm xs.toList := by
  unfold pickOrder
  have := pick_perm (f := f) xs.size 0 xs.toList #[] (by simp)
  simpa using this
theorem next_text {a : Addr} {o : Obj} {es : Array (Int × Value)} {ep : Nat} {t : SetTable} {sl i : Nat} {Q : Option (Value × Nat) → Shared → Prop} (hb : w.params.followText "set-order" = true) (ho : s.heap.get? a = some o) (hd : o.data = .set es ep t) (hf : t.fits es.size = true)
    (h : Q (((pickOrder (w.params.setOrder a ep) es)[i]?).map fun e => (e.2, sl)) s) : wpAny (model prog w) A (setNext a sl i ep) Q E s := by
  unfold setNext
  refine wpAny_bind (wpAny_setState_of ho hd hf ?_)
  unfold setsByText
  refine wpAny_bind (wpAny_bind (wpAny_askSetting (wpAny_pure ?_)))
  rw [show (model prog w).w.params.followText "set-order" = true from hb]
  simp only [if_true, bne_self_eq_false, Bool.false_eq_true, if_false]
  unfold setWalk
  refine wpAny_bind (wpAny_bind (wpAny_setState_of ho hd hf ?_))
  unfold setsByText
  refine wpAny_bind (wpAny_bind (wpAny_askSetting (wpAny_pure ?_)))
  rw [show (model prog w).w.params.followText "set-order" = true from hb]
  simp only [if_true]
  refine wpAny_bind (wpAny_askSetting (wpAny_pure ?_))
  exact wpAny_pure h
theorem next_place {a : Addr} {o : Obj} {es : Array (Int × Value)} {ep : Nat} {t : SetTable} {sl i : Nat} {Q : Option (Value × Nat) → Shared → Prop} (hb : w.params.followText "set-order" = false) (hl : t.led = true) (hp : (!t.plain && decide (es.size > 1)) = false) (ho : s.heap.get? a = some o) (hd : o.data = .set es ep t) (hf : t.fits es.size = true)
    (hi : SetTable.below t.place sl = i)
    (h : Q (match es[i]?, t.place[i]? with | some (_, x), some j => some (x, j + 1) | _, _ => none) s) : wpAny (model prog w) A (setNext a sl i ep) Q E s := by
  unfold setNext
  refine wpAny_bind (wpAny_setState_of ho hd hf ?_)
  unfold setsByText
  refine wpAny_bind (wpAny_bind (wpAny_askSetting (wpAny_pure ?_)))
  rw [show (model prog w).w.params.followText "set-order" = false from hb]
  simp only [Bool.false_eq_true, if_false]
  rw [if_neg (by show ¬ (!t.plain && decide (es.size > 1)) = true; rw [hp]; decide)]
  refine wpAny_bind ?_
  show wpAny _ _ (if (!t.led && !es.isEmpty) = true then unsupported "set:maker-not-led" else pure ()) _ _ _
  rw [hl, if_neg (by simp)]
  refine wpAny_pure ?_
  subst hi
  exact wpAny_pure h
theorem iter_T {a : Addr} {o : Obj} {es : Array (Int × Value)} {ep : Nat} {t : SetTable} {Q : Value → Shared → Prop} (ho : s.heap.get? a = some o) (hex : o.ExactSet) (hd : o.data = .set es ep t) (hf : t.fits es.size = true) (hz : es.size < scanBound)
    (h1 : (w.params.followText "set-order" = true ∨ (!t.plain && decide (es.size > 1)) = false) → Q (.ref s.heap.objs.size) { s with heap := s.heap.push { cls := .type "set_iterator", data := .fields #[.int 0 0, .int 0 0, .ref a, .int es.size 0, .int ep 0] } })
    (h2 : ∀ (ys : List Nat) d, ys.Perm (List.range es.size) → Q (.ref (s.heap.objs.size + 1)) { s with drawn := d, heap := (s.heap.push { cls := .type "tuple", data := .seq (ys.map fun i : Nat => rawInt (i : Int)).toArray }).push { cls := .type "set_iterator", data := .fields #[.ref s.heap.objs.size, .int 0 0, .ref a, .int es.size 0, .int ep 0] } }) :
    wpAny (model prog w) A (pyIter (.ref a)) Q E s := by
  have hT : s.TypeIs (.ref a) "set" := ⟨o, ho, hex.1⟩
  refine wpAny_pyIter_slot hT F.slot_set_iter (wpAny_call_entry F.slot_set_iter hT entry_set_iter ?_ (F.args_set_iter_1 _))
  unfold Builtin.«frozenset.__iter__»
  show wpAny _ _ (Builtin.Frozenset.sizeOf a >>= _) _ _ s
  unfold Builtin.Frozenset.sizeOf
  refine wpAny_bind (wpAny_bind (wpAny_setEntries_of ho hd hf (wpAny_pure ?_)))
  refine wpAny_bind ?_
  unfold setDrawn
  refine wpAny_bind (wpAny_setState_of ho hd hf ?_)
  unfold setsByText
  refine wpAny_bind (wpAny_bind (wpAny_askSetting (wpAny_pure ?_)))
  refine wpAny_pure ?_
  by_cases c : w.params.followText "set-order" = true ∨ (!t.plain && decide (es.size > 1)) = false
  · rw [if_neg (by
      show ¬ (!(w.params.followText "set-order") && (!t.plain && decide (es.size > 1))) = true
      rcases c with c | c
      · rw [c]; simp
      · rw [c, Bool.and_false]; decide)]
    refine wpAny_bind (wpAny_pure ?_)
    refine wpAny_bind (wpAny_setEpoch_of ho hd hf ?_)
    refine wpAny_bind (wpAny_newObj_type (wpAny_pure ⟨_, rfl, "set_iterator", _, ⟨_, Heap.get?_push_size _ rfl, rfl⟩, slot_setit_next.lookup, ?_⟩))
    simpa [rawInt] using h1 c
  · rw [if_pos (by
      show (!(w.params.followText "set-order") && (!t.plain && decide (es.size > 1))) = true
      cases q1 : w.params.followText "set-order" with
      | true => exact absurd (.inl q1) c
      | false => cases q2 : (!t.plain && decide (es.size > 1)) with
        | true => rfl
        | false => exact absurd (.inr q2) c)]
    refine wpAny_bind ?_
    refine any_draw _ _ _ _ (by simp) fun ys d hp => ?_
    refine wpAny_bind (m := newTuple _) ?_
    simp only [newTuple]
    refine wpAny_newObj_type ?_ (by
      have := hp.length_eq
      rw [List.length_range] at this
      show (List.map (fun i : Nat => rawInt (i : Int)) ys).toArray.size ≤ sizeLine
      rw [List.size_toArray, List.length_map, this]
      exact fits_of_scanBound hz)
    refine wpAny_bind (wpAny_setEpoch_of (s := { s with drawn := d, heap := _ }) (Heap.get?_push_of_some _ ho) hd hf ?_)
    refine wpAny_bind (wpAny_newObj_type (wpAny_pure ⟨_, rfl, "set_iterator", _, ⟨_, Heap.get?_push_size _ rfl, rfl⟩, slot_setit_next.lookup, ?_⟩))
    have q := h2 ys d hp
    rw [← Heap.size_push s.heap { cls := .type "tuple", data := .seq (ys.map fun i : Nat => rawInt (i : Int)).toArray }] at q
    simpa [rawInt] using q
theorem walk_I (hh : A.handled = none) {I a : Addr} (hne : a ≠ I) {o : Obj} {es : Array (Int × Value)} {ep : Nat} {t : SetTable} (hd : o.data = .set es ep t) (hf : t.fits es.size = true) (vs : List Value) (F : Nat → Nat → Prop)
    (step : ∀ i sl, F i sl → i < vs.length → ∃ x sl', vs[i]? = some x ∧ F (i + 1) sl' ∧ ∀ (s : Shared) (A : Around) (E : Value → Shared → Prop) (Q : Option (Value × Nat) → Shared → Prop), s.heap.get? a = some o → Q (some (x, sl')) s → wpAny (model prog w) A (setNext a sl i ep) Q E s)
    (fin : ∀ sl, F vs.length sl → ∀ (s : Shared) (A : Around) (E : Value → Shared → Prop) (Q : Option (Value × Nat) → Shared → Prop), s.heap.get? a = some o → Q none s → wpAny (model prog w) A (setNext a sl vs.length ep) Q E s)
    (hn : es.size = vs.length) : Walks prog w A I [I, a] [I] vs.length (fun i v => vs[i]? = some v) (fun i h => h.get? a = some o ∧ ∃ sl, F i sl ∧ ItAt h I a (.int sl 0) i vs.length ep) where
  sub := fun b hb => by simp at hb; simp [hb]
  frame := fun _ _ _ st hk => by
    obtain ⟨h1, sl, h2, h3⟩ := st
    exact ⟨hk a (by simp) _ h1, sl, h2, h3.at fun o e => hk I (by simp) o e⟩
  item := fun i s Q E hi st hQ => by
    obtain ⟨h1, sl, h2, h3⟩ := st
    obtain ⟨x, sl', e1, e2, e3⟩ := step i sl h2 hi
    refine it_item h3 h1 hd hf hn (fun A E Q q => e3 s A E Q h1 q) fun h' hit hs => ?_
    exact hQ _ h' s.toks e1 ⟨hs.extBut a o hne h1, sl', e2, hit⟩ fun b ob hb e => hs.extBut b ob (fun h => hb (by simp [h])) e
  done := fun s Q E st hQ => by
    obtain ⟨h1, sl, h2, h3⟩ := st
    exact it_end hh h3 h1 hd hf hn (fun A E Q q => fin sl h2 s A E Q h1 q) fun h' he => hQ h' s.toks fun b ob hb e => he b ob (fun h => hb (by simp [h])) e
  self := fun _ _ _ _ st hQ => by
    obtain ⟨h1, sl, h2, h3⟩ := st
    exact it_self h3 hQ
theorem walk_D (hh : A.handled = none) {I a tp : Addr} (hne : a ≠ I) (hnt : tp ≠ I) {o ot : Obj} {es : Array (Int × Value)} {ep : Nat} {t : SetTable} (hd : o.data = .set es ep t) (hf : t.fits es.size = true) {ys : List Nat} {c : Nat} (hdt : ot.data = .seq (ys.map fun i : Nat => rawInt (i : Int)).toArray c) (hy : ys.Perm (List.range es.size)) :
    Walks prog w A I [I, a, tp] [I] es.size (fun i v => ∃ q x, ys[i]? = some q ∧ es[q]? = some x ∧ v = x.2) (fun i h => h.get? a = some o ∧ h.get? tp = some ot ∧ ItAt h I a (.ref tp) i es.size ep) where
  sub := fun b hb => by simp at hb; simp [hb]
  frame := fun _ _ _ st hk => ⟨hk a (by simp) _ st.1, hk tp (by simp) _ st.2.1, st.2.2.at fun o e => hk I (by simp) o e⟩
  item := fun i s Q E hi st hQ => by
    have hl : i < ys.length := by rw [hy.length_eq, List.length_range]; exact hi
    have hm : ys[i] < es.size := List.mem_range.mp (hy.mem_iff.mp (List.getElem_mem hl))
    have e1 : ys[i]? = some ys[i] := List.getElem?_eq_getElem hl
    have e2 : es[ys[i]]? = some es[ys[i]] := by simp [hm]
    refine it_itemD (q := ys[i]) (u := 0) st.2.2 st.1 hd hf rfl st.2.1 hdt (by simp [hl, rawInt]) e2 fun h' hit hs => ?_
    exact hQ _ h' s.toks ⟨_, _, e1, e2, rfl⟩ ⟨hs.extBut a o hne st.1, hs.extBut tp ot hnt st.2.1, hit⟩ fun b ob hb e => hs.extBut b ob (fun h => hb (by simp [h])) e
  done := fun s Q E st hQ => it_endD hh st.2.2 st.1 hd hf rfl st.2.1 hdt (by simp [hy.length_eq]) fun h' he => hQ h' s.toks fun b ob hb e => he b ob (fun h => hb (by simp [h])) e
  self := fun _ _ _ _ st hQ => it_self st.2.2 hQ
theorem items_list {vs : List Value} {acc : Array Value} (h : ItemsOf (fun i v => vs[i]? = some v) acc vs.length) : acc.toList = vs := by
  refine List.ext_getElem? fun j => ?_
  by_cases c : j < acc.size
  · have := h.2 j acc[j] (by simp [c])
    rw [this]
    simp [c]
  · have hl := h.1
    rw [List.getElem?_eq_none (by simp; omega), List.getElem?_eq_none (by omega)]
theorem items_drawn {es : Array (Int × Value)} {ys : List Nat} {acc : Array Value} (hy : ys.Perm (List.range es.size)) (h : ItemsOf (fun i v => ∃ q x, ys[i]? = some q ∧ es[q]? = some x ∧ v = x.2) acc es.size) : acc.toList.Perm (es.toList.map (·.2)) := by
  have e : acc.toList = (ys.filterMap (es[·]?)).map (·.2) := by
    have hm : ∀ q ∈ ys, (es[q]?).isSome = true := fun q hq => by
      have := List.mem_range.mp (hy.mem_iff.mp hq)
      simp [this]
    have e2 : (ys.filterMap (es[·]?)).map (·.2) = ys.map fun q => ((es[q]?).map (·.2)).getD .none := by
      clear h hy
      induction ys with
      | nil => rfl
      | cons y ys ih =>
        have h1 := hm y List.mem_cons_self
        obtain ⟨x, hx⟩ := Option.isSome_iff_exists.mp h1
        rw [List.filterMap_cons_some hx, List.map_cons, List.map_cons, ih (fun q hq => hm q (List.mem_cons_of_mem _ hq)), hx]
        rfl
    rw [e2]
    refine List.ext_getElem? fun j => ?_
    by_cases c : j < acc.size
    · obtain ⟨q, x, h1, h2, h3⟩ := h.2 j acc[j] (by simp [c])
      rw [List.getElem?_map, h1]
      simp [c, h2, h3]
    · have hl := h.1
      have hl2 := hy.length_eq
      rw [List.length_range] at hl2
      rw [List.getElem?_eq_none (by simp; omega), List.getElem?_eq_none (by simp; omega)]
  rw [e]
  refine ((hy.filterMap _).map _).trans ?_
  rw [filterMap_getElem?_range]
theorem iter_W {a : Addr} {o : Obj} {es : Array (Int × Value)} {ep : Nat} {t : SetTable} {Q : Value → Shared → Prop} (ho : s.heap.get? a = some o) (hex : o.ExactSet) (hd : o.data = .set es ep t) (hf : t.fits es.size = true) (hz : es.size < scanBound) (T : Tab (w.params.followText "set-order") t)
    (hQ : ∀ (s2 : Shared) (I : Addr) (fp : List Addr) (P : Nat → Value → Prop) (St : Nat → Heap → Prop), (∀ A : Around, A.handled = none → Walks prog w A I fp [I] es.size P St) → St 0 s2.heap → (∀ b ∈ fp, b = a ∨ s.heap.objs.size ≤ b) → s.heap.objs.size ≤ I → (∀ b ob, s.heap.get? b = some ob → s2.heap.get? b = some ob) →
      s2.gens = s.gens → s2.os = s.os → s2.toks = s.toks → (∀ acc, ItemsOf P acc es.size → acc.toList.Perm (es.toList.map (·.2))) → Q (.ref I) s2) :
    wpAny (model prog w) A (pyIter (.ref a)) Q E s := by
  have ha : a < s.heap.objs.size := Heap.lt_size ho
  refine iter_T ho hex hd hf hz (fun c => ?_) (fun ys d hp => ?_)
  · have h0 : (s.heap.push { cls := .type "set_iterator", data := .fields #[.int 0 0, .int 0 0, .ref a, .int es.size 0, .int ep 0] }).get? a = some o := Heap.get?_push_of_some _ ho
    have fin : ∀ (vs : List Value) (F : Nat → Nat → Prop), F 0 0 → es.size = vs.length → vs.Perm (es.toList.map (·.2)) →
        (∀ i sl, F i sl → i < vs.length → ∃ x sl', vs[i]? = some x ∧ F (i + 1) sl' ∧ ∀ (s : Shared) (A : Around) (E : Value → Shared → Prop) (Q : Option (Value × Nat) → Shared → Prop), s.heap.get? a = some o → Q (some (x, sl')) s → wpAny (model prog w) A (setNext a sl i ep) Q E s) →
        (∀ sl, F vs.length sl → ∀ (s : Shared) (A : Around) (E : Value → Shared → Prop) (Q : Option (Value × Nat) → Shared → Prop), s.heap.get? a = some o → Q none s → wpAny (model prog w) A (setNext a sl vs.length ep) Q E s) → Q (.ref s.heap.objs.size) { s with heap := s.heap.push { cls := .type "set_iterator", data := .fields #[.int 0 0, .int 0 0, .ref a, .int es.size 0, .int ep 0] } } := by
      intro vs F f0 hn pv step fin
      refine hQ _ s.heap.objs.size [s.heap.objs.size, a] (fun i v => vs[i]? = some v) (fun i h => h.get? a = some o ∧ ∃ sl, F i sl ∧ ItAt h s.heap.objs.size a (.int sl 0) i vs.length ep) (fun A hh => ?_) ⟨h0, 0, f0, _, Heap.get?_push_size _ rfl, rfl, by rw [hn]; rfl⟩ (fun b hb => ?_) (Nat.le_refl _) (fun b ob e => Heap.get?_push_of_some _ e) rfl rfl rfl (fun acc hi => ?_)
      · have W := walk_I (prog := prog) (w := w) hh (I := s.heap.objs.size) (a := a) (Nat.ne_of_lt ha) hd hf vs F step fin hn
        rw [← hn] at W
        rw [← hn]
        exact W
      · simp at hb; rcases hb with rfl | rfl
        · exact .inr (Nat.le_refl _)
        · exact .inl rfl
      · rw [hn] at hi
        rw [items_list hi]
        exact pv
    rcases T with bt | ⟨led, ris⟩
    · have pp := pickOrder_perm (f := w.params.setOrder a ep) (xs := es)
      refine fin ((pickOrder (w.params.setOrder a ep) es).toList.map (·.2)) (fun _ sl => sl = 0) rfl (by rw [List.length_map, pp.length_eq]; simp) (pp.map _) (fun i sl e hi => ?_) (fun sl e => ?_)
      · subst e
        rw [List.length_map] at hi
        have hi' : i < (pickOrder (w.params.setOrder a ep) es).size := by simpa using hi
        refine ⟨((pickOrder (w.params.setOrder a ep) es)[i]).2, 0, by simp [hi'], rfl, fun s A E Q h q => next_text bt h hd hf ?_⟩
        simpa [hi'] using q
      · subst e
        exact fun s A E Q h q => next_text bt h hd hf (by simpa using q)
    · by_cases bt : w.params.followText "set-order" = true
      · have pp := pickOrder_perm (f := w.params.setOrder a ep) (xs := es)
        refine fin ((pickOrder (w.params.setOrder a ep) es).toList.map (·.2)) (fun _ sl => sl = 0) rfl (by rw [List.length_map, pp.length_eq]; simp) (pp.map _) (fun i sl e hi => ?_) (fun sl e => ?_)
        · subst e
          rw [List.length_map] at hi
          have hi' : i < (pickOrder (w.params.setOrder a ep) es).size := by simpa using hi
          refine ⟨((pickOrder (w.params.setOrder a ep) es)[i]).2, 0, by simp [hi'], rfl, fun s A E Q h q => next_text bt h hd hf ?_⟩
          simpa [hi'] using q
        · subst e
          exact fun s A E Q h q => next_text bt h hd hf (by simpa using q)
      · have bf : w.params.followText "set-order" = false := Bool.eq_false_iff.mpr bt
        have hp := c.resolve_left bt
        have hps : t.place.size = es.size := by
          have := hf
          simp only [SetTable.fits, Bool.and_eq_true, beq_iff_eq] at this
          exact this.1
        have hr : Rise t.place := by
          cases q : t.plain with
          | true => exact ris q
          | false =>
            rw [q] at hp
            have h1 : ¬ es.size > 1 := by simpa using hp
            unfold Rise
            match hl : t.place.toList with
            | [] => exact List.Pairwise.nil
            | [x] => exact List.pairwise_singleton _ _
            | x :: y :: r =>
              have : t.place.size = (x :: y :: r).length := by rw [← hl]; simp
              simp at this
              omega
        refine fin (es.toList.map (·.2)) (fun i sl => SetTable.below t.place sl = i) (below_zero hr) (by simp) (List.Perm.refl _) (fun i sl e hi => ?_) (fun sl e => ?_)
        · rw [List.length_map] at hi
          have hi' : i < es.size := by simpa using hi
          have hi2 : i < t.place.size := by omega
          refine ⟨es[i].2, t.place[i] + 1, by simp [hi'], below_next hr hi2, fun s A E Q h q => next_place bf led hp h hd hf e ?_⟩
          simpa [hi', hi2] using q
        · refine fun s A E Q h q => next_place bf led hp h hd hf e ?_
          simpa using q
  · have h0 : (s.heap.push { cls := .type "tuple", data := .seq (ys.map fun i : Nat => rawInt (i : Int)).toArray }).get? a = some o := Heap.get?_push_of_some _ ho
    have ht : (s.heap.push { cls := .type "tuple", data := .seq (ys.map fun i : Nat => rawInt (i : Int)).toArray }).get? s.heap.objs.size = some { cls := .type "tuple", data := .seq (ys.map fun i : Nat => rawInt (i : Int)).toArray } := Heap.get?_push_size _ rfl
    have hsz : (s.heap.push { cls := .type "tuple", data := .seq (ys.map fun i : Nat => rawInt (i : Int)).toArray }).objs.size = s.heap.objs.size + 1 := Heap.size_push _ _
    have hI : ((s.heap.push { cls := .type "tuple", data := .seq (ys.map fun i : Nat => rawInt (i : Int)).toArray }).push { cls := .type "set_iterator", data := .fields #[.ref s.heap.objs.size, .int 0 0, .ref a, .int es.size 0, .int ep 0] }).get? (s.heap.objs.size + 1) = some { cls := .type "set_iterator", data := .fields #[.ref s.heap.objs.size, .int 0 0, .ref a, .int es.size 0, .int ep 0] } := by rw [← hsz]; exact Heap.get?_push_size _ rfl
    refine hQ _ (s.heap.objs.size + 1) [s.heap.objs.size + 1, a, s.heap.objs.size] _ _ (fun A hh => walk_D hh (Nat.ne_of_lt (Nat.lt_succ_of_lt ha)) (Nat.ne_of_lt (Nat.lt_succ_self _)) hd hf (c := 0) rfl hp) ⟨Heap.get?_push_of_some _ h0, Heap.get?_push_of_some _ ht, _, hI, rfl, rfl⟩ (fun b hb => ?_) (Nat.le_succ _) (fun b ob e => Heap.get?_push_of_some _ (Heap.get?_push_of_some _ e)) rfl rfl rfl (fun acc hi => items_drawn hp hi)
    simp at hb
    rcases hb with rfl | rfl | rfl
    · exact .inr (Nat.le_succ _)
    · exact .inl rfl
    · exact .inr (Nat.le_refl _)
theorem collect_T {a : Addr} {o : Obj} {es : Array (Int × Value)} {ep : Nat} {t : SetTable} {Q : List Value → Shared → Prop} (hh : A.handled = none) (ho : s.heap.get? a = some o) (hex : o.ExactSet) (hd : o.data = .set es ep t) (hf : t.fits es.size = true) (hz : es.size < scanBound) (T : Tab (w.params.followText "set-order") t)
    (hQ : ∀ (s' : Shared) (vs : List Value), (∀ b ob, s.heap.get? b = some ob → s'.heap.get? b = some ob) → s'.gens = s.gens → s'.os = s.os → s.heap.objs.size < s'.heap.objs.size → vs.Perm (es.toList.map (·.2)) → Q vs s') : wpAny (model prog w) A (collect (.ref a)) Q E s := by
  have ha : a < s.heap.objs.size := Heap.lt_size ho
  have hna : s.heap.objs.size ≠ a := Nat.ne_of_gt ha
  unfold collect
  refine wpAny_bind (wpAny_runValue (codeAny_builtin F.entry_proto_collect ?_))
  rw [Around.under_plainId F.plain_proto_collect _]
  show wpAny _ A.in1 (newList [] >>= fun l => again (.builtin "list.__iadd__" ⟨[l, .ref a], []⟩)) _ _ s
  refine wpAny_bind (wpAny_newObj_type ?_)
  refine wpAny_pure ⟨plainId_quiet F.plain_list_iadd _, codeAny_builtin F.entry_list_iadd ?_⟩
  rw [Around.under_plainId F.plain_list_iadd _]
  show wpAny _ A.in1 (Builtin.List.listExtendWith (.ref s.heap.objs.size) (.ref a) (.ref s.heap.objs.size)) _ _ _
  unfold Builtin.List.listExtendWith
  generalize hH : s.heap.push { cls := .type "list", data := .seq ([] : List Value).toArray } = H1
  have ho1 : H1.get? a = some o := hH ▸ Heap.get?_push_of_some _ ho
  have hS1 : H1.get? s.heap.objs.size = some { cls := .type "list", data := .seq ([] : List Value).toArray } := hH ▸ Heap.get?_push_size _ rfl
  have hz1 : H1.objs.size = s.heap.objs.size + 1 := by rw [← hH, Heap.size_push]
  have hk1 : ∀ b ob, s.heap.get? b = some ob → H1.get? b = some ob := fun b ob e => hH ▸ Heap.get?_push_of_some _ e
  refine wpAny_bind (wpAny_typeOf (s := { s with heap := H1 }) (T := "set") (v := .ref a) ⟨o, ho1, hex.1⟩ ?_)
  have h1 : Builtin.List.listSameRef (.ref s.heap.objs.size) (.ref a) = false := by simp [Builtin.List.listSameRef, hna]
  rw [if_neg (by rw [h1]; decide)]
  refine wpAny_bind (iter_W (s := { s with heap := H1 }) ho1 hex hd hf hz T fun s2 I fp P St W hst hfp hI hk2 hg hos htk hper => ?_)
  have ho2 : s2.heap.get? a = some o := hk2 _ _ ho1
  have hT2 : s2.TypeIs (.ref a) "set" := ⟨o, ho2, hex.1⟩
  refine wpAny_bind (wpAny_holding ?_)
  unfold Builtin.List.listLengthHint
  refine wpAny_bind (wpAny_specialOf (T := "set") (v := .ref a) hT2 F.slot_set_len.lookup ?_)
  wp_delta
  refine wpAny_bind (wpAny_isInstance (T := "set") (v := .ref a) (b := true) hT2 (by rw [isSubtype_type]; kernel_rfl) ?_)
  show wpAny _ A.in1 (typeOf (Value.ref a) >>= _) _ _ _
  refine wpAny_bind (wpAny_typeOf (T := "set") (v := .ref a) hT2 ?_)
  refine wpAny_pure ?_
  rw [if_pos (by decide)]
  refine wpAny_bind (wpAny_rule ?_)
  have hS2 : s2.heap.get? s.heap.objs.size = some { cls := .type "list", data := .seq #[] 0 } := hk2 _ _ hS1
  unfold Builtin.List.listTouch
  refine wpAny_bind ?_
  refine wpAny_bind (wpAny_updateSeq hS2 rfl ?_ (Nat.zero_le _) (by show (1 : Nat) ≤ sizeLine + 1; exact Nat.succ_le_succ (Nat.zero_le _)))
  have g3 := PyProof.Rows.get?_update_seq hS2 (·.push Value.none)
  refine wpAny_updateSeq (s := { s2 with heap := _ }) g3 rfl ?_ (by show (1 : Nat) ≤ sizeLine; decide) (by show (0 : Nat) ≤ sizeLine + 1; exact Nat.zero_le _)
  have g4 := PyProof.Rows.get?_update_seq g3 (·.pop)
  have hSf : s.heap.objs.size ∉ fp := fun hm => by
    rcases hfp _ hm with e | e
    · exact hna e
    · have e' : H1.objs.size ≤ s.heap.objs.size := e
      rw [hz1] at e'
      exact absurd e' (Nat.not_succ_le_self _)
  have k4 : ∀ b ob, b ≠ s.heap.objs.size → s2.heap.get? b = some ob → ((s2.heap.update s.heap.objs.size (Obj.mapSeq fun x => x.push Value.none)).update s.heap.objs.size (Obj.mapSeq fun x => x.pop)).get? b = some ob := fun b ob hb e => by
    rw [Heap.get?_update_ne _ _ _ _ hb, Heap.get?_update_ne _ _ _ _ hb]
    exact e
  have hst4 := (W A hh).frame 0 s2.heap _ hst (fun b hb ob e => k4 b ob (fun h => hSf (h ▸ hb)) e)
  refine wpAny_pure ⟨plainId_quiet F.plain_extend_loop _, codeAny_extend_loopS (W A.in1 hh).toS (fits_of_scanBound hz) _ hSf _ es.size 0 _ _ _ rfl (Nat.zero_le _) hst4 g4 (ItemsOf.nil _) fun s' acc' c' hm hS' hacc => ?_⟩
  show wpAny _ A (load s.heap.objs.size >>= _) _ _ s'
  refine wpAny_bind (wpAny_load hS' ?_)
  refine wpAny_pure (hQ s' acc'.toList (fun b ob e => ?_) (hm.gens.trans hg) (hm.os.trans hos) (Heap.lt_size hS') (hper acc' hacc))
  have hlt := Heap.lt_size e
  have hbS : b ≠ s.heap.objs.size := Nat.ne_of_lt hlt
  refine hm.heap b ob (fun hb => ?_) (k4 b ob hbS (hk2 _ _ (hk1 _ _ e)))
  rcases List.mem_cons.mp hb with h | h
  · exact hbS h
  · have hI' : H1.objs.size ≤ I := hI
    rw [hz1, ← List.mem_singleton.mp h] at hI'
    exact absurd (Nat.lt_of_lt_of_le (Nat.lt_succ_of_lt hlt) hI') (Nat.lt_irrefl _)
open PyProof.Rows in
theorem sorted_T {a : Addr} {S : Int → Bool} {n : Nat} {Q : Value → Shared → Prop} (hh : A.handled = none) (hS : SetT prog w s.heap a S n) (h64 : n < 64)
    (h : ∀ (s' : Shared) (p : Addr) (out : Array Value) (ns' : List Int) (c : Nat), IntsAre out.toList ns' → ns'.length = n → (∀ k, k ∈ ns' ↔ S k = true) → ns'.Pairwise (· ≤ ·) → s.heap.objs.size ≤ p → s'.heap.get? p = some (seqObj "list" out c) → (∀ b ob, s.heap.get? b = some ob → s'.heap.get? b = some ob) → s'.gens = s.gens → s'.os = s.os → Q (.ref p) s') :
    wpAny (model prog w) A (call (.builtin "sorted") [.ref a]) Q E s := by
  obtain ⟨o, es, ep, t, ho, hex, hd, hel, hmem, hb, hf, hn, T⟩ := hS
  refine Calls.call_function_entry kind_sorted plain_sorted entry_sorted (args_sorted1 _) ?_
  unfold Builtin.«sorted»
  refine wpAny_bind (m := checkCount "sorted" 1 1 _) (wpAny_pure ?_)
  refine wpAny_bind (collect_T (by exact hh) ho hex hd hf hb T fun s1 vs hk hg hos hsz hp => ?_)
  obtain ⟨ns, hI, hns⟩ : ∃ ns, IntsAre vs ns ∧ ∀ k, k ∈ ns ↔ S k = true := by
    have he : ∀ v ∈ vs, ∃ k t, v = .int k t := fun v hv => by
      obtain ⟨e, he, rfl⟩ := List.mem_map.mp (hp.mem_iff.mp hv)
      obtain ⟨⟨k, hk, _⟩, _⟩ := hel e he
      obtain ⟨tt, q⟩ := Value.isInt_shape hk
      exact ⟨k, tt, q⟩
    have hx : ∀ k, (∃ t, Value.int k t ∈ vs) ↔ S k = true := fun k => by
      rw [hmem k]
      constructor
      · rintro ⟨tt, hv⟩
        obtain ⟨e, he, q⟩ := List.mem_map.mp (hp.mem_iff.mp hv)
        exact ⟨e, he, by rw [q]; exact intKind_is _ _ _ _⟩
      · rintro ⟨e, he, q⟩
        obtain ⟨tt, q2⟩ := Value.isInt_shape q
        exact ⟨tt, hp.mem_iff.mpr (List.mem_map.mpr ⟨e, he, q2⟩)⟩
    have : ∀ us : List Value, (∀ v ∈ us, ∃ k t, v = .int k t) → ∃ ns, IntsAre us ns ∧ ∀ k, k ∈ ns ↔ ∃ t, Value.int k t ∈ us := by
      intro us
      induction us with
      | nil => intro _; exact ⟨[], .nil, fun k => Iff.intro (fun z => by cases z) (fun z => by obtain ⟨_, z⟩ := z; cases z)⟩
      | cons u us ih =>
        intro hu
        obtain ⟨k0, t0, rfl⟩ := hu _ List.mem_cons_self
        obtain ⟨ns, h1, h2⟩ := ih fun v hv => hu v (List.mem_cons_of_mem _ hv)
        refine ⟨k0 :: ns, .cons _ _ h1, fun k => ?_⟩
        rw [List.mem_cons, h2 k]
        constructor
        · rintro (rfl | ⟨tt, hm⟩)
          · exact ⟨t0, List.mem_cons_self⟩
          · exact ⟨tt, List.mem_cons_of_mem _ hm⟩
        · rintro ⟨tt, hm⟩
          rcases List.mem_cons.mp hm with e | hm
          · cases e; exact .inl rfl
          · exact .inr ⟨tt, hm⟩
    obtain ⟨ns, h1, h2⟩ := this vs he
    exact ⟨ns, h1, fun k => (h2 k).trans (hx k)⟩
  have hvl : vs.length = n := by rw [hp.length_eq, List.length_map, Array.length_toList, hn]
  refine wpAny_bind (wpAny_newList ?_)
  have hoL : (s1.heap.push (seqObj "list" vs.toArray 0)).get? s1.heap.objs.size = some (seqObj "list" vs.toArray 0) := Heap.get?_push_size _ rfl
  refine wpAny_bind (wpAny_holding (wpAny_call_entry slot_list_sort ⟨_, hoL, rfl⟩ entry_list_sort (list_sort_tree hoL hI (by omega) fun out ns' a1 a2 a3 => ⟨_, rfl, ?_⟩) (args_list_sort _)))
  obtain ⟨c, hc⟩ := sortedHeap_at (out := out) hoL
  refine wpAny_pure ⟨_, rfl, h _ _ out ns' c a1 ?_ (fun k => ?_) a3 ?_ hc (fun b ob e => ?_) hg hos⟩
  · rw [a2.length_eq, ← hI.length, hvl]
  · rw [a2.mem_iff]; exact hns k
  · exact Nat.le_of_lt hsz
  · have e1 := hk _ _ e
    have hlt := Heap.lt_size e1
    rw [sortedHeap_old (Nat.ne_of_lt hlt) (by rw [size_push']; exact Nat.lt_succ_of_lt hlt)]
    exact Heap.get?_push_of_some _ e1
end
end Lw
set_option Elab.async false
set_option linter.all false
set_option maxRecDepth 100000
namespace Lw
open PySem L2
theorem perm_of_nodup : ∀ {ds l : List Int}, ds.Nodup → (∀ k ∈ ds, k ∈ l) → l.length ≤ ds.length → l.Perm ds
  | [], l, _, _, h => by
    cases l with
    | nil => exact List.Perm.refl _
    | cons x l => simp at h
  | d :: ds, l, hn, hs, hl => by
    obtain ⟨h1, h2⟩ := List.nodup_cons.mp hn
    have hd := hs d List.mem_cons_self
    have hp := List.perm_cons_erase hd
    have hlen : (l.erase d).length = l.length - 1 := List.length_erase_of_mem hd
    refine hp.trans (List.Perm.cons d (perm_of_nodup h2 (fun k hk => ?_) (by rw [hlen]; simp at hl; omega)))
    have hne : k ≠ d := fun e => h1 (e ▸ hk)
    exact (List.mem_erase_of_ne hne).mpr (hs k (List.mem_cons_of_mem _ hk))
open PyProof.Rows in
theorem first_nodup (val : Nat → Int) : ∀ i, (firstMet val i).Nodup
  | 0 => by rw [firstMet_zero]; exact List.nodup_nil
  | i + 1 => by
    rw [firstMet_succ]
    unfold step_dedup
    have ih := first_nodup val i
    split
    · exact ih
    · rename_i h
      refine List.nodup_append.mpr ⟨ih, by simp, fun x hx y hy e => ?_⟩
      cases List.mem_singleton.mp hy
      subst e
      exact h (List.any_eq_true.mpr ⟨_, hx, by simp⟩)
open PyProof.Rows in
theorem first_mem {ns : List Int} {k : Int} : (firstMet (fun i => ns.getD i 0) ns.length).any (· == k) = true ↔ k ∈ ns := by
  rw [firstMet_any]
  have e : (List.range ns.length).map (fun i => ns.getD i 0) = ns := by
    refine List.ext_getElem (by simp) fun i h1 h2 => ?_
    simp [h2]
  rw [e]
  simp
def SetO (P : Program) (w : World) (p : Addr) (ds : List Int) : HO := .ext fun h => SetT P w h p (fun k => ds.any (· == k)) ds.length
def rSetOf (P : Program) (w : World) (K : PySem.W.Frag) : List V → Hp → VK → Prop := fun vs H Q => ∃ (a : Addr) (ns : List Int), vs = [V.ref a] ∧ SqL K H a (ns.map V.int) ∧ ns.length ≤ 2000 ∧
  ∀ (ds : List Int) (p : Addr), ds.Nodup → (∀ k, k ∈ ds ↔ k ∈ ns) → H p = none → Q (.ref p) (upd H p (SetO P w p ds))
def rSortedSet (P : Program) (w : World) : List V → Hp → VK → Prop := fun vs H Q => ∃ (a : Addr) (ds : List Int), vs = [V.ref a] ∧ H a = some (SetO P w a ds) ∧ ds.Nodup ∧ ds.length < 64 ∧
  ∀ (ns : List Int) (p : Addr), ns.Pairwise (· < ·) → (∀ k, k ∈ ns ↔ k ∈ ds) → H p = none → Q (.ref p) (upd H p (.lst (ns.map V.int)))
section
variable {X : Cx}
open PyProof.Rows
theorem cr_setOf (hc : X.calm = true) : CallR X (.type "set") (rSetOf X.prog X.w X.K) := by
  intro pins s σ H vs us Q I r h
  obtain ⟨a, ns, rfl, hs, hl, q⟩ := h
  obtain ⟨its, rv, hli, _⟩ := I.list hs
  rw [Vals.ref1 r]
  have hi := rv.ints
  have hlen : its.toArray.size = ns.length := by rw [List.size_toArray, hi.length]
  refine call_T (items := its.toArray) (ns := ns) (I.ok.hd hc) hli.isList (by simpa using hi) (by rw [hlen]; unfold scanBound; omega) fun h' tk hS hk => ?_
  rw [hlen] at hS
  refine ⟨.ref _, upd H s.heap.objs.size (SetO X.prog X.w s.heap.objs.size (firstMet (fun i => ns.getD i 0) ns.length)), I.laid (t' := tk) (fun b o e => hk b o (Heap.lt_size e) e) (Nat.le_refl _) ?_, rfl, q _ _ (first_nodup _ _) (fun k => ?_) (I.hok.fresh (Nat.le_refl _))⟩
  · exact ⟨hS, (by obtain ⟨o, _, _, _, ho, _⟩ := hS; exact ⟨o, ho⟩), fun h1 h2 f k => f.at k⟩
  · rw [← first_mem (ns := ns)]; simp
theorem cr_sortedSet (hc : X.calm = true) : CallR X (.builtin "sorted") (rSortedSet X.prog X.w) := by
  intro pins s σ H vs us Q I r h
  obtain ⟨a, ds, rfl, hs, hn, h64, q⟩ := h
  rw [Vals.ref1 r]
  obtain ⟨hS, _, _⟩ := I.hok a _ hs
  refine sorted_T (I.ok.hd hc) hS h64 fun s' p out ns' c a1 a2 a3 a4 hp hpo hk hg hos => ?_
  have hm : ∀ k, k ∈ ns' ↔ k ∈ ds := fun k => (a3 k).trans (by simp)
  have hpm := perm_of_nodup hn (fun k hk => (hm k).mpr hk) (by omega)
  have hnd : ns'.Nodup := hpm.nodup_iff.mpr hn
  have hlt : ns'.Pairwise (· < ·) := by
    have := a4.and hnd
    exact this.imp fun ⟨x, y⟩ => by omega
  have hlen : (ns'.map V.int).length ≤ sizeLine := by rw [List.length_map, a2]; exact small64 h64
  exact ⟨.ref p, upd H p (.lst (ns'.map V.int)), I.call' (ch := []) hos (Un.laid hk hp (I.hok.fresh hp)) (I.hok.laid hk hp ⟨hlen, out.toList, c, vals_of_ints a1, hpo⟩) (by rw [hg]; exact I.bare) (fun b hb => by cases hb), rfl, q ns' p hlt hm (I.hok.fresh hp)⟩
theorem kSetOf (P : Program) (w : World) (K : PySem.W.Frag) (hc : X.calm = true) (e1 : X.prog = P := by rfl) (e2 : X.w = w := by rfl) (e : X.K = K := by rfl) : CallR X (.type "set") (rSetOf P w K) := by
  subst e1 e2 e
  exact cr_setOf hc
theorem kSortedSet (P : Program) (w : World) (hc : X.calm = true) (e1 : X.prog = P := by rfl) (e2 : X.w = w := by rfl) : CallR X (.builtin "sorted") (rSortedSet P w) := by
  subst e1 e2
  exact cr_sortedSet hc
end
section
variable {P : Program} {w : World} {K : PySem.W.Frag} {H : Hp} {Q : VK} {a : Addr} {ns ds : List Int}
theorem go_setOf (h : H a = some (.lst (ns.map V.int))) (l : ns.length ≤ 2000) (q : ∀ (ds : List Int) (p : Addr), ds.Nodup → (∀ k, k ∈ ds ↔ k ∈ ns) → H p = none → Q (.ref p) (upd H p (SetO P w p ds))) : rSetOf P w K [.ref a] H Q := ⟨a, ns, rfl, SqL.of h, l, q⟩
theorem go_sortedSet (h : H a = some (SetO P w a ds)) (n : ds.Nodup) (l : ds.length < 64) (q : ∀ (ns : List Int) (p : Addr), ns.Pairwise (· < ·) → (∀ k, k ∈ ns ↔ k ∈ ds) → H p = none → Q (.ref p) (upd H p (.lst (ns.map V.int)))) : rSortedSet P w [.ref a] H Q := ⟨a, ds, rfl, h, n, l, q⟩
end
end Lw
set_option Elab.async false
set_option linter.all false
set_option maxRecDepth 100000
namespace L2
open PySem PySem.Spec PyProof.Rows
section
variable {X : Cx}
theorem vals_of : ∀ (xs : List V) (us : List Value), xs.length = us.length → (∀ (j : Nat) x u, xs[j]? = some x → us[j]? = some u → RelV x u) → Vals xs us
  | [], [], _, _ => .nil
  | [], _ :: _, h, _ => by cases h
  | _ :: _, [], h, _ => by cases h
  | x :: xs, u :: us, h, k => .cons (k 0 x u rfl rfl) (vals_of xs us (Nat.succ.inj h) fun j x u h1 h2 => k (j + 1) x u h1 h2)
end
section
variable {σ : St} {H : Hp} {Q : VK} {ta : TA}
end
end L2
set_option Elab.async false
set_option linter.all false
set_option maxRecDepth 100000
namespace L2
open PySem PySem.Spec PyProof.Rows
section
variable {X : Cx}
def rgFrom (a : Int) (n : Nat) : List Int := (List.range n).map fun k => a + ((k : Nat) : Int)
def qLR2 (vs : List V) (H : Hp) (Q : VK) : Prop := ∃ (a b : Int), vs = [.int a, .int b] ∧ -(2 ^ 62) ≤ a ∧ a < 2 ^ 62 ∧ -(2 ^ 62) ≤ b ∧ b < 2 ^ 62 ∧ (b - a).toNat ≤ 5000 ∧ ∀ l, H l = none → Q (.ref l) (upd H l (.lst ((rgFrom a (b - a).toNat).map V.int)))
def tLR2 (ta : TA) : TE := fun σ H Q => ta σ H fun vs H1 => qLR2 vs H1 Q
theorem pe_lsRng2 {a b : Expr} {ta : TA} {p p2 pos pos2 : Pos} (hc : X.calm = true) (hg : Gl X "list") (hm : X.mg "list" = none) (hg2 : Gl X "range") (hm2 : X.mg "range" = none) (ha : PA X [a, b] ta) (hs : starEach [a, b] X.env = (false, eval a X.env) :: starEach [b] X.env := by rfl) (hpl : (backTo pos2 (starEach [b] X.env)).any (·.1) = false := by rfl)
    (hs2 : starEach [.Call (.Name "range" p2) [a, b] [] pos2] X.env = [(false, eval (.Call (.Name "range" p2) [a, b] [] pos2) X.env)] := by rfl) : PE X (.Call (.Name "list" p) [.Call (.Name "range" p2) [a, b] [] pos2] [] pos) (tLR2 ta) := by
  intro pins s σ H Q I h
  refine wpAny_Call_Name_kw (ld_blt I hg hm (show bootBuiltins "list" = some (.type "list") by decide +kernel) ?_)
  refine PyProof.Rows.callWith_type1 ?_ hs2 rfl
  rw [hs2]
  show wpAny _ _ (spliced ((false, eval (.Call (.Name "range" p2) [a, b] [] pos2) X.env) :: backTo pos [])) _ _ s
  refine Calls.spliced_cons ?_
  refine wpAny_Call_Name_kw (ld_blt I hg2 hm2 boot_range (PyProof.Rows.callWith_type1 (thn (ha pos2 pins s σ H _ I h) fun us s1 ⟨vs, H1, I1, r1, q1⟩ => ?_) hs hpl))
  obtain ⟨x, y, e, x0, x1, y0, y1, hn, q⟩ := q1
  subst e
  cases r1 with
  | cons r rr =>
    cases rr with
    | cons r2 rr2 =>
    cases rr2
    obtain ⟨t, rfl⟩ := r
    obtain ⟨t2, rfl⟩ := r2
    refine call_range_2 (Calls.spliced_nil ?_)
    have I2 : Inv X pins σ H1 { s1 with heap := s1.heap.push { cls := .type "range", data := .fields #[.int x t, .int y t2, .int 1 s1.toks] }, toks := s1.toks + 1 } := I1.kept fun b o e => Heap.get?_push_of_some _ e
    refine call_list_range (n := (y - x).toNat) (I.ok.hd hc) (IsRange.new ..) (small_one x0 x1 y0 y1) (by rw [rangeSize_one]; split <;> omega) (by omega) (fun h' tk acc' c' kp e it => ?_)
    have hl := it.1
    have r' : Vals ((rgFrom x (y - x).toNat).map V.int) acc'.toList := by
      refine vals_of _ _ (by simp [hl, rgFrom]) (fun j u v h1 h2 => ?_)
      obtain ⟨t', hu⟩ := it.2 j v (by rw [← h2]; simp)
      unfold rgFrom at h1
      rw [List.getElem?_map, List.getElem?_map] at h1
      have hj : j < (y - x).toNat := by
        have := (List.getElem?_eq_some_iff.mp h2).1
        simpa [hl] using this
      rw [List.getElem?_range hj] at h1
      cases h1
      exact ⟨t', by rw [hu]; simp⟩
    have hz : ((rgFrom x (y - x).toNat).map V.int).length ≤ sizeLine := by
      unfold rgFrom
      rw [List.length_map, List.length_map, List.length_range]
      have : (5000 : Nat) ≤ sizeLine := by decide
      omega
    exact ⟨.ref _, _, I2.laid (t' := tk) kp (Nat.le_refl _) (show ObjOk X.prog X.w _ h' _ (.lst _) from ⟨hz, acc'.toList, c', r', by simpa using e⟩), rfl, q _ (I2.hok.fresh (Nat.le_refl _))⟩
def rLtP : R2 := fun x y H Q => ∃ p q d e, x = .ref p ∧ y = .ref q ∧ PrAt H d p ∧ PrAt H e q ∧ Q (.bl (pLt d e)) H
theorem op_ltP (hu : X.A.units + 64 < cLine) : OpR X (compareOp .Lt) rLtP := by
  intro pins s σ H x y v u Q I rx ry h
  obtain ⟨p, q, d, e, rfl, rfl, ⟨l1, t1, u1⟩, ⟨l2, t2, u2⟩, k⟩ := h
  cases rx
  cases ry
  obtain ⟨its, r1, p1, _⟩ := I.tuple (SqT.of t1)
  obtain ⟨its2, r2, p2, _⟩ := I.tuple (SqT.of t2)
  obtain ⟨w1, r3, p3, _⟩ := I.list (SqL.of u1)
  obtain ⟨w2, r4, p4, _⟩ := I.list (SqL.of u2)
  cases r1 with
  | cons a1 b1 => cases b1 with
  | cons a2 b2 =>
  cases b2
  cases r2 with
  | cons a3 b3 => cases b3 with
  | cons a4 b4 =>
  cases b4
  obtain ⟨x1, rfl⟩ := a1
  obtain ⟨x2, rfl⟩ := a3
  cases a2
  cases a4
  exact rc_pairs p1 p2 p3.isList p4.isList (by simpa using r3.ints) (by simpa using r4.ints) (by omega) ⟨.bl (pLt d e), H, I, rfl, k⟩
end
section
variable {σ : St} {H : Hp} {Q : VK} {ta : TA} {R : It → Hp → Prop} {i j : Int}
theorem go_lr2 (h : ta σ H fun vs H1 => qLR2 vs H1 Q) : tLR2 ta σ H Q := h
def qRng3 (vs : List V) (H1 : Hp) (R : It → Hp → Prop) : Prop := ∃ (i j c : Int) (n : Nat), vs = [.int i, .int j, .int c] ∧ RgC i j c n ∧ R (Itc i c n) H1
theorem go_rng3 (h : ta σ H fun vs H1 => qRng3 vs H1 R) : iRng3 ta σ H R := h
theorem go_qrng3 (h1 : -(2 ^ 62) ≤ i) (h2 : i < 2 ^ 62) (h3 : -(2 ^ 62) ≤ j) (h4 : j < 2 ^ 62) (h : R (Itc i (-1) (i - j).toNat) H) : qRng3 [.int i, .int j, .int (-1)] H R := ⟨i, j, -1, _, rfl, RgC.neg h1 h2 h3 h4, h⟩
end
end L2
set_option Elab.async false
set_option linter.all false
set_option maxRecDepth 100000
set_option maxHeartbeats 4000000
namespace Lw
open PySem L2
local macro_rules | `(tactic| walk_at "lw_hp") => `(tactic| (repeat (first | assumption | exact upd_same | (refine' upd_new (by assumption) ?_) | (refine' tup_off (by assumption) (by assumption) ?_) | (refine' lst_off (by assumption) (by assumption) (by assumption) ?_) | (refine' Same.get (by assumption) ?_) | (refine' Off.get (by assumption) (by assumption) ?_) | (refine' upd_oth (by assumption) ?_))))
local macro_rules | `(tactic| walk_at "lw_go") => `(tactic| (repeat (first | (with_reducible (first | refine go_var rfl ?_ | refine go_c ?_ | refine go_cons ?_ | refine go_op ?_ | refine go_nil ?_ | refine go_seq ?_ | refine go_qb ?_ | refine go_test ?_ | refine go_ifS ?_ | refine go_gname ?_ | refine go_cb ?_)) | ((with_reducible refine' go_ixT ?hp ?ha ?_); (case hp => walk_at "lw_hp"); (case ha => first | rfl | assumption)) | (with_reducible (first | refine go_asg ?_ | refine go_callC ?_ | refine go_next ?_ | refine go_tup ?_ | refine go_i0 ?_ | refine go_ret ?_ | refine go_dget ?_ | refine go_gcons ?_ | refine go_gsub ?_ | refine go_testB ?_)) | ((with_reducible refine' go_ixL ?hp ?ha ?_); (case hp => walk_at "lw_hp"); (case ha => first | rfl | assumption)) | (with_reducible (first | refine' go_ixLs (by assumption) (by assumption) ?_ | refine go_lst ?_)) | ((with_reducible refine' go_i ?cc ?_); (case cc => first | omega | (simp only [CDiv, CMul, CPow]; omega) | (simp only [CDiv, CMul, CPow]; decide))) | (with_reducible (first | refine go_drop ?_ | refine go_eqI ?_ | refine go_eqS ?_ | refine go_eqB ?_ | refine go_eq (by rfl) ?_ | refine go_gnil ?_ | refine go_iteT ?_ | refine go_iteF ?_ | refine go_iteNt ?_ | refine go_iteNf ?_ | refine go_iteNN ?_)) | (with_reducible refine go_iteDT (by first | assumption | rfl | omega | (simp only [List.length_cons, List.length_nil, List.length_map]; omega)) ?_) | (with_reducible refine go_iteDF (by first | assumption | omega | decide | decide +kernel | (simp only [List.length_cons, List.length_nil, List.length_map]; omega)) ?_) | (with_reducible refine go_iteNT (by first | assumption | rfl | omega | (simp only [List.length_cons, List.length_nil, List.length_map]; omega)) ?_) | (with_reducible refine go_iteNF (by first | assumption | omega | decide | decide +kernel | (simp only [List.length_cons, List.length_nil, List.length_map]; omega)) ?_) | (with_reducible refine go_iteBT (by first | assumption | decide +kernel) ?_) | (with_reducible refine go_iteBF (by first | assumption | decide +kernel) ?_) | (with_reducible (first | refine go_dput ?_ | refine go_setD ?_)) | ((with_reducible refine' go_gtup ?hp ?ha ?_); (case hp => walk_at "lw_hp"); (case ha => first | rfl | assumption)) | (with_reducible refine go_if ?_) | ((with_reducible refine' go_setL ?hp ?ha ?_); (case hp => walk_at "lw_hp"); (case ha => first | rfl | assumption)) | (with_reducible (first | refine go_not ?_ | refine go_or ?_ | refine go_andV ?_ | refine go_sl ?_ | refine go_nopart ?_ | refine go_part ?_ | refine go_qI ?_ | refine' go_lenLs (by assumption) ?_)) | ((with_reducible refine' go_lenL ?hp ?_); (case hp => walk_at "lw_hp")) | ((with_reducible refine' go_lenT ?hp ?_); (case hp => walk_at "lw_hp")) | ((with_reducible refine' go_inT ?hp ?ha ?hb ?_); (case hp => walk_at "lw_hp"); (case ha => rfl); (case hb => rfl)) | ((with_reducible refine' go_notInT ?hp ?ha ?hb ?_); (case hp => walk_at "lw_hp"); (case ha => rfl); (case hb => rfl)) | (with_reducible (first | refine go_pnil ?_ | refine go_pcons ?_ | refine go_un ?_ | refine go_u ?_ | refine go_for ?_ | refine go_rng1 ?_ | refine go_qrng1 (by omega) (by omega) ?_ | refine go_notN_non ?_ | refine go_notN_int ?_ | refine go_notN_str ?_ | refine go_notN_bl ?_ | refine go_notN_ref ?_ | refine go_min ?_ | refine go_bm ?_ | refine go_lc ?_)) | ((with_reducible refine' go_qbm ?hp ?_); (case hp => walk_at "lw_hp")) | (with_reducible (first | refine go_int ?_ | refine go_intB ?_ | refine go_yes ?_ | refine go_and ?_ | refine go_notV ?_ | refine go_iL ?_)) | ((with_reducible refine' go_glst ?hp ?ha ?_); (case hp => walk_at "lw_hp"); (case ha => first | rfl | assumption)) | ((with_reducible refine' go_qiL ?hp ?_); (case hp => walk_at "lw_hp")) | (with_reducible (first | refine go_par ?_ | refine go_gpar ?_ | refine go_isN_non ?_ | refine go_isN_int ?_ | refine go_isN_str ?_ | refine go_isN_bl ?_ | refine go_isN_ref ?_ | refine go_neI ?_ | refine go_neS ?_ | refine go_neB ?_ | refine go_iT ?_ | refine go_ne (by rfl) ?_)) | ((with_reducible refine' go_ixAL ?hp ?ha ?_); (case hp => walk_at "lw_hp"); (case ha => first | rfl | assumption)) | ((with_reducible refine' go_ixAT ?hp ?ha ?_); (case hp => walk_at "lw_hp"); (case ha => first | rfl | assumption)) | ((with_reducible refine' go_qiT ?hp ?_); (case hp => walk_at "lw_hp")) | (with_reducible (first | refine go_is_non_int ?_ | refine go_is_non_bool ?_ | refine go_is_non_str ?_ | refine go_is_non_tuple ?_ | refine go_is_non_list ?_ | refine go_is_bl_int ?_ | refine go_is_bl_bool ?_ | refine go_is_bl_str ?_ | refine go_is_bl_tuple ?_ | refine go_is_bl_list ?_ | refine go_is_int_int ?_ | refine go_is_int_bool ?_ | refine go_is_int_str ?_ | refine go_is_int_tuple ?_ | refine go_is_int_list ?_ | refine go_is_str_int ?_ | refine go_is_str_bool ?_ | refine go_is_str_str ?_ | refine go_is_str_tuple ?_ | refine go_is_str_list ?_)) | ((with_reducible refine' go_is_lst_int ?hp ?_); (case hp => walk_at "lw_hp")) | ((with_reducible refine' go_is_lst_bool ?hp ?_); (case hp => walk_at "lw_hp")) | ((with_reducible refine' go_is_lst_str ?hp ?_); (case hp => walk_at "lw_hp")) | ((with_reducible refine' go_is_lst_tuple ?hp ?_); (case hp => walk_at "lw_hp")) | ((with_reducible refine' go_is_lst_list ?hp ?_); (case hp => walk_at "lw_hp")) | ((with_reducible refine' go_is_tup_int ?hp ?_); (case hp => walk_at "lw_hp")) | ((with_reducible refine' go_is_tup_bool ?hp ?_); (case hp => walk_at "lw_hp")) | ((with_reducible refine' go_is_tup_str ?hp ?_); (case hp => walk_at "lw_hp")) | ((with_reducible refine' go_is_tup_tuple ?hp ?_); (case hp => walk_at "lw_hp")) | ((with_reducible refine' go_is_tup_list ?hp ?_); (case hp => walk_at "lw_hp")) | (with_reducible (first | refine go_max ?_ | refine go_bm0 ?_ | refine go_chain ?_ | refine go_qch ?_)) | ((with_reducible refine' go_qbm0 ?hp ?_); (case hp => walk_at "lw_hp")) | (with_reducible (first | refine go_retN ?_ | refine go_orV ?_ | refine go_whQ ?_ | refine go_rng2 ?_ | refine go_qrng2 (by omega) (by omega) (by omega) (by omega) ?_ | refine go_rvr ?_ | refine go_qrvr (by omega) (by omega) ?_ | refine go_rng3 ?_ | refine go_qrng3 (by omega) (by omega) (by omega) (by omega) ?_ | refine go_lr2 ?_ | refine go_enum ?_ | refine go_aug rfl ?_ | refine go_ipI ?_)) | ((with_reducible refine' go_qenum ?hp ?_); (case hp => walk_at "lw_hp")) | ((with_reducible refine' go_sumL ?hp ?_); (case hp => walk_at "lw_hp")))))
def top (i : Nat) : Stmt := PySem.Challenge.pw_longwork_k15_whole_no_marks_are_cheaper.main.body.getD i (.Pass ⟨0, 0, 0, 0⟩)
abbrev s__law_next : Stmt := top 23
abbrev s__law_dice : Stmt := top 22
structure Dice (K : PySem.W.Frag) (H : Hp) (d : Addr) : Prop where
  ex : ∃ (a : Addr) (ns : List Int) (i m r : Int), H d = some (.lst [.ref a, .int i, .int m, .int r]) ∧ Scr K H a ns ∧ ns.length ≤ 63 ∧ 0 ≤ i ∧ 0 ≤ m ∧ m < 2147483647
def spNext (K : PySem.W.Frag) : Sp := fun vs H Q _ => ∃ (d : Addr) (many : Int), vs = [.ref d, .int many] ∧ Dice K H d ∧ 0 < many ∧ many < 1073741824 ∧
  ∀ (r : Int) (H' : Hp), 0 ≤ r → r < many → Dice K H' d → Off d H H' → Q (.int r) H'
def spDice (K : PySem.W.Frag) : Sp := fun vs H Q _ => ∃ (a : Addr) (ns : List Int), vs = [.ref a] ∧ Scr K H a ns ∧ ns.length ≤ 63 ∧ ∀ (d : Addr) (H' : Hp), Same H H' → Dice K H' d → Q (.ref d) H'
structure Txt (mg : Str → Option Value) : Prop where
  n_len : mg "len" = none
  n_range : mg "range" = none
  n_isinstance : mg "isinstance" = none
  n_int : mg "int" = none
  n_bool : mg "bool" = none
  n_str : mg "str" = none
  n_tuple : mg "tuple" = none
  n_list : mg "list" = none
  n_min : mg "min" = none
  n_max : mg "max" = none
  n_enumerate : mg "enumerate" = none
  n_zip : mg "zip" = none
  n_sum : mg "sum" = none
  n_sorted : mg "sorted" = none
  n_reversed : mg "reversed" = none
  n_set : mg "set" = none
  g_MOST_STEPS : ∃ t, mg "MOST_STEPS" = some (.int 60 t)
  g_MOST_WEIGHT : ∃ t, mg "MOST_WEIGHT" = some (.int 99 t)
  g_MOST_FALLS : ∃ t, mg "MOST_FALLS" = some (.int 20 t)
  g_MOST_PRICE : ∃ t, mg "MOST_PRICE" = some (.int 999 t)
section
variable {P : Program} {w : World} {K : PySem.W.Frag} {mg : Str → Option Value} {base : Heap} {f : Addr} {fd : FuncData}
theorem scs__law_next : FnScope ["_law_dice_here", "_law_many", "_law_found", "_law_cell"] ["_law_dice_here", "_law_many"] (defScope s__law_next) := ⟨rfl, rfl, rfl, by decide +kernel, rfl, by decide +kernel, by decide +kernel⟩
theorem ok_next (F : Fun K "_law_next" "_law_next" s__law_next f fd) (T : Txt mg) : FnOk P w K mg base CX0 1 f fd ["_law_dice_here", "_law_many"] (spNext K) := by
  refine F.ok scs__law_next (fun vs H Q E h => ?_) (fun cdv A outer s H vs Q E hr h => ?_)
  · obtain ⟨d, many, rfl, _⟩ := h
    rfl
  obtain ⟨d, many, rfl, ⟨a, ns, i, m, r, hd, hS, hl, hi, hm0, hm1⟩, hk0, hk1, k⟩ := h
  have nd := scs__law_next.nd
  have hu := hu_of hr
  refine ⟨_, (pss_cons (ps_if (pt_cmpR op_gt (pe_ix (kIxL K) (pv 0) pe_int (fun _ _ => rfl)) pe_int (nomark _)) (pss_cons (ps_set (i := 2) nd rfl (Or.inl rfl) (pe_op op_mod (pe_ix (kIxL K) (pv 0) pe_int (fun _ _ => rfl)) (pv 1)))
      (pss_cons (ps_asg (pe_op op_fdiv (pe_ix (kIxL K) (pv 0) pe_int (fun _ _ => rfl)) (pv 1)) (pg_sub (pv 0) pe_int set_list))
      (pss_one (ps_ret (pv 2))))) pss_nil)
      (pss_cons (ps_asg (pe_op op_add (pe_ix (kIxL K) (pv 0) pe_int (fun _ _ => rfl)) pe_int) (pg_sub (pv 0) pe_int set_list))
      (pss_cons (ps_if (pt_cmpR op_le (pe_ix (kIxL K) (pv 0) pe_int (fun _ _ => rfl)) (pe_callB (kLen K) (by rfl) T.n_len (by decide +kernel) (pa_cons (pe_ix (kIxL K) (pv 0) pe_int (fun _ _ => rfl)) pa_nil)) (nomark _)) (pss_cons (ps_set (i := 3) nd rfl (Or.inl rfl) (pe_ix (kIxL K) (pe_ix (kIxL K) (pv 0) pe_int (fun _ _ => rfl)) (pe_op op_sub (pe_ix (kIxL K) (pv 0) pe_int (fun _ _ => rfl)) pe_int) (fun _ _ => rfl)))
      (pss_cons (ps_asg (pe_ifExp (pt_cmpR op_ge (pv 3) (pe_op op_pow pe_int pe_int) (nomark _)) (pe_op op_fdiv (pv 3) (pv 1)) pe_int) (pg_sub (pv 0) pe_int set_list))
      (pss_one (ps_ret (pe_op op_mod (pv 3) (pv 1)))))) pss_nil)
      (pss_cons (ps_asg (pe_op op_mod (pe_op op_mul (pe_ix (kIxL K) (pv 0) pe_int (fun _ _ => rfl)) pe_int) pe_int) (pg_sub (pv 0) pe_int set_list))
      (pss_one (ps_ret (pe_op op_mod (pe_op op_fdiv (pe_ix (kIxL K) (pv 0) pe_int (fun _ _ => rfl)) pe_int) (pv 1)))))))), ?_⟩
  with_reducible refine go_seq (go_ifS (go_test (go_op (go_op ?_))))
  with_reducible refine go_var rfl (go_c ?_)
  (with_reducible refine' go_ixL ?hp ?ha ?_); (case hp => walk_at "lw_hp"); (case ha => first | rfl | assumption)
  with_reducible refine go_c (go_i0 (go_qb ?_))
  refine go_iteD (fun c => ?_) (fun c => ?_)
  · with_reducible refine go_seq (go_asg (go_op (go_op (go_var rfl ?_))))
    with_reducible refine go_c ?_
    (with_reducible refine' go_ixL ?hp ?ha ?_); (case hp => walk_at "lw_hp"); (case ha => first | rfl | assumption)
    with_reducible refine go_var rfl ?_
    (with_reducible refine' go_i ?cc ?_); (case cc => first | omega | (simp only [CDiv, CMul, CPow]; omega) | (simp only [CDiv, CMul, CPow]; decide))
    with_reducible refine go_gname (go_seq (go_asg (go_op (go_op ?_))))
    with_reducible refine go_var rfl (go_c ?_)
    (with_reducible refine' go_ixL ?hp ?ha ?_); (case hp => walk_at "lw_hp"); (case ha => first | rfl | assumption)
    with_reducible refine go_var rfl ?_
    (with_reducible refine' go_i ?cc ?_); (case cc => first | omega | (simp only [CDiv, CMul, CPow]; omega) | (simp only [CDiv, CMul, CPow]; decide))
    with_reducible refine go_gsub (go_var rfl (go_c ?_))
    (with_reducible refine' go_setL ?hp ?ha ?_); (case hp => walk_at "lw_hp"); (case ha => first | rfl | assumption)
    with_reducible refine go_ret (go_var rfl ?_)
    exact k _ _ (Int.emod_nonneg _ (by omega)) (Int.emod_lt_of_pos _ hk0) ⟨a, ns, i, m, _, upd_same, hS.mono (TK.updL hd), hl, hi, hm0, hm1⟩ (off_upd _ _ _)
  · with_reducible refine go_next (go_seq (go_asg (go_op (go_op ?_))))
    with_reducible refine go_var rfl (go_c ?_)
    (with_reducible refine' go_ixL ?hp ?ha ?_); (case hp => walk_at "lw_hp"); (case ha => first | rfl | assumption)
    with_reducible refine go_c (go_i0 (go_gsub (go_var rfl (go_c ?_))))
    (with_reducible refine' go_setL ?hp ?ha ?_); (case hp => walk_at "lw_hp"); (case ha => first | rfl | assumption)
    with_reducible refine go_seq (go_ifS (go_test (go_op (go_op ?_))))
    with_reducible refine go_var rfl (go_c ?_)
    (with_reducible refine' go_ixL ?hp ?ha ?_); (case hp => walk_at "lw_hp"); (case ha => first | rfl | assumption)
    with_reducible refine go_cb (go_cons (go_op (go_var rfl (go_c ?_))))
    (with_reducible refine' go_ixL ?hp ?ha ?_); (case hp => walk_at "lw_hp"); (case ha => first | rfl | assumption)
    with_reducible refine go_nil ?_
    have hs1 := (hS.mono (TK.updL (o := HO.lst [V.ref a, V.int (i + 1), V.int m, V.int r]) hd)).sq
    refine go_lenLs hs1 ?_
    with_reducible refine go_i0 (go_qb ?_)
    rw [List.length_map]
    refine go_iteD (fun c => ?_) (fun c => ?_)
    · obtain ⟨v, hv⟩ : ∃ v, ns[i.toNat]? = some v := ⟨_, List.getElem?_eq_getElem (by omega)⟩
      have hat : atI (ns.map V.int) (i + 1 - 1) = some (.int v) := by
        rw [show i + 1 - 1 = ((i.toNat : Nat) : Int) by omega]
        exact atI_nat (by rw [List.getElem?_map, hv]; rfl)
      with_reducible refine go_seq (go_asg (go_op (go_op (go_var rfl ?_))))
      with_reducible refine go_c ?_
      (with_reducible refine' go_ixL ?hp ?ha ?_); (case hp => walk_at "lw_hp"); (case ha => first | rfl | assumption)
      with_reducible refine go_op (go_op (go_var rfl (go_c ?_)))
      (with_reducible refine' go_ixL ?hp ?ha ?_); (case hp => walk_at "lw_hp"); (case ha => first | rfl | assumption)
      with_reducible refine go_c (go_i0 ?_)
      refine go_ixLs hs1 hat ?_
      with_reducible refine go_gname (go_seq (go_asg (go_if (go_test ?_))))
      with_reducible refine go_op (go_var rfl (go_op (go_c (go_c ?_))))
      (with_reducible refine' go_i ?cc ?_); (case cc => first | omega | (simp only [CDiv, CMul, CPow]; omega) | (simp only [CDiv, CMul, CPow]; decide))
      with_reducible refine go_i0 (go_qb ?_)
      refine go_iteD (fun c => ?_) (fun c => ?_)
      all_goals
        walk_at "lw_go"
        have o1 : ∀ o, Off d H (upd (upd H d (HO.lst [V.ref a, V.int (i + 1), V.int m, V.int r])) d o) := fun o => (off_upd _ _ _).trans (off_upd _ d _)
        exact k _ _ (Int.emod_nonneg _ (by omega)) (Int.emod_lt_of_pos _ hk0) ⟨a, ns, i + 1, m, _, upd_same, hS.mono ((o1 _).tk hd), hl, by omega, hm0, hm1⟩ (o1 _)
    · with_reducible refine go_next (go_seq (go_asg (go_op (go_op ?_))))
      with_reducible refine go_op (go_var rfl (go_c ?_))
      (with_reducible refine' go_ixL ?hp ?ha ?_); (case hp => walk_at "lw_hp"); (case ha => first | rfl | assumption)
      with_reducible refine go_c ?_
      (with_reducible refine' go_i ?cc ?_); (case cc => first | omega | (simp only [CDiv, CMul, CPow]; omega) | (simp only [CDiv, CMul, CPow]; decide))
      with_reducible refine go_c ?_
      (with_reducible refine' go_i ?cc ?_); (case cc => first | omega | (simp only [CDiv, CMul, CPow]; omega) | (simp only [CDiv, CMul, CPow]; decide))
      with_reducible refine go_gsub (go_var rfl (go_c ?_))
      (with_reducible refine' go_setL ?hp ?ha ?_); (case hp => walk_at "lw_hp"); (case ha => first | rfl | assumption)
      with_reducible refine go_ret (go_op (go_op (go_op (go_var rfl ?_))))
      with_reducible refine go_c ?_
      (with_reducible refine' go_ixL ?hp ?ha ?_); (case hp => walk_at "lw_hp"); (case ha => first | rfl | assumption)
      with_reducible refine go_c ?_
      (with_reducible refine' go_i ?cc ?_); (case cc => first | omega | (simp only [CDiv, CMul, CPow]; omega) | (simp only [CDiv, CMul, CPow]; decide))
      with_reducible refine go_var rfl ?_
      (with_reducible refine' go_i ?cc ?_); (case cc => first | omega | (simp only [CDiv, CMul, CPow]; omega) | (simp only [CDiv, CMul, CPow]; decide))
      have o1 : ∀ o, Off d H (upd (upd H d (HO.lst [V.ref a, V.int (i + 1), V.int m, V.int r])) d o) := fun o => (off_upd _ _ _).trans (off_upd _ d _)
      exact k _ _ (Int.emod_nonneg _ (by omega)) (Int.emod_lt_of_pos _ hk0) ⟨a, ns, i + 1, _, r, upd_same, hS.mono ((o1 _).tk hd), hl, by omega, Int.emod_nonneg _ (by omega), Int.emod_lt_of_pos _ (by omega)⟩ (o1 _)
theorem scs__law_dice : FnScope ["_law_script", "_law_mixed", "_law_cell"] ["_law_script"] (defScope s__law_dice) := ⟨rfl, rfl, rfl, by decide +kernel, rfl, by decide +kernel, by decide +kernel⟩
theorem ok_dice (F : Fun K "_law_dice" "_law_dice" s__law_dice f fd) (T : Txt mg) : FnOk P w K mg base CX0 1 f fd ["_law_script"] (spDice K) := by
  refine F.ok scs__law_dice (fun vs H Q E h => ?_) (fun cdv A outer s H vs Q E hr h => ?_)
  · obtain ⟨a, ns, rfl, _⟩ := h
    rfl
  obtain ⟨a, ns, rfl, hS, hl, k⟩ := h
  have hs := hS.sq
  have nd := scs__law_dice.nd
  have hu := hu_of hr
  refine ⟨_, (pss_cons (ps_set (i := 1) nd rfl (Or.inl rfl) pe_int)
      (pss_cons (ps_for PassesOwn.never rfl (kPiL K (pv 0)) (pg_name (i := 2) nd rfl (Or.inl rfl)) (pss_one (ps_set (i := 1) nd rfl (Or.inl rfl) (pe_op op_mod (pe_op op_add (pe_op op_add (pe_op op_mul (pv 1) pe_int) (pe_op op_mul (pe_op op_mod (pv 2) pe_int) pe_int)) pe_int) pe_int))))
      (pss_one (ps_ret (pe_lst (pa_cons (pv 0) (pa_cons pe_int (pa_cons (pe_op op_mul (pv 1) (pe_callTy c_int (by rfl) T.n_int (by decide +kernel) (pa_cons (pe_cmpR op_gt (pe_callB (kLen K) (by rfl) T.n_len (by decide +kernel) (pa_cons (pv 0) pa_nil)) pe_int (nomark _)) pa_nil))) (pa_cons pe_int pa_nil))))))))), ?_⟩
  with_reducible refine go_seq (go_asg (go_c (go_gname (go_seq ?_))))
  with_reducible refine go_for (go_iL (go_var rfl ?_))
  refine go_qiLs hs ?_
  refine fq_list (ns.map V.int) (fun i σ H' => ∃ m v, σ = [some (.ref a), some (.int m), v] ∧ H' = H ∧ 0 ≤ m ∧ m < 2147483647) ⟨0, none, rfl, rfl, by omega, by omega⟩ ?_ ?_ ?_
  · rintro i σ H' _ ⟨m, v, rfl, rfl, _⟩
    exact hs
  · rintro i x σ H' hx ⟨m, v, rfl, rfl, h0, h1⟩
    obtain ⟨n, rfl⟩ : ∃ n, x = V.int n := by
      rw [List.getElem?_map] at hx
      cases e : ns[i]? with
      | none => rw [e] at hx; cases hx
      | some z => rw [e] at hx; exact ⟨z, (Option.some.inj hx).symm⟩
    with_reducible refine go_gname (go_asg (go_op (go_op (go_op ?_))))
    with_reducible refine go_op (go_var rfl (go_c ?_))
    (with_reducible refine' go_i ?cc ?_); (case cc => first | omega | (simp only [CDiv, CMul, CPow]; omega) | (simp only [CDiv, CMul, CPow]; decide))
    with_reducible refine go_op (go_op (go_var rfl (go_c ?_)))
    (with_reducible refine' go_i ?cc ?_); (case cc => first | omega | (simp only [CDiv, CMul, CPow]; omega) | (simp only [CDiv, CMul, CPow]; decide))
    with_reducible refine go_c ?_
    (with_reducible refine' go_i ?cc ?_); (case cc => first | omega | (simp only [CDiv, CMul, CPow]; omega) | (simp only [CDiv, CMul, CPow]; decide))
    with_reducible refine go_i0 (go_c (go_i0 (go_c ?_)))
    (with_reducible refine' go_i ?cc ?_); (case cc => first | omega | (simp only [CDiv, CMul, CPow]; omega) | (simp only [CDiv, CMul, CPow]; decide))
    with_reducible refine go_gname ?_
    exact ⟨_, _, rfl, rfl, Int.emod_nonneg _ (by omega), Int.emod_lt_of_pos _ (by omega)⟩
  · rintro σ H' ⟨m, v, rfl, rfl, h0, h1⟩
    with_reducible refine go_ret (go_lst (go_cons (go_var rfl (go_cons ?_))))
    with_reducible refine go_c (go_cons (go_op (go_var rfl (go_cb ?_))))
    with_reducible refine go_cons (go_op (go_cb (go_cons (go_var rfl ?_))))
    with_reducible refine go_nil ?_
    with_reducible refine' go_lenLs (by assumption) ?_
    with_reducible refine go_c (go_i0 (go_nil (go_intB ?_)))
    (with_reducible refine' go_i ?cc ?_); (case cc => first | omega | (simp only [CDiv, CMul, CPow]; omega) | (simp only [CDiv, CMul, CPow]; decide))
    with_reducible refine go_cons (go_c (go_nil ?_))
    refine go_qlst (Nat.le_of_ble_eq_true rfl) (fun p hp => ?_)
    refine k p _ (same_new hp _) ⟨a, ns, 0, _, 0, upd_same, hS.mono (TK.new hp), hl, Int.le_refl _, ?_, ?_⟩
    · split <;> omega
    · split <;> omega
end
theorem nx_go {K : PySem.W.Frag} {H : Hp} {d : Addr} {many : Int} {Q : VK} {E : XK} (D : Dice K H d) (h0 : 0 < many) (h1 : many < 1073741824) (k : ∀ (r : Int) (H' : Hp), 0 ≤ r → r < many → Dice K H' d → Off d H H' → Q (.int r) H') : spNext K [.ref d, .int many] H Q E := ⟨d, many, rfl, D, h0, h1, k⟩
theorem Dice.tk {K : PySem.W.Frag} {H H' : Hp} {d : Addr} (D : Dice K H d) (o : Off d H H') : TK H H' := by
  obtain ⟨a, ns, i, m, r, h, _⟩ := D.ex
  exact o.tk h
theorem Dice.same {K : PySem.W.Frag} {H H' : Hp} {d : Addr} (D : Dice K H d) (s : Same H H') : Dice K H' d := by
  obtain ⟨a, ns, i, m, r, h, hs, q⟩ := D.ex
  exact ⟨a, ns, i, m, r, s _ _ h, hs.mono s.tk, q⟩
theorem Dice.ne {K : PySem.W.Frag} {H : Hp} {d a : Addr} {xs : List V} (D : Dice K H d) (h : H a = some (.tup xs)) : a ≠ d := by
  obtain ⟨_, ns, i, m, r, hd, _⟩ := D.ex
  exact ne_of h hd (by intro z; cases z)
theorem Dice.nef {K : PySem.W.Frag} {H : Hp} {d p : Addr} (D : Dice K H d) (h : H p = none) : p ≠ d := by
  obtain ⟨_, ns, i, m, r, hd, _⟩ := D.ex
  exact (ne_of_none hd h).symm
theorem lst_off {K : PySem.W.Frag} {H H' H0 : Hp} {d p : Addr} {u : HO} (o : Off d H H') (hn : H0 p = none) (D : Dice K H0 d) (h : H p = some u) : H' p = some u := o _ _ h (D.nef hn)
theorem Dice.keep {K : PySem.W.Frag} {H H' : Hp} {d : Addr} (D : Dice K H d) (t : TK H H') (h : ∀ o, H d = some o → H' d = some o) : Dice K H' d := by
  obtain ⟨a, ns, i, m, r, hd, hs, q⟩ := D.ex
  exact ⟨a, ns, i, m, r, h _ hd, hs.mono t, q⟩
theorem Dice.updL {K : PySem.W.Frag} {H : Hp} {d p : Addr} {o : HO} {ys : List V} (D : Dice K H d) (h : H p = some (.lst ys)) (n : d ≠ p) : Dice K (upd H p o) d := D.keep (TK.updL h) fun u q => by rw [upd_ne n]; exact q
theorem off_fresh {d p : Addr} {H H' : Hp} {o : HO} (h : H p = none) (s : Off d H H') : Off d H (upd H' p o) := fun b u q n => by rw [upd_ne (ne_of_none q h)]; exact s b u q n
theorem tup_off {K : PySem.W.Frag} {H H' : Hp} {d a : Addr} {xs : List V} (o : Off d H H') (D : Dice K H d) (h : H a = some (.tup xs)) : H' a = some (.tup xs) := D.tk o a _ True.intro h
end Lw
set_option Elab.async false
set_option linter.all false
set_option maxRecDepth 100000
set_option maxHeartbeats 4000000
namespace Lw
open PySem L2
local macro_rules | `(tactic| walk_at "lw_hp") => `(tactic| (repeat (first | assumption | exact upd_same | (refine' upd_new (by assumption) ?_) | (refine' tup_off (by assumption) (by assumption) ?_) | (refine' lst_off (by assumption) (by assumption) (by assumption) ?_) | (refine' Same.get (by assumption) ?_) | (refine' Off.get (by assumption) (by assumption) ?_) | (refine' upd_oth (by assumption) ?_))))
local macro_rules | `(tactic| walk_at "lw_go") => `(tactic| (repeat (first | (with_reducible (first | refine go_var rfl ?_ | refine go_c ?_ | refine go_cons ?_ | refine go_op ?_ | refine go_nil ?_ | refine go_seq ?_ | refine go_qb ?_ | refine go_test ?_ | refine go_ifS ?_ | refine go_gname ?_ | refine go_cb ?_)) | ((with_reducible refine' go_ixT ?hp ?ha ?_); (case hp => walk_at "lw_hp"); (case ha => first | rfl | assumption)) | (with_reducible (first | refine go_asg ?_ | refine go_callC ?_ | refine go_next ?_ | refine go_tup ?_ | refine go_i0 ?_ | refine go_ret ?_ | refine go_dget ?_ | refine go_gcons ?_ | refine go_gsub ?_ | refine go_testB ?_)) | ((with_reducible refine' go_ixL ?hp ?ha ?_); (case hp => walk_at "lw_hp"); (case ha => first | rfl | assumption)) | (with_reducible (first | refine' go_ixLs (by assumption) (by assumption) ?_ | refine go_lst ?_)) | ((with_reducible refine' go_i ?cc ?_); (case cc => first | omega | (simp only [CDiv, CMul, CPow]; omega) | (simp only [CDiv, CMul, CPow]; decide))) | (with_reducible (first | refine go_drop ?_ | refine go_eqI ?_ | refine go_eqS ?_ | refine go_eqB ?_ | refine go_eq (by rfl) ?_ | refine go_gnil ?_ | refine go_iteT ?_ | refine go_iteF ?_ | refine go_iteNt ?_ | refine go_iteNf ?_ | refine go_iteNN ?_)) | (with_reducible refine go_iteDT (by first | assumption | rfl | omega | (simp only [List.length_cons, List.length_nil, List.length_map]; omega)) ?_) | (with_reducible refine go_iteDF (by first | assumption | omega | decide | decide +kernel | (simp only [List.length_cons, List.length_nil, List.length_map]; omega)) ?_) | (with_reducible refine go_iteNT (by first | assumption | rfl | omega | (simp only [List.length_cons, List.length_nil, List.length_map]; omega)) ?_) | (with_reducible refine go_iteNF (by first | assumption | omega | decide | decide +kernel | (simp only [List.length_cons, List.length_nil, List.length_map]; omega)) ?_) | (with_reducible refine go_iteBT (by first | assumption | decide +kernel) ?_) | (with_reducible refine go_iteBF (by first | assumption | decide +kernel) ?_) | (with_reducible (first | refine go_dput ?_ | refine go_setD ?_)) | ((with_reducible refine' go_gtup ?hp ?ha ?_); (case hp => walk_at "lw_hp"); (case ha => first | rfl | assumption)) | (with_reducible refine go_if ?_) | ((with_reducible refine' go_setL ?hp ?ha ?_); (case hp => walk_at "lw_hp"); (case ha => first | rfl | assumption)) | (with_reducible (first | refine go_not ?_ | refine go_or ?_ | refine go_andV ?_ | refine go_sl ?_ | refine go_nopart ?_ | refine go_part ?_ | refine go_qI ?_ | refine' go_lenLs (by assumption) ?_)) | ((with_reducible refine' go_lenL ?hp ?_); (case hp => walk_at "lw_hp")) | ((with_reducible refine' go_lenT ?hp ?_); (case hp => walk_at "lw_hp")) | ((with_reducible refine' go_inT ?hp ?ha ?hb ?_); (case hp => walk_at "lw_hp"); (case ha => rfl); (case hb => rfl)) | ((with_reducible refine' go_notInT ?hp ?ha ?hb ?_); (case hp => walk_at "lw_hp"); (case ha => rfl); (case hb => rfl)) | (with_reducible (first | refine go_pnil ?_ | refine go_pcons ?_ | refine go_un ?_ | refine go_u ?_ | refine go_for ?_ | refine go_rng1 ?_ | refine go_qrng1 (by omega) (by omega) ?_ | refine go_notN_non ?_ | refine go_notN_int ?_ | refine go_notN_str ?_ | refine go_notN_bl ?_ | refine go_notN_ref ?_ | refine go_min ?_ | refine go_bm ?_ | refine go_lc ?_)) | ((with_reducible refine' go_qbm ?hp ?_); (case hp => walk_at "lw_hp")) | (with_reducible (first | refine go_int ?_ | refine go_intB ?_ | refine go_yes ?_ | refine go_and ?_ | refine go_notV ?_ | refine go_iL ?_)) | ((with_reducible refine' go_glst ?hp ?ha ?_); (case hp => walk_at "lw_hp"); (case ha => first | rfl | assumption)) | ((with_reducible refine' go_qiL ?hp ?_); (case hp => walk_at "lw_hp")) | (with_reducible (first | refine go_par ?_ | refine go_gpar ?_ | refine go_isN_non ?_ | refine go_isN_int ?_ | refine go_isN_str ?_ | refine go_isN_bl ?_ | refine go_isN_ref ?_ | refine go_neI ?_ | refine go_neS ?_ | refine go_neB ?_ | refine go_iT ?_ | refine go_ne (by rfl) ?_)) | ((with_reducible refine' go_ixAL ?hp ?ha ?_); (case hp => walk_at "lw_hp"); (case ha => first | rfl | assumption)) | ((with_reducible refine' go_ixAT ?hp ?ha ?_); (case hp => walk_at "lw_hp"); (case ha => first | rfl | assumption)) | ((with_reducible refine' go_qiT ?hp ?_); (case hp => walk_at "lw_hp")) | (with_reducible (first | refine go_is_non_int ?_ | refine go_is_non_bool ?_ | refine go_is_non_str ?_ | refine go_is_non_tuple ?_ | refine go_is_non_list ?_ | refine go_is_bl_int ?_ | refine go_is_bl_bool ?_ | refine go_is_bl_str ?_ | refine go_is_bl_tuple ?_ | refine go_is_bl_list ?_ | refine go_is_int_int ?_ | refine go_is_int_bool ?_ | refine go_is_int_str ?_ | refine go_is_int_tuple ?_ | refine go_is_int_list ?_ | refine go_is_str_int ?_ | refine go_is_str_bool ?_ | refine go_is_str_str ?_ | refine go_is_str_tuple ?_ | refine go_is_str_list ?_)) | ((with_reducible refine' go_is_lst_int ?hp ?_); (case hp => walk_at "lw_hp")) | ((with_reducible refine' go_is_lst_bool ?hp ?_); (case hp => walk_at "lw_hp")) | ((with_reducible refine' go_is_lst_str ?hp ?_); (case hp => walk_at "lw_hp")) | ((with_reducible refine' go_is_lst_tuple ?hp ?_); (case hp => walk_at "lw_hp")) | ((with_reducible refine' go_is_lst_list ?hp ?_); (case hp => walk_at "lw_hp")) | ((with_reducible refine' go_is_tup_int ?hp ?_); (case hp => walk_at "lw_hp")) | ((with_reducible refine' go_is_tup_bool ?hp ?_); (case hp => walk_at "lw_hp")) | ((with_reducible refine' go_is_tup_str ?hp ?_); (case hp => walk_at "lw_hp")) | ((with_reducible refine' go_is_tup_tuple ?hp ?_); (case hp => walk_at "lw_hp")) | ((with_reducible refine' go_is_tup_list ?hp ?_); (case hp => walk_at "lw_hp")) | (with_reducible (first | refine go_max ?_ | refine go_bm0 ?_ | refine go_chain ?_ | refine go_qch ?_)) | ((with_reducible refine' go_qbm0 ?hp ?_); (case hp => walk_at "lw_hp")) | (with_reducible (first | refine go_retN ?_ | refine go_orV ?_ | refine go_whQ ?_ | refine go_rng2 ?_ | refine go_qrng2 (by omega) (by omega) (by omega) (by omega) ?_ | refine go_rvr ?_ | refine go_qrvr (by omega) (by omega) ?_ | refine go_rng3 ?_ | refine go_qrng3 (by omega) (by omega) (by omega) (by omega) ?_ | refine go_lr2 ?_ | refine go_enum ?_ | refine go_aug rfl ?_ | refine go_ipI ?_)) | ((with_reducible refine' go_qenum ?hp ?_); (case hp => walk_at "lw_hp")) | ((with_reducible refine' go_sumL ?hp ?_); (case hp => walk_at "lw_hp")))))
abbrev s_is_number : Stmt := top 7
def Plain (H : Hp) (x : V) : Prop := (∃ n, x = .int n) ∨ (∃ b, x = .bl b) ∨ x = .non ∨ (∃ t, x = .str t) ∨ ∃ a xs, x = .ref a ∧ (H a = some (.lst xs) ∨ H a = some (.tup xs))
def numV (x : V) (lo hi : Int) : Bool := match x with
  | .int n => decide (lo ≤ n ∧ n ≤ hi)
  | _ => false
def spIsNum : Sp := fun vs H Q _ => ∃ (x : V) (lo hi : Int), vs = [x, .int lo, .int hi] ∧ Plain H x ∧ Q (.bl (numV x lo hi)) H
theorem int_of {ns : List Int} {i : Nat} {x : V} (h : (ns.map V.int)[i]? = some x) : ∃ n, x = .int n ∧ ns[i]? = some n := by
  rw [List.getElem?_map] at h
  cases e : ns[i]? with
  | none => rw [e] at h; cases h
  | some z => rw [e] at h; exact ⟨z, (Option.some.inj h).symm, rfl⟩
theorem mem_of {ns : List Int} {i : Nat} {n : Int} (h : ns[i]? = some n) : n ∈ ns := List.mem_of_getElem? h
theorem num_go {H : Hp} {Q : VK} {E : XK} {n lo hi : Int} (h0 : lo ≤ n) (h1 : n ≤ hi) (q : Q (.bl true) H) : spIsNum [.int n, .int lo, .int hi] H Q E := ⟨.int n, lo, hi, rfl, .inl ⟨n, rfl⟩, by rw [show numV (.int n) lo hi = true from decide_eq_true ⟨h0, h1⟩]; exact q⟩
section
variable {P : Program} {w : World} {K : PySem.W.Frag} {mg : Str → Option Value} {base : Heap} {f : Addr} {fd : FuncData}
theorem scs_is_number : FnScope ["thing", "low", "high"] ["thing", "low", "high"] (defScope s_is_number) := ⟨rfl, rfl, rfl, by decide +kernel, rfl, by decide +kernel, by decide +kernel⟩
theorem ok_isnum (F : Fun K "is_number" "is_number" s_is_number f fd) (T : Txt mg) : FnOk P w K mg base CX0 1 f fd ["thing", "low", "high"] spIsNum := by
  refine F.ok scs_is_number (fun vs H Q E h => ?_) (fun cdv A outer s H vs Q E hr h => ?_)
  · obtain ⟨x, lo, hi, rfl, _⟩ := h
    rfl
  obtain ⟨x, lo, hi, rfl, hx, k⟩ := h
  have nd := scs_is_number.nd
  have hu := hu_of hr
  refine ⟨_, (pss_one (ps_ret (pe_and (pe_callB (kIsinst K) (by rfl) T.n_isinstance (by decide +kernel) (pa_cons (pv 0) (pa_cons (pe_bltn (v := .ty "int") (by rfl) T.n_int (by decide +kernel) rfl) pa_nil))) (pe_and (pe_not (pe_callB (kIsinst K) (by rfl) T.n_isinstance (by decide +kernel) (pa_cons (pv 0) (pa_cons (pe_bltn (v := .ty "bool") (by rfl) T.n_bool (by decide +kernel) rfl) pa_nil)))) (pe_one (pe_chain op_le op_le (pv 1) (pv 0) (pv 2))))))), ?_⟩
  rcases hx with ⟨n, rfl⟩ | ⟨b, rfl⟩ | rfl | ⟨t, rfl⟩ | ⟨a, xs, rfl, ha | ha⟩
  · walk_at "lw_go"
    refine go_iteD (fun c => ?_) (fun c => ?_)
    · walk_at "lw_go"
      have e : numV (.int n) lo hi = decide (n ≤ hi) := by
        unfold numV
        exact decide_eq_decide.mpr ⟨fun z => z.2, fun z => ⟨c, z⟩⟩
      rw [e] at k
      exact k
    · have e : numV (.int n) lo hi = false := decide_eq_false (fun z => c z.1)
      rw [e] at k
      exact k
  all_goals
    walk_at "lw_go"
    exact k
end
end Lw
set_option Elab.async false
set_option linter.all false
set_option maxRecDepth 100000
set_option maxHeartbeats 4000000
namespace Lw
open PySem L2
local macro_rules | `(tactic| walk_at "lw_hp") => `(tactic| (repeat (first | assumption | exact upd_same | (refine' upd_new (by assumption) ?_) | (refine' tup_off (by assumption) (by assumption) ?_) | (refine' lst_off (by assumption) (by assumption) (by assumption) ?_) | (refine' Same.get (by assumption) ?_) | (refine' Off.get (by assumption) (by assumption) ?_) | (refine' upd_oth (by assumption) ?_))))
abbrev s_check_weights : Stmt := top 13
abbrev s_check_falls : Stmt := top 14
abbrev s_check_price : Stmt := top 15
def spCkW : Sp := fun vs H Q _ => ∃ (w : Addr) (W : List Int), vs = [.ref w] ∧ H w = some (.lst (W.map V.int)) ∧ W.length ≤ 60 ∧ (∀ x ∈ W, 1 ≤ x ∧ x ≤ 99) ∧ ∀ H', Same H H' → Q .non H'
def spCkF : Sp := fun vs H Q _ => ∃ (f : Addr) (F : List Int) (n : Int), vs = [.ref f, .int n] ∧ H f = some (.lst (F.map V.int)) ∧ F.length ≤ 20 ∧ (∀ x ∈ F, 0 ≤ x ∧ x ≤ n) ∧ F.Pairwise (· ≤ ·) ∧ ∀ H', Same H H' → Q .non H'
def spCkP : Sp := fun vs H Q _ => ∃ (n : Int), vs = [.int n] ∧ 0 ≤ n ∧ n ≤ 999 ∧ Q .non H
section
variable {P : Program} {w : World} {K : PySem.W.Frag} {mg : Str → Option Value} {base : Heap} {f : Addr} {fd : FuncData}
theorem scs_check_weights : FnScope ["weights", "number", "weight"] ["weights"] (defScope s_check_weights) := ⟨rfl, rfl, rfl, by decide +kernel, rfl, by decide +kernel, by decide +kernel⟩
theorem ok_ckw (F : Fun K "check_weights" "check_weights" s_check_weights f fd) (T : Txt mg) (C_is_number : FnC P w K mg base 1 "is_number" ["thing", "low", "high"] spIsNum) : FnOk P w K mg base CX0 2 f fd ["weights"] spCkW := by
  refine F.ok scs_check_weights (fun vs H Q E h => ?_) (fun cdv A outer s H vs Q E hr h => ?_)
  · obtain ⟨a, W, rfl, _⟩ := h
    rfl
  obtain ⟨a, W, rfl, hw, hl, hb, k⟩ := h
  have nd := scs_check_weights.nd
  have hu := hu_of hr
  refine ⟨_, (pss_cons (ps_if (pt_not (pt_val (pe_callB (kIsinst K) (by rfl) T.n_isinstance (by decide +kernel) (pa_cons (pv 0) (pa_cons (pe_bltn (v := .ty "list") (by rfl) T.n_list (by decide +kernel) rfl) pa_nil))))) (pss_one ps_never) pss_nil)
      (pss_one (ps_for PassesOwn.never rfl (pi_enum (by rfl) T.n_enumerate (pa_cons (pv 0) pa_nil)) (kPgT K (by rfl) (pgs_cons (pg_name (i := 1) nd rfl (Or.inl rfl)) (pgs_cons (pg_name (i := 2) nd rfl (Or.inl rfl)) pgs_nil))) (pss_one (ps_if (PW.pt (pw_or (pt_cmpR op_eq (pv 1) (pe_gint (by rfl) T.g_MOST_STEPS) (nomark _)) (pw_or1 (pt_not (pt_val (pe_callC C_is_number (hr.mono (by omega)) (by rfl) (pa_cons (pv 2) (pa_cons pe_int (pa_cons (pe_gint (by rfl) T.g_MOST_WEIGHT) pa_nil))))))))) (pss_one ps_never) pss_nil))))), ?_⟩
  with_reducible refine go_seq (go_ifS (go_not (go_testB (go_cb ?_))))
  with_reducible refine go_cons (go_var rfl (go_cons (go_c (go_nil ?_))))
  (with_reducible refine' go_is_lst_list ?hp ?_); (case hp => walk_at "lw_hp")
  with_reducible refine go_qb (go_iteNt (go_next (go_for (go_enum ?_))))
  with_reducible refine go_cons (go_var rfl (go_nil ?_))
  (with_reducible refine' go_qenum ?hp ?_); (case hp => walk_at "lw_hp")
  refine fq_enum (W.map V.int) (fun i σ H' => ∃ v v', σ = [some (.ref a), v, v'] ∧ Same H H') ⟨none, none, rfl, Same.refl H⟩ ?_ ?_ ?_
  · rintro i σ H' _ ⟨v, v', rfl, sm⟩
    exact SqL.of (sm _ _ hw)
  · rintro i x σ H' t hx ht ⟨v, v', rfl, sm⟩
    obtain ⟨n, rfl, hn⟩ := int_of hx
    have hi : i < W.length := (List.getElem?_eq_some_iff.mp hn).1
    have hbn := hb n (mem_of hn)
    (with_reducible refine' go_gtup ?hp ?ha ?_); (case hp => walk_at "lw_hp"); (case ha => first | rfl | assumption)
    with_reducible refine go_gcons (go_gname (go_gcons (go_gname (go_gnil ?_))))
    with_reducible refine go_ifS (go_or (go_test (go_op (go_var rfl ?_))))
    with_reducible refine go_c (go_eqI (go_qb (go_iteDF (by first | assumption | omega | decide | decide +kernel | (simp only [List.length_cons, List.length_nil, List.length_map]; omega)) (go_not ?_))))
    with_reducible refine go_testB (go_callC (go_cons (go_var rfl (go_cons ?_))))
    with_reducible refine go_c (go_cons (go_c (go_nil ?_)))
    refine ⟨.int n, 1, 99, rfl, .inl ⟨n, rfl⟩, ?_⟩
    rw [show numV (.int n) 1 99 = true from decide_eq_true hbn]
    with_reducible refine go_qb (go_iteNt (go_next ?_))
    exact ⟨_, _, rfl, sm.trans (same_new ht _)⟩
  · rintro σ H' ⟨v, v', rfl, sm⟩
    skip
    exact k _ sm
theorem scs_check_falls : FnScope ["falls", "steps", "low", "number", "fall"] ["falls", "steps"] (defScope s_check_falls) := ⟨rfl, rfl, rfl, by decide +kernel, rfl, by decide +kernel, by decide +kernel⟩
theorem ok_ckf (F : Fun K "check_falls" "check_falls" s_check_falls f fd) (T : Txt mg) (C_is_number : FnC P w K mg base 1 "is_number" ["thing", "low", "high"] spIsNum) : FnOk P w K mg base CX0 2 f fd ["falls", "steps"] spCkF := by
  refine F.ok scs_check_falls (fun vs H Q E h => ?_) (fun cdv A outer s H vs Q E hr h => ?_)
  · obtain ⟨a, W, n, rfl, _⟩ := h
    rfl
  obtain ⟨a, W, m, rfl, hw, hl, hb, hp, k⟩ := h
  have nd := scs_check_falls.nd
  have hu := hu_of hr
  refine ⟨_, (pss_cons (ps_if (pt_not (pt_val (pe_callB (kIsinst K) (by rfl) T.n_isinstance (by decide +kernel) (pa_cons (pv 0) (pa_cons (pe_bltn (v := .ty "list") (by rfl) T.n_list (by decide +kernel) rfl) pa_nil))))) (pss_one ps_never) pss_nil)
      (pss_cons (ps_set (i := 2) nd rfl (Or.inl rfl) pe_int)
      (pss_one (ps_for PassesOwn.never rfl (pi_enum (by rfl) T.n_enumerate (pa_cons (pv 0) pa_nil)) (kPgT K (by rfl) (pgs_cons (pg_name (i := 3) nd rfl (Or.inl rfl)) (pgs_cons (pg_name (i := 4) nd rfl (Or.inl rfl)) pgs_nil))) (pss_cons (ps_if (PW.pt (pw_or (pt_cmpR op_eq (pv 3) (pe_gint (by rfl) T.g_MOST_FALLS) (nomark _)) (pw_or1 (pt_not (pt_val (pe_callC C_is_number (hr.mono (by omega)) (by rfl) (pa_cons (pv 4) (pa_cons (pv 2) (pa_cons (pv 1) pa_nil))))))))) (pss_one ps_never) pss_nil)
      (pss_one (ps_set (i := 2) nd rfl (Or.inl rfl) (pv 4)))))))), ?_⟩
  with_reducible refine go_seq (go_ifS (go_not (go_testB (go_cb ?_))))
  with_reducible refine go_cons (go_var rfl (go_cons (go_c (go_nil ?_))))
  (with_reducible refine' go_is_lst_list ?hp ?_); (case hp => walk_at "lw_hp")
  with_reducible refine go_qb (go_iteNt (go_next (go_seq (go_asg ?_))))
  with_reducible refine go_c (go_gname (go_for (go_enum (go_cons ?_))))
  with_reducible refine go_var rfl (go_nil ?_)
  (with_reducible refine' go_qenum ?hp ?_); (case hp => walk_at "lw_hp")
  refine fq_enum (W.map V.int) (fun i σ H' => ∃ lo v v', σ = [some (.ref a), some (.int m), some (.int lo), v, v'] ∧ (∀ (j : Nat) x, i ≤ j → W[j]? = some x → lo ≤ x) ∧ Same H H') ⟨0, none, none, rfl, fun j x _ e => (hb x (mem_of e)).1, Same.refl H⟩ ?_ ?_ ?_
  · rintro i σ H' _ ⟨lo, v, v', rfl, _, sm⟩
    exact SqL.of (sm _ _ hw)
  · rintro i x σ H' t hx ht ⟨lo, v, v', rfl, hlo, sm⟩
    obtain ⟨n, rfl, hn⟩ := int_of hx
    have hi : i < W.length := (List.getElem?_eq_some_iff.mp hn).1
    have hbn := hb n (mem_of hn)
    have h0 := hlo i n (Nat.le_refl _) hn
    (with_reducible refine' go_gtup ?hp ?ha ?_); (case hp => walk_at "lw_hp"); (case ha => first | rfl | assumption)
    with_reducible refine go_gcons (go_gname (go_gcons (go_gname (go_gnil ?_))))
    with_reducible refine go_seq (go_ifS (go_or (go_test (go_op ?_))))
    with_reducible refine go_var rfl (go_c (go_eqI (go_qb (go_iteDF (by first | assumption | omega | decide | decide +kernel | (simp only [List.length_cons, List.length_nil, List.length_map]; omega)) ?_))))
    with_reducible refine go_not (go_testB (go_callC (go_cons (go_var rfl ?_))))
    with_reducible refine go_cons (go_var rfl (go_cons (go_var rfl (go_nil ?_))))
    refine ⟨.int n, lo, m, rfl, .inl ⟨n, rfl⟩, ?_⟩
    rw [show numV (.int n) lo m = true from decide_eq_true ⟨h0, hbn.2⟩]
    with_reducible refine go_qb (go_iteNt (go_next (go_asg (go_var rfl ?_))))
    with_reducible refine go_gname ?_
    refine ⟨n, _, _, rfl, fun j x hj e => ?_, sm.trans (same_new ht _)⟩
    obtain ⟨l1, e1⟩ := List.getElem?_eq_some_iff.mp hn
    obtain ⟨l2, e2⟩ := List.getElem?_eq_some_iff.mp e
    rw [← e1, ← e2]
    exact List.pairwise_iff_getElem.mp hp i j l1 l2 (by omega)
  · rintro σ H' ⟨lo, v, v', rfl, _, sm⟩
    skip
    exact k _ sm
theorem scs_check_price : FnScope ["price"] ["price"] (defScope s_check_price) := ⟨rfl, rfl, rfl, by decide +kernel, rfl, by decide +kernel, by decide +kernel⟩
theorem ok_ckp (F : Fun K "check_price" "check_price" s_check_price f fd) (T : Txt mg) (C_is_number : FnC P w K mg base 1 "is_number" ["thing", "low", "high"] spIsNum) : FnOk P w K mg base CX0 2 f fd ["price"] spCkP := by
  refine F.ok scs_check_price (fun vs H Q E h => ?_) (fun cdv A outer s H vs Q E hr h => ?_)
  · obtain ⟨n, rfl, _⟩ := h
    rfl
  obtain ⟨n, rfl, h0, h1, k⟩ := h
  have nd := scs_check_price.nd
  have hu := hu_of hr
  refine ⟨_, (pss_one (ps_if (pt_not (pt_val (pe_callC C_is_number (hr.mono (by omega)) (by rfl) (pa_cons (pv 0) (pa_cons pe_int (pa_cons (pe_gint (by rfl) T.g_MOST_PRICE) pa_nil)))))) (pss_one ps_never) pss_nil)), ?_⟩
  with_reducible refine go_ifS (go_not (go_testB (go_callC (go_cons ?_))))
  with_reducible refine go_var rfl (go_cons (go_c (go_cons (go_c ?_))))
  with_reducible refine go_nil ?_
  refine ⟨.int n, 0, 999, rfl, .inl ⟨n, rfl⟩, ?_⟩
  rw [show numV (.int n) 0 999 = true from decide_eq_true ⟨h0, h1⟩]
  with_reducible refine go_qb (go_iteNt (go_next ?_))
  exact k
end
end Lw
set_option Elab.async false
set_option linter.all false
set_option maxRecDepth 100000
set_option maxHeartbeats 4000000
namespace Lw
open PySem L2
local macro_rules | `(tactic| walk_at "lw_hp") => `(tactic| (repeat (first | assumption | exact upd_same | (refine' upd_new (by assumption) ?_) | (refine' tup_off (by assumption) (by assumption) ?_) | (refine' lst_off (by assumption) (by assumption) (by assumption) ?_) | (refine' Same.get (by assumption) ?_) | (refine' Off.get (by assumption) (by assumption) ?_) | (refine' upd_oth (by assumption) ?_))))
abbrev s_done_again : Stmt := top 17
theorem cut_ints (W : List Int) {a b : Int} (h0 : 0 ≤ a) (h1 : 0 ≤ b) (h2 : b ≤ W.length) : cutV (W.map V.int) (some a) (some b) = ((W.drop a.toNat).take (b.toNat - a.toNat)).map V.int := by
  unfold cutV
  rw [List.length_map]
  have e1 : HT.sIx W.length 0 (some a) = min a.toNat W.length := by
    show (if a < 0 then _ else _) = _
    rw [if_neg (by omega)]
  have e2 : HT.sIx W.length W.length (some b) = b.toNat := by
    show (if b < 0 then _ else min b.toNat W.length) = _
    rw [if_neg (by omega)]
    omega
  rw [e1, e2, List.map_take, List.map_drop]
  by_cases c : a.toNat ≤ W.length
  · rw [Nat.min_eq_left c]
  · rw [Nat.min_eq_right (by omega), List.drop_eq_nil_of_le (by simp), List.drop_eq_nil_of_le (by simp; omega), List.take_nil, List.take_nil]
def spAgain : Sp := fun vs H Q _ => ∃ (w f : Addr) (W F : List Int) (s e : Int), vs = [.ref w, .ref f, .int s, .int e] ∧ H w = some (.lst (W.map V.int)) ∧ H f = some (.lst (F.map V.int)) ∧ F.length ≤ 1000 ∧ 0 ≤ s ∧ (∀ x ∈ F, 0 ≤ x ∧ x ≤ W.length) ∧
  ∀ H', Same H H' → Q (.int (againM W F s e)) H'
theorem again_snoc (W F : List Int) (s e : Int) {i : Nat} {n : Int} (h : F[i]? = some n) (l : List Int) (hl : l = ((F.take i).filter fun f => decide (s ≤ f) && decide (f < e)).map (fun f => seg W s f)) :
    ((F.take (i + 1)).filter fun f => decide (s ≤ f) && decide (f < e)).map (fun f => seg W s f) = if (decide (s ≤ n) && decide (n < e)) = true then l ++ [seg W s n] else l := by
  rw [take_snoc h, List.filter_append, List.map_append, List.filter_cons, List.filter_nil]
  by_cases c : (decide (s ≤ n) && decide (n < e)) = true
  · rw [if_pos c, if_pos c, hl]; rfl
  · rw [if_neg c, if_neg c, hl, List.map_nil, List.append_nil]
section
variable {P : Program} {w : World} {K : PySem.W.Frag} {mg : Str → Option Value} {base : Heap} {f : Addr} {fd : FuncData}
theorem scs_done_again : FnScope ["weights", "falls", "start", "stop", "fall"] ["weights", "falls", "start", "stop"] (defScope s_done_again) := ⟨rfl, rfl, rfl, by decide +kernel, rfl, by decide +kernel, by decide +kernel⟩
theorem ok_again (F : Fun K "done_again" "done_again" s_done_again f fd) (T : Txt mg) : FnOk P w K mg base CX0 1 f fd ["weights", "falls", "start", "stop"] spAgain := by
  refine F.ok scs_done_again (fun vs H Q E h => ?_) (fun cdv A outer s H vs Q E hr h => ?_)
  · obtain ⟨a, b, W, F, s, e, rfl, _⟩ := h
    rfl
  obtain ⟨a, b, W, F, s, e, rfl, hw, hf, hl, hs, hb, k⟩ := h
  have nd := scs_done_again.nd
  have hu := hu_of hr
  refine ⟨_, (pss_one (ps_ret (pe_callB (kSum K rfl) (by rfl) T.n_sum (by decide +kernel) (pa_cons (pe_lc rfl nd (kPiL K (pv 1)) (blkOk_by (own := [("fall", 4)]) (by show blkC ["weights", "falls", "start", "stop", "fall"] (defScope s_done_again) _ _ = true; decide +kernel)) (fun _ _ _ _ _ => (pg_name (i := 4) nd rfl (Or.inl rfl))) (fun _ _ _ _ _ => (pts_one (pt_chain op_le op_lt (pv 2) (pv 4) (pv 3)))) (fun _ _ _ _ _ => (pe_callB (kSum K rfl) (by rfl) T.n_sum (by decide +kernel) (pa_cons (pe_slice (kSlL K) (pv 0) (po_some (pv 2)) (po_some (pv 4))) pa_nil)))) pa_nil)))), ?_⟩
  with_reducible refine go_ret (go_cb (go_cons (go_lc (go_iL ?_))))
  with_reducible refine go_var rfl ?_
  (with_reducible refine' go_qiL ?hp ?_); (case hp => walk_at "lw_hp")
  refine lq_list (F.map V.int) (fun D hD => ?_)
  refine ⟨fun i H' => Same H H' ∧ H' D = some (.lst ((((F.take i).filter fun f => decide (s ≤ f) && decide (f < e)).map (fun f => seg W s f)).map V.int)), ⟨same_new hD _, upd_same⟩, ?_, ?_, ?_⟩
  · rintro i H' _ ⟨sm, _⟩
    exact SqL.of (sm _ _ hf)
  · rintro i x H' hx ⟨sm, hd⟩
    obtain ⟨n, rfl, hn⟩ := int_of hx
    have hbn := hb n (mem_of hn)
    have nxt := again_snoc W F s e hn _ rfl
    have len : (((F.take i).filter fun f => decide (s ≤ f) && decide (f < e)).map (fun f => seg W s f)).length ≤ 1000 := by
      rw [List.length_map]
      refine Nat.le_trans (List.length_filter_le _ _) ?_
      rw [List.length_take]
      omega
    generalize ((F.take i).filter fun f => decide (s ≤ f) && decide (f < e)).map (fun f => seg W s f) = l at hd len nxt
    refine go_gname ⟨rfl, ?_⟩
    with_reducible refine go_test (go_chain (go_var rfl (go_var rfl (go_i0 ?_))))
    with_reducible refine go_qch ?_
    refine go_iteD (fun c => ?_) (fun c => ?_)
    · with_reducible refine go_var rfl (go_i0 (go_qb ?_))
      refine go_iteD (fun c' => ?_) (fun c' => ?_)
      · with_reducible refine go_cb (go_cons (go_sl (go_var rfl (go_part ?_))))
        with_reducible refine go_var rfl (go_qI (go_part (go_var rfl (go_qI ?_))))
        refine go_slL (sm _ _ hw) (fun z hz => ?_)
        rw [cut_ints W hs hbn.1 hbn.2]
        with_reducible refine go_nil ?_
        (with_reducible refine' go_sumL ?hp ?_); (case hp => walk_at "lw_hp")
        have nz : D ≠ z := ne_of_none hd hz
        refine go_lcA (upd_new hz hd) (small_line (by rw [List.length_map]; omega)) ?_
        refine ⟨same_upd hD (sm.trans (same_new hz _)), ?_⟩
        rw [nxt, if_pos (by simp [c, c']), upd_same, List.map_append]
        rfl
      · skip
        refine ⟨sm, ?_⟩
        rw [nxt, if_neg (by simp [c, c'])]
        exact hd
    · with_reducible refine go_qb (go_iteF ?_)
      refine ⟨sm, ?_⟩
      rw [nxt, if_neg (by simp [c])]
      exact hd
  · rintro H' ⟨sm, hd⟩
    rw [show (F.map V.int).length = F.length from List.length_map _, List.take_length] at hd
    with_reducible refine go_nil ?_
    (with_reducible refine' go_sumL ?hp ?_); (case hp => walk_at "lw_hp")
    exact k _ sm
end
end Lw
set_option Elab.async false
set_option linter.all false
set_option maxRecDepth 100000
set_option maxHeartbeats 4000000
namespace Lw
open PySem L2
local macro_rules | `(tactic| walk_at "lw_hp") => `(tactic| (repeat (first | assumption | exact upd_same | (refine' upd_new (by assumption) ?_) | (refine' tup_off (by assumption) (by assumption) ?_) | (refine' lst_off (by assumption) (by assumption) (by assumption) ?_) | (refine' Same.get (by assumption) ?_) | (refine' Off.get (by assumption) (by assumption) ?_) | (refine' upd_oth (by assumption) ?_))))
abbrev s_best_behind : Stmt := top 19
theorem lx_eq : ∀ a b : List Int, HT.lexLt a b = lxLt a b
  | [], [] => rfl
  | [], _ :: _ => rfl
  | _ :: _, [] => rfl
  | x :: xs, y :: ys => by rw [HT.lexLt_cons, lxLt, lx_eq xs ys]
theorem pr_eq (a b : Int × List Int) : pLt a b = prLt a b := by
  unfold pLt prLt
  rw [lx_eq]
def PrN (H H' : Hp) (y : Int × List Int) (q : Addr) : Prop := ∃ l, H' q = some (.tup [.int y.1, .ref l]) ∧ H' l = some (.lst (y.2.map V.int)) ∧ H l = none
def spBeh : Sp := fun vs H Q _ => ∃ (s p : Int) (w f d : Addr) (W F : List Int) (kvs : List (Key × V)) (B : Nat → Int × List Int), vs = [.int s, .ref w, .ref f, .int p, .ref d] ∧ H w = some (.lst (W.map V.int)) ∧ H f = some (.lst (F.map V.int)) ∧ H d = some (.dK kvs) ∧
  F.length ≤ 1000 ∧ W.length ≤ 1000 ∧ 0 ≤ s ∧ s ≤ 1000 ∧ (∀ x ∈ F, 0 ≤ x ∧ x ≤ W.length) ∧ (∀ j : Nat, (s + 1 + j : Int) < W.length → (B j).2.length ≤ 1000 ∧ ∃ t, valV kvs (.inl (s + 1 + j)) = some (.ref t) ∧ PrAt H (B j) t) ∧
  ∀ (r : Addr) (H' : Hp) (x : Int × List Int), Same H H' → PrN H H' x r → x ∈ chs W F p s B (W.length - (s + 1)).toNat → (∀ y ∈ chs W F p s B (W.length - (s + 1)).toNat, prLt y x = false) → Q (.ref r) H'
section
variable {P : Program} {w : World} {K : PySem.W.Frag} {mg : Str → Option Value} {base : Heap} {f : Addr} {fd : FuncData}
theorem scs_best_behind : FnScope ["start", "weights", "falls", "price", "behind", "steps", "choices", "mark", "least", "marks"] ["start", "weights", "falls", "price", "behind"] (defScope s_best_behind) := ⟨rfl, rfl, rfl, by decide +kernel, rfl, by decide +kernel, by decide +kernel⟩
theorem ok_beh (F : Fun K "best_behind" "best_behind" s_best_behind f fd) (T : Txt mg) (C_done_again : FnC P w K mg base 1 "done_again" ["weights", "falls", "start", "stop"] spAgain) : FnOk P w K mg base CX0 2 f fd ["start", "weights", "falls", "price", "behind"] spBeh := by
  refine F.ok scs_best_behind (fun vs H Q E h => ?_) (fun cdv A outer s H vs Q E hr h => ?_)
  · obtain ⟨s, p, a, b, d, W, F, kvs, B, rfl, _⟩ := h
    rfl
  obtain ⟨s, p, a, b, d, W, F, kvs, B, rfl, hw, hf, hd, hlF, hlW, hs0, hs1, hb, hB, k⟩ := h
  have nd := scs_best_behind.nd
  have hu := hu_of hr
  refine ⟨_, (pss_cons (ps_set (i := 5) nd rfl (Or.inl rfl) (pe_callB (kLen K) (by rfl) T.n_len (by decide +kernel) (pa_cons (pv 1) pa_nil)))
      (pss_cons (ps_set (i := 6) nd rfl (Or.inl rfl) (pe_lst (pa_cons (pe_tup (pa_cons (pe_callC C_done_again (hr.mono (by omega)) (by rfl) (pa_cons (pv 1) (pa_cons (pv 2) (pa_cons (pv 0) (pa_cons (pe_op op_add (pv 5) pe_int) pa_nil))))) (pa_cons (pe_lst pa_nil) pa_nil))) pa_nil)))
      (pss_cons (ps_for PassesOwn.never rfl (pi_range2 (by rfl) T.n_range (pa_cons (pe_op op_add (pv 0) pe_int) (pa_cons (pv 5) pa_nil))) (pg_name (i := 7) nd rfl (Or.inl rfl)) (pss_cons (ps_asg (pe_dget hu (pv 4) (pv 7) (fun _ _ => rfl)) (kPgT K (by rfl) (pgs_cons (pg_name (i := 8) nd rfl (Or.inl rfl)) (pgs_cons (pg_name (i := 9) nd rfl (Or.inl rfl)) pgs_nil))))
      (pss_one (ps_expr (pe_bm PySem.F.plainAttrs_list PySem.F.slot_list_append PySem.F.type_list_append mt_append (pv 6) (pa_cons (pe_tup (pa_cons (pe_op op_add (pe_op op_add (pe_callC C_done_again (hr.mono (by omega)) (by rfl) (pa_cons (pv 1) (pa_cons (pv 2) (pa_cons (pv 0) (pa_cons (pv 7) pa_nil))))) (pv 3)) (pv 8)) (pa_cons (pe_op op_cat (pe_lst (pa_cons (pv 7) pa_nil)) (pv 9)) pa_nil))) pa_nil))))))
      (pss_one (ps_ret (pe_callB (kMinP K rfl hr.units) (by rfl) T.n_min (by decide +kernel) (pa_cons (pv 6) pa_nil))))))), ?_⟩
  with_reducible refine go_seq (go_asg (go_cb (go_cons (go_var rfl ?_))))
  with_reducible refine go_nil ?_
  (with_reducible refine' go_lenL ?hp ?_); (case hp => walk_at "lw_hp")
  with_reducible refine go_gname (go_seq (go_asg (go_lst (go_cons ?_))))
  with_reducible refine go_tup (go_cons (go_callC (go_cons (go_var rfl ?_))))
  with_reducible refine go_cons (go_var rfl (go_cons (go_var rfl (go_cons ?_))))
  with_reducible refine go_op (go_var rfl (go_c (go_i0 (go_nil ?_))))
  simp only [List.length_map]
  refine ⟨a, b, W, F, s, _, rfl, hw, hf, hlF, hs0, hb, fun H1 s1 => ?_⟩
  with_reducible refine go_cons (go_lst (go_nil ?_))
  refine go_qlst (Nat.le_of_ble_eq_true rfl) (fun l0 hl0 => ?_)
  with_reducible refine go_nil ?_
  refine go_qtup (Nat.le_of_ble_eq_true rfl) (fun q0 hq0 => ?_)
  with_reducible refine go_nil ?_
  refine go_qlst (Nat.le_of_ble_eq_true rfl) (fun c hc => ?_)
  have t0 : upd (upd (upd H1 l0 (.lst [])) q0 (.tup [.int (againM W F s (W.length + 1)), .ref l0])) c (.lst [.ref q0]) q0 = some (.tup [.int (againM W F s (W.length + 1)), .ref l0]) := upd_new hc upd_same
  have u0 : upd (upd (upd H1 l0 (.lst [])) q0 (.tup [.int (againM W F s (W.length + 1)), .ref l0])) c (.lst [.ref q0]) l0 = some (.lst []) := upd_new hc (upd_new hq0 upd_same)
  have n0 : l0 ≠ c := ne_of_none (upd_new hq0 upd_same) hc
  have f0 : H l0 = none := s1.free hl0
  have fq : H q0 = none := (s1.trans (same_new hl0 _)).free hq0
  have fc : H c = none := ((s1.trans (same_new hl0 _)).trans (same_new hq0 _)).free hc
  have s2 : Same H (upd (upd (upd H1 l0 (.lst [])) q0 (.tup [.int (againM W F s (W.length + 1)), .ref l0])) c (.lst [.ref q0])) := ((s1.trans (same_new hl0 _)).trans (same_new hq0 _)).trans (same_new hc _)
  have hc2 : upd (upd (upd H1 l0 (.lst [])) q0 (.tup [.int (againM W F s (W.length + 1)), .ref l0])) c (.lst [.ref q0]) c = some (.lst [.ref q0]) := upd_same
  generalize upd (upd (upd H1 l0 (.lst [])) q0 (.tup [.int (againM W F s (W.length + 1)), .ref l0])) c (.lst [.ref q0]) = H2 at *
  with_reducible refine go_gname (go_seq (go_for (go_rng2 (go_cons ?_))))
  with_reducible refine go_op (go_var rfl (go_c (go_i0 (go_cons ?_))))
  with_reducible refine go_var rfl (go_nil (go_qrng2 (by omega) (by omega) (by omega) (by omega) ?_))
  refine fq_range (fun i σ H' => ∃ (ps : List Addr) (v1 v2 v3 : Option V), σ = [some (.int s), some (.ref a), some (.ref b), some (.int p), some (.ref d), some (.int W.length), some (.ref c), v1, v2, v3] ∧ Same H H' ∧ H' c = some (.lst (ps.map V.ref)) ∧ ps.length = i + 1 ∧
    ∀ (j : Nat) q y, ps[j]? = some q → (chs W F p s B i)[j]? = some y → ∃ l, H' q = some (.tup [.int y.1, .ref l]) ∧ H' l = some (.lst (y.2.map V.int)) ∧ H l = none ∧ l ≠ c) ?_ ?_ ?_
  · refine ⟨[q0], none, none, none, rfl, s2, hc2, rfl, fun j q y e1 e2 => ?_⟩
    cases j with
    | zero =>
      cases e1
      cases e2
      exact ⟨l0, t0, u0, f0, n0⟩
    | succ j => cases e1
  · rintro i σ H' hi ⟨ps, v1, v2, v3, rfl, sm, hc', hl', hp'⟩
    obtain ⟨hBl, t, hv, lt, hBt, hBu⟩ := hB i (by omega)
    with_reducible refine go_gname (go_seq (go_asg (go_dget (go_var rfl ?_))))
    with_reducible refine go_var rfl ?_
    refine go_qdgI (sm _ _ hd) hv ?_
    (with_reducible refine' go_gtup ?hp ?ha ?_); (case hp => walk_at "lw_hp"); (case ha => first | rfl | assumption)
    with_reducible refine go_gcons (go_gname (go_gcons (go_gname (go_gnil ?_))))
    with_reducible refine go_drop (go_bm (go_var rfl ?_))
    (with_reducible refine' go_qbm ?hp ?_); (case hp => walk_at "lw_hp")
    with_reducible refine go_cons (go_tup (go_cons (go_op (go_op ?_))))
    with_reducible refine go_callC (go_cons (go_var rfl (go_cons (go_var rfl ?_))))
    with_reducible refine go_cons (go_var rfl (go_cons (go_var rfl (go_nil ?_))))
    refine ⟨a, b, W, F, s, _, rfl, sm _ _ hw, sm _ _ hf, hlF, hs0, hb, fun H3 s3 => ?_⟩
    with_reducible refine go_var rfl (go_i0 (go_var rfl (go_i0 (go_cons ?_))))
    with_reducible refine go_op (go_lst (go_cons (go_var rfl (go_nil ?_))))
    refine go_qlst (Nat.le_of_ble_eq_true rfl) (fun l1 hl1 => ?_)
    have hlt3 : H3 lt = some (.lst ((B i).2.map V.int)) := s3 _ _ (sm _ _ hBu)
    with_reducible refine go_var rfl ?_
    refine go_cat (xs := [V.int (s + 1 + i)]) upd_same (upd_new hl1 hlt3) (small_le (by simp; omega)) (fun l2 hl2 => ?_)
    with_reducible refine go_nil ?_
    refine go_qtup (Nat.le_of_ble_eq_true rfl) (fun q1 hq1 => ?_)
    have s4 : Same H3 (upd (upd (upd H3 l1 (.lst [.int (s + 1 + i)])) l2 (.lst ([V.int (s + 1 + i)] ++ (B i).2.map V.int))) q1 (.tup [.int (againM W F s (s + 1 + i) + p + (B i).1), .ref l2])) := ((same_new hl1 _).trans (same_new hl2 _)).trans (same_new hq1 _)
    have t1 : upd (upd (upd H3 l1 (.lst [.int (s + 1 + i)])) l2 (.lst ([V.int (s + 1 + i)] ++ (B i).2.map V.int))) q1 (.tup [.int (againM W F s (s + 1 + i) + p + (B i).1), .ref l2]) q1 = some (.tup [.int (againM W F s (s + 1 + i) + p + (B i).1), .ref l2]) := upd_same
    have u1 : upd (upd (upd H3 l1 (.lst [.int (s + 1 + i)])) l2 (.lst ([V.int (s + 1 + i)] ++ (B i).2.map V.int))) q1 (.tup [.int (againM W F s (s + 1 + i) + p + (B i).1), .ref l2]) l2 = some (.lst ([V.int (s + 1 + i)] ++ (B i).2.map V.int)) := upd_new hq1 upd_same
    have f2 : H l2 = none := ((sm.trans s3).trans (same_new hl1 _)).free hl2
    have n2 : l2 ≠ c := (ne_of_none ((s3.trans (same_new hl1 _)) _ _ hc') hl2).symm
    have hc4 := s4 _ _ (s3 _ _ hc')
    have sm4 := (sm.trans s3).trans s4
    have s34 := s3.trans s4
    generalize upd (upd (upd H3 l1 (.lst [.int (s + 1 + i)])) l2 (.lst ([V.int (s + 1 + i)] ++ (B i).2.map V.int))) q1 (.tup [.int (againM W F s (s + 1 + i) + p + (B i).1), .ref l2]) = H4 at *
    have nq : q1 ≠ c := ne_of t1 hc4 (by intro z; cases z)
    with_reducible refine go_nil ?_
    refine go_append hc4 (small_line (by simp; omega)) ?_
    refine ⟨ps ++ [q1], _, _, _, rfl, same_upd fc sm4, by rw [upd_same, List.map_append]; rfl, by simp; omega, fun j q y e1 e2 => ?_⟩
    have hcl := chs_length W F p s B i
    rw [chs] at e2
    by_cases cj : j < i + 1
    · rw [List.getElem?_append_left (by omega)] at e1 e2
      obtain ⟨l, r1, r2, r3, r4⟩ := hp' j q y e1 e2
      exact ⟨l, upd_oth (ne_of (s34 _ _ r1) hc4 (by intro z; cases z)) (s34 _ _ r1), upd_oth r4 (s34 _ _ r2), r3, r4⟩
    · rw [List.getElem?_append_right (by omega)] at e1 e2
      have ej : j = i + 1 := by
        have := (List.getElem?_eq_some_iff.mp e1).1
        simp at this
        omega
      subst ej
      rw [hl', Nat.sub_self] at e1
      rw [hcl, Nat.sub_self] at e2
      cases e1
      cases e2
      exact ⟨l2, upd_oth nq t1, upd_oth n2 u1, f2, n2⟩
  · rintro σ H' ⟨ps, v1, v2, v3, rfl, sm, hc', hl', hp'⟩
    with_reducible refine go_ret (go_cb (go_cons (go_var rfl (go_nil ?_))))
    refine ⟨c, ps, chs W F p s B (W.length - (s + 1)).toNat, rfl, SqL.of hc', by rw [hl', chs_length], by omega, fun j q y e1 e2 => ?_, fun j q y e1 e2 low => ?_⟩
    · obtain ⟨l, r1, r2, _⟩ := hp' j q y e1 e2
      exact ⟨l, r1, r2⟩
    · obtain ⟨l, r1, r2, r3, _⟩ := hp' j q y e1 e2
      exact k q H' y sm ⟨l, r1, r2, r3⟩ (List.mem_of_getElem? e2) fun y' hy' => by rw [← pr_eq]; exact low y' hy'
end
end Lw
set_option Elab.async false
set_option linter.all false
set_option maxRecDepth 100000
set_option maxHeartbeats 4000000
namespace Lw
open PySem L2
local macro_rules | `(tactic| walk_at "lw_hp") => `(tactic| (repeat (first | assumption | exact upd_same | (refine' upd_new (by assumption) ?_) | (refine' tup_off (by assumption) (by assumption) ?_) | (refine' lst_off (by assumption) (by assumption) (by assumption) ?_) | (refine' Same.get (by assumption) ?_) | (refine' Off.get (by assumption) (by assumption) ?_) | (refine' upd_oth (by assumption) ?_))))
abbrev s_best : Stmt := top 20
theorem Adm.len : ∀ {ms : List Int} {s n : Int}, Adm s n ms → (ms.length : Int) ≤ max 0 (n - 1 - s)
  | [], s, n, _ => by simp; omega
  | m :: r, s, n, h => by
    obtain ⟨ha, h1, h2⟩ := h.tail
    have := ha.len
    rw [List.length_cons]
    omega
def spBest : Sp := fun vs H Q _ => ∃ (w f : Addr) (W F : List Int) (p : Int), vs = [.ref w, .ref f, .int p] ∧ H w = some (.lst (W.map V.int)) ∧ H f = some (.lst (F.map V.int)) ∧ W.length ≤ 60 ∧ (∀ x ∈ W, 1 ≤ x ∧ x ≤ 99) ∧
  F.length ≤ 20 ∧ (∀ x ∈ F, 0 ≤ x ∧ x ≤ W.length) ∧ F.Pairwise (· ≤ ·) ∧ 0 ≤ p ∧ p ≤ 999 ∧ ∀ (r : Addr) (H' : Hp) (x : Int × List Int), Same H H' → PrN H H' x r → Opt W F p 0 x → Q (.ref r) H'
section
variable {P : Program} {w : World} {K : PySem.W.Frag} {mg : Str → Option Value} {base : Heap} {f : Addr} {fd : FuncData}
theorem scs_best : FnScope ["weights", "falls", "price", "steps", "behind", "start"] ["weights", "falls", "price"] (defScope s_best) := ⟨rfl, rfl, rfl, by decide +kernel, rfl, by decide +kernel, by decide +kernel⟩
theorem ok_best (F : Fun K "best" "best" s_best f fd) (T : Txt mg) (C_check_weights : FnC P w K mg base 2 "check_weights" ["weights"] spCkW) (C_check_falls : FnC P w K mg base 2 "check_falls" ["falls", "steps"] spCkF) (C_check_price : FnC P w K mg base 2 "check_price" ["price"] spCkP)
    (C_best_behind : FnC P w K mg base 2 "best_behind" ["start", "weights", "falls", "price", "behind"] spBeh) : FnOk P w K mg base CX0 3 f fd ["weights", "falls", "price"] spBest := by
  refine F.ok scs_best (fun vs H Q E h => ?_) (fun cdv A outer s H vs Q E hr h => ?_)
  · obtain ⟨a, b, W, F, p, rfl, _⟩ := h
    rfl
  obtain ⟨a, b, W, F, p, rfl, hw, hf, hlW, hbW, hlF, hbF, hsF, hp0, hp1, k⟩ := h
  have nd := scs_best.nd
  have hu := hu_of hr
  refine ⟨_, (pss_cons (ps_expr (pe_callC C_check_weights (hr.mono (by omega)) (by rfl) (pa_cons (pv 0) pa_nil)))
      (pss_cons (ps_set (i := 3) nd rfl (Or.inl rfl) (pe_callB (kLen K) (by rfl) T.n_len (by decide +kernel) (pa_cons (pv 0) pa_nil)))
      (pss_cons (ps_expr (pe_callC C_check_falls (hr.mono (by omega)) (by rfl) (pa_cons (pv 1) (pa_cons (pv 3) pa_nil))))
      (pss_cons (ps_expr (pe_callC C_check_price (hr.mono (by omega)) (by rfl) (pa_cons (pv 2) pa_nil)))
      (pss_cons (ps_set (i := 4) nd rfl (Or.inl rfl) pe_dnewK)
      (pss_cons (ps_for PassesOwn.never rfl (pi_rvrange (by rfl) T.n_reversed (by rfl) T.n_range (pa_cons (pe_callB (c_max rfl) (by rfl) T.n_max (by decide +kernel) (pa_cons pe_int (pa_cons (pv 3) pa_nil))) pa_nil)) (pg_name (i := 5) nd rfl (Or.inl rfl)) (pss_one (ps_dput hu (pv 4) (pv 5) (pe_callC C_best_behind (hr.mono (by omega)) (by rfl) (pa_cons (pv 5) (pa_cons (pv 0) (pa_cons (pv 1) (pa_cons (pv 2) (pa_cons (pv 4) pa_nil)))))) rfl)))
      (pss_one (ps_ret (pe_dget hu (pv 4) pe_int (fun _ _ => rfl)))))))))), ?_⟩
  with_reducible refine go_seq (go_drop (go_callC (go_cons (go_var rfl ?_))))
  with_reducible refine go_nil ?_
  refine ⟨a, W, rfl, hw, hlW, hbW, fun H1 s1 => ?_⟩
  have hw1 := s1 _ _ hw
  with_reducible refine go_seq (go_asg (go_cb (go_cons (go_var rfl ?_))))
  with_reducible refine go_nil ?_
  (with_reducible refine' go_lenL ?hp ?_); (case hp => walk_at "lw_hp")
  with_reducible refine go_gname (go_seq (go_drop (go_callC (go_cons ?_))))
  with_reducible refine go_var rfl (go_cons (go_var rfl (go_nil ?_)))
  simp only [List.length_map]
  refine ⟨b, F, _, rfl, s1 _ _ hf, hlF, hbF, hsF, fun H2 s2 => ?_⟩
  have s12 := s1.trans s2
  with_reducible refine go_seq (go_drop (go_callC (go_cons (go_var rfl ?_))))
  with_reducible refine go_nil ?_
  refine ⟨p, rfl, hp0, hp1, ?_⟩
  with_reducible refine go_seq (go_asg ?_)
  refine go_dnew (fun d hd => ?_)
  have sd : Same H (upd H2 d (.dK [])) := s12.trans (same_new hd _)
  have fd0 : H d = none := s12.free hd
  have hd3 : upd H2 d (.dK []) d = some (.dK []) := upd_same
  generalize upd H2 d (.dK []) = H3 at *
  with_reducible refine go_gname (go_seq (go_for (go_rvr (go_cons ?_))))
  with_reducible refine go_cb (go_cons (go_c (go_cons (go_var rfl ?_))))
  with_reducible refine go_nil (go_max (go_nil (go_qrvr (by omega) (by omega) ?_)))
  refine fq_rvr (fun i σ H' => ∃ (kvs : List (Key × V)) (v : Option V) (X : Int → Int × List Int) (tt : Int → Addr), σ = [some (.ref a), some (.ref b), some (.int p), some (.int W.length), some (.ref d), v] ∧ Same H H' ∧ H' d = some (.dK kvs) ∧ kvs.length ≤ i ∧
    ∀ m : Int, max 1 (W.length : Int) - i ≤ m → m < max 1 (W.length : Int) → valV kvs (.inl m) = some (.ref (tt m)) ∧ PrN H H' (X m) (tt m) ∧ Opt W F p m (X m)) ?_ ?_ ?_
  · exact ⟨[], none, fun _ => (0, []), fun _ => d, rfl, sd, hd3, Nat.le_refl _, fun m h1 h2 => by omega⟩
  · rintro i σ H' hi ⟨kvs, v, X, tt, rfl, sm, hd', hl', hX⟩
    have es : max 1 (W.length : Int) - 1 + (i : Nat) * -1 = max 1 (W.length : Int) - 1 - i := by omega
    rw [es]
    have hs : ∃ s : Int, s = max 1 (W.length : Int) - 1 - i := ⟨_, rfl⟩
    obtain ⟨s, hs⟩ := hs
    rw [← hs]
    with_reducible refine go_gname (go_dput (go_callC (go_cons (go_var rfl ?_))))
    with_reducible refine go_cons (go_var rfl (go_cons (go_var rfl (go_cons ?_))))
    with_reducible refine go_var rfl (go_cons (go_var rfl (go_nil ?_)))
    refine ⟨s, p, a, b, d, W, F, kvs, fun j => X (s + 1 + j), rfl, sm _ _ hw, sm _ _ hf, hd', by omega, by omega, by omega, by omega, hbF, fun j hj => ?_, fun r H4 x s4 hx hm hlow => ?_⟩
    · obtain ⟨e1, ⟨l, q1, q2, _⟩, o⟩ := hX (s + 1 + j) (by omega) (by omega)
      have := o.adm.len
      exact ⟨by show (X (s + 1 + j)).2.length ≤ 1000; omega, _, e1, l, q1, q2⟩
    have ox : Opt W F p s x := opt_step (k := (W.length - (s + 1)).toNat) (by omega) (fun j hj => (hX (s + 1 + j) (by omega) (by omega)).2.2) hm hlow
    have hd4 := s4 _ _ hd'
    with_reducible refine go_var rfl (go_var rfl ?_)
    refine go_qdpI hd4 (small_line (by omega)) ?_
    have sm4 := sm.trans s4
    have nf : ∀ q u, H4 q = some u → (∀ z, u ≠ .dK z) → q ≠ d := fun q u e z => ne_of e hd4 (z _)
    obtain ⟨l, q1, q2, q3⟩ := hx
    refine ⟨_, _, fun m => if m = s then x else X m, fun m => if m = s then r else tt m, rfl, same_upd fd0 sm4, upd_same, Nat.le_trans (length_putK _ _ _) (by omega), fun m h1 h2 => ?_⟩
    rw [valV_put]
    dsimp only
    by_cases c : m = s
    · subst c
      rw [if_pos rfl, if_pos rfl, if_pos rfl]
      exact ⟨rfl, ⟨l, upd_oth (nf _ _ q1 nofun) q1, upd_oth (nf _ _ q2 nofun) q2, sm.free q3⟩, ox⟩
    · obtain ⟨e1, ⟨l', r1, r2, r3⟩, o⟩ := hX m (by omega) h2
      rw [if_neg c, if_neg c, if_neg (by intro z; injection z with z; exact c z)]
      have r1' := s4 _ _ r1
      have r2' := s4 _ _ r2
      exact ⟨e1, ⟨l', upd_oth (nf _ _ r1' nofun) r1', upd_oth (nf _ _ r2' nofun) r2', r3⟩, o⟩
  · rintro σ H' ⟨kvs, v, X, tt, rfl, sm, hd', hl', hX⟩
    obtain ⟨e1, hx, o⟩ := hX 0 (by omega) (by omega)
    with_reducible refine go_ret (go_dget (go_var rfl (go_c ?_)))
    refine go_qdgI hd' e1 ?_
    exact k _ _ _ sm hx o
end
end Lw
set_option Elab.async false
set_option linter.all false
set_option maxRecDepth 100000
set_option maxHeartbeats 4000000
namespace Lw
open PySem L2
local macro_rules | `(tactic| walk_at "lw_hp") => `(tactic| (repeat (first | assumption | exact upd_same | (refine' upd_new (by assumption) ?_) | (refine' tup_off (by assumption) (by assumption) ?_) | (refine' lst_off (by assumption) (by assumption) (by assumption) ?_) | (refine' Same.get (by assumption) ?_) | (refine' Off.get (by assumption) (by assumption) ?_) | (refine' upd_oth (by assumption) ?_))))
abbrev s__law_plan : Stmt := top 25
structure PlanIs (W F : List Int) (p : Int) : Prop where
  w : ∀ x ∈ W, 1 ≤ x ∧ x ≤ 99
  l : F.length ≤ 20
  f : ∀ x ∈ F, 0 ≤ x ∧ x ≤ W.length
  s : F.Pairwise (· ≤ ·)
  p0 : 0 ≤ p
  p1 : p ≤ 999
def spPlan (K : PySem.W.Frag) : Sp := fun vs H Q _ => ∃ (d : Addr) (most : Int), vs = [.ref d, .int most] ∧ Dice K H d ∧ 0 ≤ most ∧ most ≤ 60 ∧
  ∀ (r w f : Addr) (H' : Hp) (W F : List Int) (p : Int), Off d H H' → Dice K H' d → H' r = some (.tup [.ref w, .ref f, .int p]) → H' w = some (.lst (W.map V.int)) → H' f = some (.lst (F.map V.int)) → H w = none → H f = none → w ≠ f → (W.length : Int) ≤ most → PlanIs W F p → Q (.ref r) H'
theorem at_three {x y z : V} {r : Int} (h0 : 0 ≤ r) (h1 : r < 3) : ∃ v, atI [x, y, z] r = some v ∧ (v = x ∨ v = y ∨ v = z) := by
  rcases (by omega : r = 0 ∨ r = 1 ∨ r = 2) with e | e | e
  · subst e; exact ⟨x, rfl, .inl rfl⟩
  · subst e; exact ⟨y, rfl, .inr (.inl rfl)⟩
  · subst e; exact ⟨z, rfl, .inr (.inr rfl)⟩
theorem off_free {K : PySem.W.Frag} {H H' : Hp} {d l : Addr} (o : Off d H H') (D : Dice K H' d) (h : H' l = none) : H l = none := by
  cases e : H l with
  | none => rfl
  | some u =>
    rw [o _ _ e (D.nef h)] at h
    cases h
section
variable {P : Program} {w : World} {K : PySem.W.Frag} {mg : Str → Option Value} {base : Heap} {f : Addr} {fd : FuncData}
theorem scs__law_plan : FnScope ["_law_d", "_law_most", "_law_wide", "_law_weights", "_law_many", "_law_falls", "_law_k"] ["_law_d", "_law_most"] (defScope s__law_plan) := ⟨rfl, rfl, rfl, by decide +kernel, rfl, by decide +kernel, by decide +kernel⟩
theorem ok_plan (F : Fun K "_law_plan" "_law_plan" s__law_plan f fd) (T : Txt mg) (C_law_next : FnC P w K mg base 1 "_law_next" ["_law_dice_here", "_law_many"] (spNext K)) : FnOk P w K mg base CX0 2 f fd ["_law_d", "_law_most"] (spPlan K) := by
  refine F.ok scs__law_plan (fun vs H Q E h => ?_) (fun cdv A outer s H vs Q E hr h => ?_)
  · obtain ⟨d, most, rfl, _⟩ := h
    rfl
  obtain ⟨d, most, rfl, D, h0, h1, k⟩ := h
  have nd := scs__law_plan.nd
  have hu := hu_of hr
  refine ⟨_, (pss_cons (ps_set (i := 2) nd rfl (Or.inr rfl) (pe_ix (kIxL K) (pe_lst (pa_cons pe_int (pa_cons pe_int pa_nil))) (pe_callC C_law_next (hr.mono (by omega)) (by rfl) (pa_cons (pv 0) (pa_cons pe_int pa_nil))) (fun _ _ => rfl)))
      (pss_cons (ps_set (i := 3) nd rfl (Or.inr rfl) (pe_lc rfl nd (pi_range1 (by rfl) T.n_range (pa_cons (pe_callC C_law_next (hr.mono (by omega)) (by rfl) (pa_cons (pv 0) (pa_cons (pe_op op_add (pv 1) pe_int) pa_nil))) pa_nil)) (blkOk_by (own := [("_law_k", 6)]) (by show blkC ["_law_d", "_law_most", "_law_wide", "_law_weights", "_law_many", "_law_falls", "_law_k"] (defScope s__law_plan) _ _ = true; decide +kernel)) (fun _ _ _ _ _ => (pg_name (i := 6) nd rfl (Or.inl rfl))) (fun _ _ _ _ _ => pts_nil) (fun _ _ _ _ _ => (pe_op op_add pe_int (pe_callC C_law_next (hr.mono (by omega)) (by rfl) (pa_cons (pv 0) (pa_cons (pv 2) pa_nil)))))))
      (pss_cons (ps_set (i := 4) nd rfl (Or.inl rfl) (pe_ix (kIxL K) (pe_lst (pa_cons (pe_callC C_law_next (hr.mono (by omega)) (by rfl) (pa_cons (pv 0) (pa_cons pe_int pa_nil))) (pa_cons (pe_callC C_law_next (hr.mono (by omega)) (by rfl) (pa_cons (pv 0) (pa_cons pe_int pa_nil))) pa_nil))) (pe_callC C_law_next (hr.mono (by omega)) (by rfl) (pa_cons (pv 0) (pa_cons pe_int pa_nil))) (fun _ _ => rfl)))
      (pss_cons (ps_set (i := 5) nd rfl (Or.inl rfl) (pe_callB (kSorted K) (by rfl) T.n_sorted (by decide +kernel) (pa_cons (pe_lc rfl nd (pi_range1 (by rfl) T.n_range (pa_cons (pv 4) pa_nil)) (blkOk_by (own := [("_law_k", 6)]) (by show blkC ["_law_d", "_law_most", "_law_wide", "_law_weights", "_law_many", "_law_falls", "_law_k"] (defScope s__law_plan) _ _ = true; decide +kernel)) (fun _ _ _ _ _ => (pg_name (i := 6) nd rfl (Or.inl rfl))) (fun _ _ _ _ _ => pts_nil) (fun _ _ _ _ _ => (pe_callC C_law_next (hr.mono (by omega)) (by rfl) (pa_cons (pv 0) (pa_cons (pe_op op_add (pe_callB (kLen K) (by rfl) T.n_len (by decide +kernel) (pa_cons (pv 3) pa_nil)) pe_int) pa_nil))))) pa_nil)))
      (pss_one (ps_ret (pe_tup (pa_cons (pv 3) (pa_cons (pv 5) (pa_cons (pe_ix (kIxL K) (pe_lst (pa_cons (pe_callC C_law_next (hr.mono (by omega)) (by rfl) (pa_cons (pv 0) (pa_cons pe_int pa_nil))) (pa_cons (pe_callC C_law_next (hr.mono (by omega)) (by rfl) (pa_cons (pv 0) (pa_cons pe_int pa_nil))) (pa_cons (pe_callC C_law_next (hr.mono (by omega)) (by rfl) (pa_cons (pv 0) (pa_cons pe_int pa_nil))) pa_nil)))) (pe_callC C_law_next (hr.mono (by omega)) (by rfl) (pa_cons (pv 0) (pa_cons pe_int pa_nil))) (fun _ _ => rfl)) pa_nil)))))))))), ?_⟩
  with_reducible refine go_seq (go_asg (go_op (go_lst (go_cons ?_))))
  with_reducible refine go_c (go_cons (go_c (go_nil ?_)))
  refine go_qlst (Nat.le_of_ble_eq_true rfl) (fun p1 hp1 => ?_)
  with_reducible refine go_callC (go_cons (go_var rfl (go_cons (go_c ?_))))
  with_reducible refine go_nil ?_
  refine nx_go (D.same (same_new hp1 _)) (by omega) (by omega) (fun r1 H1 a1 b1 D1 o1 => ?_)
  have o1' : Off d H H1 := (same_new hp1 _).off.trans o1
  have e1 : H1 p1 = some (.lst [.int 3, .int 99]) := o1 _ _ upd_same (D.nef hp1)
  obtain ⟨wd, hwd, wd0, wd1⟩ : ∃ z, atI [V.int 3, V.int 99] r1 = some (.int z) ∧ 0 < z ∧ z ≤ 99 := by
    obtain ⟨z, hz, hz'⟩ := at_two (x := V.int 3) (y := V.int 99) a1 b1
    rcases hz' with rfl | rfl
    · exact ⟨_, hz, by decide, by decide⟩
    · exact ⟨_, hz, by decide, by decide⟩
  (with_reducible refine' go_ixL ?hp ?ha ?_); (case hp => walk_at "lw_hp"); (case ha => first | rfl | assumption)
  with_reducible refine go_gname (go_seq (go_asg (go_lc (go_rng1 ?_))))
  with_reducible refine go_cons (go_callC (go_cons (go_var rfl (go_cons ?_))))
  with_reducible refine go_op (go_var rfl (go_c (go_i0 (go_nil ?_))))
  refine nx_go D1 (by omega) (by omega) (fun n H2 a2 b2 D2 o2 => ?_)
  have o2' := o1'.trans o2
  with_reducible refine go_nil (go_qrng1 (by omega) (by omega) ?_)
  refine lq_range (fun L hL => ?_)
  have nL : L ≠ d := D2.nef hL
  refine ⟨fun i H' => ∃ W : List Int, H' L = some (.lst (W.map V.int)) ∧ W.length = i ∧ (∀ x ∈ W, 1 ≤ x ∧ x ≤ 99) ∧ Dice K H' d ∧ Off d H2 H', ?_, ?_, ?_⟩
  · exact ⟨[], upd_same, rfl, (fun x h => by cases h), D2.same (same_new hL _), (same_new hL _).off⟩
  · rintro i H' hi ⟨W, eL, hl, hW, D', o'⟩
    refine go_gname ⟨rfl, ?_⟩
    with_reducible refine go_yes (go_iteT (go_op (go_c (go_callC ?_))))
    with_reducible refine go_cons (go_var rfl (go_cons (go_var rfl (go_nil ?_))))
    refine nx_go D' (by omega) (by omega) (fun x H3 a3 b3 D3 o3 => ?_)
    with_reducible refine go_i0 ?_
    have eL3 := o3 _ _ eL nL
    refine go_lcA eL3 (small_line (by simp; omega)) ?_
    refine ⟨W ++ [1 + x], by rw [upd_same, List.map_append]; rfl, by simp [hl], fun y hy => ?_, D3.updL eL3 nL.symm, off_fresh hL (o'.trans o3)⟩
    rcases List.mem_append.mp hy with hy | hy
    · exact hW y hy
    · have e : y = 1 + x := by simpa using hy
      omega
  rintro H3 ⟨W, eL, hl, hW, D3, o3⟩
  have o3' := o2'.trans o3
  have fL : H L = none := off_free o2' D2 hL
  clear o1 o2 o3 e1 D1 D2 hL
  with_reducible refine go_gname (go_seq (go_asg (go_op (go_lst ?_))))
  with_reducible refine go_cons (go_callC (go_cons (go_var rfl (go_cons ?_))))
  with_reducible refine go_c (go_nil ?_)
  refine nx_go D3 (by omega) (by omega) (fun m1 H4 a4 b4 D4 o4 => ?_)
  with_reducible refine go_cons (go_callC (go_cons (go_var rfl (go_cons ?_))))
  with_reducible refine go_c (go_nil ?_)
  refine nx_go D4 (by omega) (by omega) (fun m2 H5 a5 b5 D5 o5 => ?_)
  with_reducible refine go_nil ?_
  refine go_qlst (Nat.le_of_ble_eq_true rfl) (fun p2 hp2 => ?_)
  with_reducible refine go_callC (go_cons (go_var rfl (go_cons (go_c ?_))))
  with_reducible refine go_nil ?_
  refine nx_go (D5.same (same_new hp2 _)) (by omega) (by omega) (fun m3 H6 a6 b6 D6 o6 => ?_)
  have e2 : H6 p2 = some (.lst [.int m1, .int m2]) := o6 _ _ upd_same (D5.nef hp2)
  have eL6 : H6 L = some (.lst (W.map V.int)) := o6 _ _ (upd_new hp2 (o5 _ _ (o4 _ _ eL nL) nL)) nL
  have o6' : Off d H H6 := ((o3'.trans o4).trans o5).trans ((same_new hp2 _).off.trans o6)
  obtain ⟨mn, hmn, mn0, mn1⟩ : ∃ z, atI [V.int m1, V.int m2] m3 = some (.int z) ∧ 0 ≤ z ∧ z ≤ 20 := by
    obtain ⟨z, hz, hz'⟩ := at_two (x := V.int m1) (y := V.int m2) a6 b6
    rcases hz' with rfl | rfl
    · exact ⟨_, hz, by omega, by omega⟩
    · exact ⟨_, hz, by omega, by omega⟩
  clear o4 o5 o6 hp2
  (with_reducible refine' go_ixL ?hp ?ha ?_); (case hp => walk_at "lw_hp"); (case ha => first | rfl | assumption)
  with_reducible refine go_gname (go_seq (go_asg (go_cb (go_cons ?_))))
  with_reducible refine go_lc (go_rng1 (go_cons (go_var rfl (go_nil ?_))))
  with_reducible refine go_qrng1 (by omega) (by omega) ?_
  refine lq_range (fun G hG => ?_)
  have nG : G ≠ d := D6.nef hG
  have nLG : L ≠ G := ne_of_none eL6 hG
  refine ⟨fun i H' => ∃ F : List Int, H' G = some (.lst (F.map V.int)) ∧ F.length = i ∧ (∀ x ∈ F, 0 ≤ x ∧ x ≤ W.length) ∧ Dice K H' d ∧ Off d H6 H', ?_, ?_, ?_⟩
  · exact ⟨[], upd_same, rfl, (fun x h => by cases h), D6.same (same_new hG _), (same_new hG _).off⟩
  · rintro i H' hi ⟨F, eG, hl', hF, D', o'⟩
    refine go_gname ⟨rfl, ?_⟩
    have eL' := o' _ _ eL6 nL
    with_reducible refine go_yes (go_iteT (go_callC (go_cons (go_var rfl ?_))))
    with_reducible refine go_cons (go_op (go_cb (go_cons (go_var rfl ?_))))
    with_reducible refine go_nil ?_
    (with_reducible refine' go_lenL ?hp ?_); (case hp => walk_at "lw_hp")
    with_reducible refine go_c (go_i0 (go_nil ?_))
    simp only [List.length_map]
    refine nx_go D' (by omega) (by omega) (fun x H7 a7 b7 D7 o7 => ?_)
    skip
    have eG7 := o7 _ _ eG nG
    refine go_lcA eG7 (small_line (by simp; omega)) ?_
    refine ⟨F ++ [x], by rw [upd_same, List.map_append]; rfl, by simp [hl'], fun y hy => ?_, D7.updL eG7 nG.symm, off_fresh hG (o'.trans o7)⟩
    rcases List.mem_append.mp hy with hy | hy
    · exact hF y hy
    · have e : y = x := by simpa using hy
      omega
  rintro H7 ⟨F, eG, hl', hF, D7, o7⟩
  have o7' := o6'.trans o7
  have eL7 := o7 _ _ eL6 nL
  clear o7 hG e2
  with_reducible refine go_nil ?_
  refine go_sorted eG (by omega) (fun F' q pm so hq => ?_)
  have nq : q ≠ d := D7.nef hq
  have fq : H q = none := off_free o7' D7 hq
  have nLq : L ≠ q := ne_of_none eL7 hq
  have D8 := D7.same (same_new hq (.lst (F'.map V.int)))
  have o8 : Off d H (upd H7 q (.lst (F'.map V.int))) := o7'.trans (same_new hq _).off
  have eL8 : upd H7 q (.lst (F'.map V.int)) L = some (.lst (W.map V.int)) := upd_new hq eL7
  have eq8 : upd H7 q (.lst (F'.map V.int)) q = some (.lst (F'.map V.int)) := upd_same
  generalize upd H7 q (.lst (F'.map V.int)) = H8 at *
  with_reducible refine go_gname (go_ret (go_tup (go_cons (go_var rfl ?_))))
  with_reducible refine go_cons (go_var rfl (go_cons (go_op (go_lst ?_))))
  with_reducible refine go_cons (go_callC (go_cons (go_var rfl (go_cons ?_))))
  with_reducible refine go_c (go_nil ?_)
  refine nx_go D8 (by omega) (by omega) (fun c1 H9 a9 b9 D9 o9 => ?_)
  with_reducible refine go_cons (go_callC (go_cons (go_var rfl (go_cons ?_))))
  with_reducible refine go_c (go_nil ?_)
  refine nx_go D9 (by omega) (by omega) (fun c2 H10 a10 b10 D10 o10 => ?_)
  with_reducible refine go_cons (go_callC (go_cons (go_var rfl (go_cons ?_))))
  with_reducible refine go_c (go_nil ?_)
  refine nx_go D10 (by omega) (by omega) (fun c3 H11 a11 b11 D11 o11 => ?_)
  with_reducible refine go_nil ?_
  refine go_qlst (Nat.le_of_ble_eq_true rfl) (fun p3 hp3 => ?_)
  with_reducible refine go_callC (go_cons (go_var rfl (go_cons (go_c ?_))))
  with_reducible refine go_nil ?_
  refine nx_go (D11.same (same_new hp3 _)) (by omega) (by omega) (fun c4 H12 a12 b12 D12 o12 => ?_)
  have e3 : H12 p3 = some (.lst [.int c1, .int c2, .int c3]) := o12 _ _ upd_same (D11.nef hp3)
  have o12' : Off d H8 H12 := ((o9.trans o10).trans o11).trans ((same_new hp3 _).off.trans o12)
  obtain ⟨pr, hpr, pr0, pr1⟩ : ∃ z, atI [V.int c1, V.int c2, V.int c3] c4 = some (.int z) ∧ 0 ≤ z ∧ z ≤ 999 := by
    obtain ⟨z, hz, hz'⟩ := at_three (x := V.int c1) (y := V.int c2) (z := V.int c3) a12 b12
    rcases hz' with rfl | rfl | rfl
    · exact ⟨_, hz, by omega, by omega⟩
    · exact ⟨_, hz, by omega, by omega⟩
    · exact ⟨_, hz, by omega, by omega⟩
  clear o9 o10 o11 o12 hp3
  (with_reducible refine' go_ixL ?hp ?ha ?_); (case hp => walk_at "lw_hp"); (case ha => first | rfl | assumption)
  with_reducible refine go_nil ?_
  refine go_qtup (Nat.le_of_ble_eq_true rfl) (fun rr hrr => ?_)
  refine k rr L q _ W F' pr ((o8.trans o12').trans (same_new hrr _).off) (D12.same (same_new hrr _)) upd_same (upd_new hrr (o12' _ _ eL8 nL)) (upd_new hrr (o12' _ _ eq8 nq)) fL fq nLq (by omega) ⟨hW, by rw [pm.length_eq]; omega, fun x hx => hF x (pm.mem_iff.mp hx), so, pr0, pr1⟩
end
end Lw
set_option Elab.async false
set_option linter.all false
set_option maxRecDepth 100000
set_option maxHeartbeats 4000000
namespace Lw
open PySem L2
local macro_rules | `(tactic| walk_at "lw_hp") => `(tactic| (repeat (first | assumption | exact upd_same | (refine' upd_new (by assumption) ?_) | (refine' tup_off (by assumption) (by assumption) ?_) | (refine' lst_off (by assumption) (by assumption) (by assumption) ?_) | (refine' Same.get (by assumption) ?_) | (refine' Off.get (by assumption) (by assumption) ?_) | (refine' upd_oth (by assumption) ?_))))
abbrev s__law_cost : Stmt := top 26
def spCost : Sp := fun vs H Q _ => ∃ (w f m : Addr) (W F ms : List Int) (p : Int), vs = [.ref w, .ref f, .int p, .ref m] ∧ H w = some (.lst (W.map V.int)) ∧ H f = some (.lst (F.map V.int)) ∧ H m = some (.lst (ms.map V.int)) ∧ W.length ≤ 60 ∧ F.length ≤ 20 ∧ (∀ x ∈ F, 0 ≤ x ∧ x ≤ W.length) ∧ Adm 0 W.length ms ∧ 0 ≤ p ∧ p ≤ 999 ∧
  ∀ H', Same H H' → Q (.int (costM W F p ms)) H'
theorem atF_bd {f : Int} : ∀ {ms : List Int} {s n : Int}, Adm s n ms → 0 ≤ s → s ≤ f → 0 ≤ atF s ms f ∧ atF s ms f ≤ f
  | [], s, n, _, h, h' => ⟨h, h'⟩
  | m :: r, s, n, h, h0, h' => by
    obtain ⟨ha, h1, h2⟩ := h.tail
    unfold atF
    by_cases c : m ≤ f
    · rw [if_pos c]; exact atF_bd ha (by omega) c
    · rw [if_neg c]; exact ⟨h0, h'⟩
section
variable {P : Program} {w : World} {K : PySem.W.Frag} {mg : Str → Option Value} {base : Heap} {f : Addr} {fd : FuncData}
theorem scs__law_cost : FnScope ["_law_weights", "_law_falls", "_law_price", "_law_marks", "_law_found", "_law_fall", "_law_at", "_law_mark"] ["_law_weights", "_law_falls", "_law_price", "_law_marks"] (defScope s__law_cost) := ⟨rfl, rfl, rfl, by decide +kernel, rfl, by decide +kernel, by decide +kernel⟩
theorem ok_cost (F : Fun K "_law_cost" "_law_cost" s__law_cost f fd) (T : Txt mg) : FnOk P w K mg base CX0 1 f fd ["_law_weights", "_law_falls", "_law_price", "_law_marks"] spCost := by
  refine F.ok scs__law_cost (fun vs H Q E h => ?_) (fun cdv A outer s H vs Q E hr h => ?_)
  · obtain ⟨a, b, c, W, F, ms, p, rfl, _⟩ := h
    rfl
  obtain ⟨a, b, c, W, F, ms, p, rfl, hw, hf, hm, hlW, hlF, hbF, hA, hp0, hp1, k⟩ := h
  have nd := scs__law_cost.nd
  have hu := hu_of hr
  have hlm := hA.len
  refine ⟨_, (pss_cons (ps_set (i := 4) nd rfl (Or.inl rfl) (pe_op op_mul (pv 2) (pe_callB (kLen K) (by rfl) T.n_len (by decide +kernel) (pa_cons (pv 3) pa_nil))))
      (pss_cons (ps_for PassesOwn.never rfl (kPiL K (pv 1)) (pg_name (i := 5) nd rfl (Or.inr rfl)) (pss_cons (ps_set (i := 6) nd rfl (Or.inl rfl) (pe_callB (kMax K rfl) (by rfl) T.n_max (by decide +kernel) (pa_cons (pe_op op_cat (pe_lst (pa_cons pe_int pa_nil)) (pe_lc rfl nd (kPiL K (pv 3)) (blkOk_by (own := [("_law_mark", 7)]) (by show blkC ["_law_weights", "_law_falls", "_law_price", "_law_marks", "_law_found", "_law_fall", "_law_at", "_law_mark"] (defScope s__law_cost) _ _ = true; decide +kernel)) (fun _ _ _ _ _ => (pg_name (i := 7) nd rfl (Or.inl rfl))) (fun _ _ _ _ _ => (pts_one (pt_cmpR op_le (pv 7) (pv 5) (nomark _)))) (fun _ _ _ _ _ => (pv 7)))) pa_nil)))
      (pss_one (ps_set (i := 4) nd rfl (Or.inl rfl) (pe_op op_add (pv 4) (pe_callB (kSum K rfl) (by rfl) T.n_sum (by decide +kernel) (pa_cons (pe_slice (kSlL K) (pv 0) (po_some (pv 6)) (po_some (pv 5))) pa_nil)))))))
      (pss_one (ps_ret (pv 4))))), ?_⟩
  with_reducible refine go_seq (go_asg (go_op (go_var rfl (go_cb ?_))))
  with_reducible refine go_cons (go_var rfl (go_nil ?_))
  (with_reducible refine' go_lenL ?hp ?_); (case hp => walk_at "lw_hp")
  (with_reducible refine' go_i ?cc ?_); (case cc => first | omega | (simp only [CDiv, CMul, CPow]; omega) | (simp only [CDiv, CMul, CPow]; decide))
  with_reducible refine go_gname (go_seq (go_for (go_iL (go_var rfl ?_))))
  (with_reducible refine' go_qiL ?hp ?_); (case hp => walk_at "lw_hp")
  simp only [List.length_map]
  refine fq_list (F.map V.int) (fun i σ H' => ∃ v1 v2 v3, σ = [some (.ref a), some (.ref b), some (.int p), some (.ref c), some (.int (p * ms.length + ((F.take i).map fun f => seg W (atF 0 ms f) f).sum)), v1, v2, v3] ∧ Same H H') ?_ ?_ ?_ ?_
  · exact ⟨none, none, none, by simp; rfl, Same.refl H⟩
  · rintro i σ H' _ ⟨_, _, _, rfl, sm⟩
    exact SqL.of (sm _ _ hf)
  · rintro i x σ H' hx ⟨v1, v2, v3, rfl, sm⟩
    obtain ⟨n, rfl, hn⟩ := int_of hx
    have hbn := hbF n (mem_of hn)
    with_reducible refine go_gname (go_seq (go_asg (go_cb (go_cons ?_))))
    with_reducible refine go_op (go_lst (go_cons (go_c (go_nil ?_))))
    refine go_qlst (Nat.le_of_ble_eq_true rfl) (fun z0 hz0 => ?_)
    have s0 := sm.trans (same_new hz0 (.lst [.int 0]))
    have e0 : upd H' z0 (.lst [.int 0]) z0 = some (.lst [.int 0]) := upd_same
    generalize upd H' z0 (.lst [.int 0]) = H1 at *
    with_reducible refine go_lc (go_iL (go_var rfl ?_))
    (with_reducible refine' go_qiL ?hp ?_); (case hp => walk_at "lw_hp")
    have hm1 := s0 _ _ hm
    skip
    refine lq_list (ms.map V.int) (fun L hL => ?_)
    refine ⟨fun j H2 => Same H1 H2 ∧ H2 L = some (.lst (((ms.take j).filter fun m => decide (m ≤ n)).map V.int)), ⟨same_new hL _, upd_same⟩, ?_, ?_, ?_⟩
    · rintro j H2 _ ⟨s2, _⟩
      exact SqL.of (s2 _ _ hm1)
    · rintro j y H2 hy ⟨s2, e2⟩
      obtain ⟨m, rfl, hmj⟩ := int_of hy
      refine go_gname ⟨rfl, ?_⟩
      have nxt : (ms.take (j + 1)).filter (fun m => decide (m ≤ n)) = (ms.take j).filter (fun m => decide (m ≤ n)) ++ if decide (m ≤ n) = true then [m] else [] := by
        rw [take_snoc hmj, List.filter_append, List.filter_cons, List.filter_nil]
      have len : ((ms.take j).filter fun m => decide (m ≤ n)).length ≤ 1000 := by
        refine Nat.le_trans (List.length_filter_le _ _) ?_
        rw [List.length_take]
        omega
      with_reducible refine go_test (go_op (go_var rfl (go_var rfl (go_i0 ?_))))
      with_reducible refine go_qb ?_
      refine go_iteD (fun cc => ?_) (fun cc => ?_)
      · with_reducible refine go_var rfl ?_
        refine go_lcA e2 (small_line (by rw [List.length_map]; omega)) ⟨same_upd hL s2, ?_⟩
        rw [nxt, if_pos (decide_eq_true cc), upd_same, List.map_append]
        rfl
      · refine ⟨s2, ?_⟩
        rw [nxt, if_neg (by simp [cc]), List.append_nil]
        exact e2
    · rintro H2 ⟨s2, e2⟩
      rw [show (ms.map V.int).length = ms.length from List.length_map _, List.take_length] at e2
      have len : (ms.filter fun m => decide (m ≤ n)).length ≤ 1000 := by
        have := List.length_filter_le (fun m => decide (m ≤ n)) ms
        omega
      skip
      refine go_cat (s2 _ _ e0) e2 (small_le (by simp; omega)) (fun L2 hL2 => ?_)
      have e3 : upd H2 L2 (.lst ([V.int 0] ++ (ms.filter fun m => decide (m ≤ n)).map V.int)) L2 = some (.lst ((0 :: ms.filter fun m => decide (m ≤ n)).map V.int)) := upd_same
      have s3 : Same H (upd H2 L2 (.lst ([V.int 0] ++ (ms.filter fun m => decide (m ≤ n)).map V.int))) := (s0.trans s2).trans (same_new hL2 _)
      generalize upd H2 L2 (.lst ([V.int 0] ++ (ms.filter fun m => decide (m ≤ n)).map V.int)) = H3 at *
      with_reducible refine go_nil ?_
      refine go_maxL e3 (by simp) (fun m hm1 hm2 => ?_)
      rw [atF_max hA hm1 hm2]
      obtain ⟨q1, q2⟩ := atF_bd (f := n) hA (Int.le_refl 0) hbn.1
      with_reducible refine go_gname (go_asg (go_op (go_var rfl (go_cb ?_))))
      with_reducible refine go_cons (go_sl (go_var rfl (go_part (go_var rfl ?_))))
      with_reducible refine go_qI (go_part (go_var rfl (go_qI ?_)))
      refine go_slL (s3 _ _ hw) (fun L3 hL3 => ?_)
      rw [cut_ints W q1 hbn.1 hbn.2]
      with_reducible refine go_nil ?_
      (with_reducible refine' go_sumL ?hp ?_); (case hp => walk_at "lw_hp")
      with_reducible refine go_i0 (go_gname ?_)
      refine ⟨some (.int n), some (.int (atF 0 ms n)), v3, ?_, s3.trans (same_new hL3 _)⟩
      have e : p * ms.length + ((F.take (i + 1)).map fun f => seg W (atF 0 ms f) f).sum = p * ms.length + ((F.take i).map fun f => seg W (atF 0 ms f) f).sum + ((W.drop (atF 0 ms n).toNat).take (n.toNat - (atF 0 ms n).toNat)).sum := by
        rw [take_snoc hn, List.map_append, List.sum_append, List.map_cons, List.map_nil, List.sum_cons, List.sum_nil, seg]
        omega
      rw [e]
      rfl
  · rintro σ H' ⟨v1, v2, v3, rfl, sm⟩
    rw [show (F.map V.int).length = F.length from List.length_map _, List.take_length]
    with_reducible refine go_ret (go_var rfl ?_)
    exact k _ sm
end
end Lw
set_option Elab.async false
set_option linter.all false
set_option maxRecDepth 100000
set_option maxHeartbeats 4000000
namespace Lw
open PySem L2
local macro_rules | `(tactic| walk_at "lw_hp") => `(tactic| (repeat (first | assumption | exact upd_same | (refine' upd_new (by assumption) ?_) | (refine' tup_off (by assumption) (by assumption) ?_) | (refine' lst_off (by assumption) (by assumption) (by assumption) ?_) | (refine' Same.get (by assumption) ?_) | (refine' Off.get (by assumption) (by assumption) ?_) | (refine' upd_oth (by assumption) ?_))))
abbrev s_check_marks : Stmt := top 16
abbrev s_cost : Stmt := top 18
def spCkM : Sp := fun vs H Q _ => ∃ (m : Addr) (ms : List Int) (n : Int), vs = [.ref m, .int n] ∧ H m = some (.lst (ms.map V.int)) ∧ n ≤ 60 ∧ Adm 0 n ms ∧ ∀ H', Same H H' → Q .non H'
def spPCost : Sp := fun vs H Q _ => ∃ (w f m : Addr) (W F ms : List Int) (p : Int), vs = [.ref w, .ref f, .int p, .ref m] ∧ H w = some (.lst (W.map V.int)) ∧ H f = some (.lst (F.map V.int)) ∧ H m = some (.lst (ms.map V.int)) ∧ W.length ≤ 60 ∧ (∀ x ∈ W, 1 ≤ x ∧ x ≤ 99) ∧ F.length ≤ 20 ∧ (∀ x ∈ F, 0 ≤ x ∧ x ≤ W.length) ∧ F.Pairwise (· ≤ ·) ∧ Adm 0 W.length ms ∧ 0 ≤ p ∧ p ≤ 999 ∧
  ∀ H', Same H H' → Q (.int (Cm W F p 0 ms)) H'
def upFr (W F : List Int) (s : Int) (ms : List Int) : Nat → Int
  | 0 => 0
  | i + 1 => upFr W F s ms i + againM W F ((s :: ms).getD i 0) ((ms ++ [(W.length : Int) + 1]).getD i 0)
theorem upFr_cons (W F : List Int) (s m : Int) (ms : List Int) : ∀ i, upFr W F s (m :: ms) (i + 1) = againM W F s m + upFr W F m ms i
  | 0 => by simp [upFr]
  | i + 1 => by
    show upFr W F s (m :: ms) (i + 1) + _ = _ + (upFr W F m ms i + _)
    rw [upFr_cons W F s m ms i]
    simp only [List.getD_cons_succ, List.cons_append]
    omega
theorem upFr_Cm (W F : List Int) (p : Int) : ∀ (ms : List Int) (s : Int), upFr W F s ms (ms.length + 1) + p * ms.length = Cm W F p s ms
  | [], s => by simp [upFr, Cm]
  | m :: ms, s => by
    rw [List.length_cons, upFr_cons]
    have := upFr_Cm W F p ms m
    unfold Cm
    rw [← this, show ((ms.length + 1 : Nat) : Int) = (ms.length : Int) + 1 by omega, Int.mul_add]
    omega
section
variable {P : Program} {w : World} {K : PySem.W.Frag} {mg : Str → Option Value} {base : Heap} {f : Addr} {fd : FuncData}
theorem scs_check_marks : FnScope ["marks", "steps", "low", "number", "mark"] ["marks", "steps"] (defScope s_check_marks) := ⟨rfl, rfl, rfl, by decide +kernel, rfl, by decide +kernel, by decide +kernel⟩
theorem ok_ckm (F : Fun K "check_marks" "check_marks" s_check_marks f fd) (T : Txt mg) (C_is_number : FnC P w K mg base 1 "is_number" ["thing", "low", "high"] spIsNum) : FnOk P w K mg base CX0 2 f fd ["marks", "steps"] spCkM := by
  refine F.ok scs_check_marks (fun vs H Q E h => ?_) (fun cdv A outer s H vs Q E hr h => ?_)
  · obtain ⟨a, W, n, rfl, _⟩ := h
    rfl
  obtain ⟨a, W, m, rfl, hw, hm60, hA, k⟩ := h
  have nd := scs_check_marks.nd
  have hu := hu_of hr
  refine ⟨_, (pss_cons (ps_if (pt_not (pt_val (pe_callB (kIsinst K) (by rfl) T.n_isinstance (by decide +kernel) (pa_cons (pv 0) (pa_cons (pe_bltn (v := .ty "list") (by rfl) T.n_list (by decide +kernel) rfl) pa_nil))))) (pss_one ps_never) pss_nil)
      (pss_cons (ps_set (i := 2) nd rfl (Or.inl rfl) pe_int)
      (pss_one (ps_for PassesOwn.never rfl (pi_enum (by rfl) T.n_enumerate (pa_cons (pv 0) pa_nil)) (kPgT K (by rfl) (pgs_cons (pg_name (i := 3) nd rfl (Or.inl rfl)) (pgs_cons (pg_name (i := 4) nd rfl (Or.inl rfl)) pgs_nil))) (pss_cons (ps_if (pt_not (pt_val (pe_callC C_is_number (hr.mono (by omega)) (by rfl) (pa_cons (pv 4) (pa_cons (pv 2) (pa_cons (pe_op op_sub (pv 1) pe_int) pa_nil)))))) (pss_one ps_never) pss_nil)
      (pss_one (ps_set (i := 2) nd rfl (Or.inl rfl) (pe_op op_add (pv 4) pe_int)))))))), ?_⟩
  with_reducible refine go_seq (go_ifS (go_not (go_testB (go_cb ?_))))
  with_reducible refine go_cons (go_var rfl (go_cons (go_c (go_nil ?_))))
  (with_reducible refine' go_is_lst_list ?hp ?_); (case hp => walk_at "lw_hp")
  with_reducible refine go_qb (go_iteNt (go_next (go_seq (go_asg ?_))))
  with_reducible refine go_c (go_gname (go_for (go_enum (go_cons ?_))))
  with_reducible refine go_var rfl (go_nil ?_)
  (with_reducible refine' go_qenum ?hp ?_); (case hp => walk_at "lw_hp")
  refine fq_enum (W.map V.int) (fun i σ H' => ∃ lo v v', σ = [some (.ref a), some (.int m), some (.int lo), v, v'] ∧ (∀ (j : Nat) x, i ≤ j → W[j]? = some x → lo ≤ x) ∧ Same H H') ⟨1, none, none, rfl, fun j x _ e => by have := (hA.2 x (mem_of e)).1; omega, Same.refl H⟩ ?_ ?_ ?_
  · rintro i σ H' _ ⟨lo, v, v', rfl, _, sm⟩
    exact SqL.of (sm _ _ hw)
  · rintro i x σ H' t hx ht ⟨lo, v, v', rfl, hlo, sm⟩
    obtain ⟨n, rfl, hn⟩ := int_of hx
    have hi : i < W.length := (List.getElem?_eq_some_iff.mp hn).1
    have hbn := hA.2 n (mem_of hn)
    have h0 := hlo i n (Nat.le_refl _) hn
    (with_reducible refine' go_gtup ?hp ?ha ?_); (case hp => walk_at "lw_hp"); (case ha => first | rfl | assumption)
    with_reducible refine go_gcons (go_gname (go_gcons (go_gname (go_gnil ?_))))
    with_reducible refine go_seq (go_ifS (go_not (go_testB (go_callC ?_))))
    with_reducible refine go_cons (go_var rfl (go_cons (go_var rfl (go_cons ?_))))
    with_reducible refine go_op (go_var rfl (go_c (go_i0 (go_nil ?_))))
    refine num_go h0 (by omega) ?_
    with_reducible refine go_qb (go_iteNt (go_next (go_asg (go_op ?_))))
    with_reducible refine go_var rfl (go_c (go_i0 (go_gname ?_)))
    refine ⟨n + 1, _, _, rfl, fun j x hj e => ?_, sm.trans (same_new ht _)⟩
    obtain ⟨l1, e1⟩ := List.getElem?_eq_some_iff.mp hn
    obtain ⟨l2, e2⟩ := List.getElem?_eq_some_iff.mp e
    rw [← e1, ← e2]
    exact List.pairwise_iff_getElem.mp hA.1 i j l1 l2 (by omega)
  · rintro σ H' ⟨lo, v, v', rfl, _, sm⟩
    skip
    exact k _ sm
theorem scs_cost : FnScope ["weights", "falls", "price", "marks", "steps", "again", "start", "stop"] ["weights", "falls", "price", "marks"] (defScope s_cost) := ⟨rfl, rfl, rfl, by decide +kernel, rfl, by decide +kernel, by decide +kernel⟩
theorem ok_pcost (F : Fun K "cost" "cost" s_cost f fd) (T : Txt mg) (C_check_weights : FnC P w K mg base 2 "check_weights" ["weights"] spCkW) (C_check_falls : FnC P w K mg base 2 "check_falls" ["falls", "steps"] spCkF) (C_check_price : FnC P w K mg base 2 "check_price" ["price"] spCkP) (C_check_marks : FnC P w K mg base 2 "check_marks" ["marks", "steps"] spCkM)
    (C_done_again : FnC P w K mg base 1 "done_again" ["weights", "falls", "start", "stop"] spAgain) : FnOk P w K mg base CX0 3 f fd ["weights", "falls", "price", "marks"] spPCost := by
  refine F.ok scs_cost (fun vs H Q E h => ?_) (fun cdv A outer s H vs Q E hr h => ?_)
  · obtain ⟨a, b, c, W, F, ms, p, rfl, _⟩ := h
    rfl
  obtain ⟨a, b, c, W, F, ms, p, rfl, hw, hf, hm, hlW, hbW, hlF, hbF, hsF, hA, hp0, hp1, k⟩ := h
  have nd := scs_cost.nd
  have hu := hu_of hr
  have hlm := hA.len
  refine ⟨_, (pss_cons (ps_expr (pe_callC C_check_weights (hr.mono (by omega)) (by rfl) (pa_cons (pv 0) pa_nil)))
      (pss_cons (ps_set (i := 4) nd rfl (Or.inl rfl) (pe_callB (kLen K) (by rfl) T.n_len (by decide +kernel) (pa_cons (pv 0) pa_nil)))
      (pss_cons (ps_expr (pe_callC C_check_falls (hr.mono (by omega)) (by rfl) (pa_cons (pv 1) (pa_cons (pv 4) pa_nil))))
      (pss_cons (ps_expr (pe_callC C_check_price (hr.mono (by omega)) (by rfl) (pa_cons (pv 2) pa_nil)))
      (pss_cons (ps_expr (pe_callC C_check_marks (hr.mono (by omega)) (by rfl) (pa_cons (pv 3) (pa_cons (pv 4) pa_nil))))
      (pss_cons (ps_set (i := 5) nd rfl (Or.inl rfl) pe_int)
      (pss_cons (ps_for PassesOwn.never rfl (pi_zip (by rfl) T.n_zip (pa_cons (pe_op op_cat (pe_lst (pa_cons pe_int pa_nil)) (pv 3)) (pa_cons (pe_op op_cat (pv 3) (pe_lst (pa_cons (pe_op op_add (pv 4) pe_int) pa_nil))) pa_nil))) (kPgT K (by rfl) (pgs_cons (pg_name (i := 6) nd rfl (Or.inl rfl)) (pgs_cons (pg_name (i := 7) nd rfl (Or.inl rfl)) pgs_nil))) (pss_one (ps_aug (i := 5) nd rfl (.inl rfl) (pe_callC C_done_again (hr.mono (by omega)) (by rfl) (pa_cons (pv 0) (pa_cons (pv 1) (pa_cons (pv 6) (pa_cons (pv 7) pa_nil))))) ip_add)))
      (pss_one (ps_ret (pe_op op_add (pv 5) (pe_op op_mul (pv 2) (pe_callB (kLen K) (by rfl) T.n_len (by decide +kernel) (pa_cons (pv 3) pa_nil))))))))))))), ?_⟩
  with_reducible refine go_seq (go_drop (go_callC (go_cons (go_var rfl ?_))))
  with_reducible refine go_nil ?_
  refine ⟨a, W, rfl, hw, hlW, hbW, fun H1 s1 => ?_⟩
  have hw1 := s1 _ _ hw
  with_reducible refine go_seq (go_asg (go_cb (go_cons (go_var rfl ?_))))
  with_reducible refine go_nil ?_
  (with_reducible refine' go_lenL ?hp ?_); (case hp => walk_at "lw_hp")
  with_reducible refine go_gname (go_seq (go_drop (go_callC (go_cons ?_))))
  with_reducible refine go_var rfl (go_cons (go_var rfl (go_nil ?_)))
  simp only [List.length_map]
  refine ⟨b, F, _, rfl, s1 _ _ hf, hlF, hbF, hsF, fun H2 s2 => ?_⟩
  have s12 := s1.trans s2
  with_reducible refine go_seq (go_drop (go_callC (go_cons (go_var rfl ?_))))
  with_reducible refine go_nil ?_
  refine ⟨p, rfl, hp0, hp1, ?_⟩
  with_reducible refine go_seq (go_drop (go_callC (go_cons (go_var rfl ?_))))
  with_reducible refine go_cons (go_var rfl (go_nil ?_))
  refine ⟨c, ms, _, rfl, s12 _ _ hm, by omega, hA, fun H3 s3 => ?_⟩
  have s13 := s12.trans s3
  with_reducible refine go_seq (go_asg (go_c (go_gname (go_seq ?_))))
  with_reducible refine go_for ?_
  refine go_zipL ?_
  with_reducible refine go_cons (go_op (go_lst (go_cons (go_c ?_))))
  with_reducible refine go_nil ?_
  refine go_qlst (Nat.le_of_ble_eq_true rfl) (fun z0 hz0 => ?_)
  have s4 := s13.trans (same_new hz0 (.lst [.int 0]))
  have e4 : upd H3 z0 (.lst [.int 0]) z0 = some (.lst [.int 0]) := upd_same
  generalize upd H3 z0 (.lst [.int 0]) = H4 at *
  with_reducible refine go_var rfl ?_
  refine go_cat e4 (s4 _ _ hm) (small_le (by simp; omega)) (fun L1 hL1 => ?_)
  have s5 := s4.trans (same_new hL1 (.lst ([V.int 0] ++ ms.map V.int)))
  have e5 : upd H4 L1 (.lst ([V.int 0] ++ ms.map V.int)) L1 = some (.lst ((0 :: ms).map V.int)) := upd_same
  generalize upd H4 L1 (.lst ([V.int 0] ++ ms.map V.int)) = H5 at *
  with_reducible refine go_cons (go_op (go_var rfl (go_lst (go_cons ?_))))
  with_reducible refine go_op (go_var rfl (go_c (go_i0 (go_nil ?_))))
  refine go_qlst (Nat.le_of_ble_eq_true rfl) (fun z1 hz1 => ?_)
  have s6 := s5.trans (same_new hz1 (.lst [.int ((W.length : Int) + 1)]))
  have e6 : upd H5 z1 (.lst [.int ((W.length : Int) + 1)]) z1 = some (.lst [.int ((W.length : Int) + 1)]) := upd_same
  have e5' := (same_new hz1 (.lst [.int ((W.length : Int) + 1)])) _ _ e5
  generalize upd H5 z1 (.lst [.int ((W.length : Int) + 1)]) = H6 at *
  skip
  refine go_cat (s6 _ _ hm) e6 (small_le (by simp; omega)) (fun L2 hL2 => ?_)
  have S7 := same_new hL2 (.lst (ms.map V.int ++ [V.int ((W.length : Int) + 1)]))
  have s7 := s6.trans S7
  have e7 : upd H6 L2 (.lst (ms.map V.int ++ [V.int ((W.length : Int) + 1)])) L2 = some (.lst ((ms ++ [(W.length : Int) + 1]).map V.int)) := by rw [upd_same, List.map_append]; rfl
  have e5'' := S7 _ _ e5'
  generalize upd H6 L2 (.lst (ms.map V.int ++ [V.int ((W.length : Int) + 1)])) = H7 at *
  clear S7 e5 e5' e6 e4 hz0 hz1 hL1 hL2 s1 s2 s3 s12 s13 s4 s5 s6
  with_reducible refine go_nil ?_
  refine go_qzipL (SqL.of e5'') (SqL.of e7) ?_
  refine fq_zipL ((0 :: ms).map V.int) ((ms ++ [(W.length : Int) + 1]).map V.int) (by simp) (fun i σ H' => ∃ v1 v2, σ = [some (.ref a), some (.ref b), some (.int p), some (.ref c), some (.int W.length), some (.int (upFr W F 0 ms i)), v1, v2] ∧ Same H7 H') ⟨_, _, rfl, Same.refl _⟩ ?_ ?_ ?_
  · rintro i σ H' _ ⟨_, _, rfl, z⟩
    exact ⟨SqL.of (z _ _ e5''), SqL.of (z _ _ e7)⟩
  · rintro i x y σ H' t hx hy ht ⟨v1, v2, rfl, z⟩
    obtain ⟨x, rfl, hx'⟩ := int_of hx
    obtain ⟨y, rfl, hy'⟩ := int_of hy
    have zt := z.trans (same_new ht (.tup [.int x, .int y]))
    have st := s7.trans zt
    have x0 : 0 ≤ x := by
      rcases List.mem_cons.mp (mem_of hx') with rfl | h
      · exact Int.le_refl _
      · have := (hA.2 x h).1; omega
    (with_reducible refine' go_gtup ?hp ?ha ?_); (case hp => walk_at "lw_hp"); (case ha => first | rfl | assumption)
    with_reducible refine go_gcons (go_gname (go_gcons (go_gname (go_gnil ?_))))
    with_reducible refine go_aug rfl (go_callC (go_cons (go_var rfl (go_cons ?_))))
    with_reducible refine go_var rfl (go_cons (go_var rfl (go_cons (go_var rfl ?_))))
    with_reducible refine go_nil ?_
    refine ⟨a, b, W, F, x, y, rfl, st _ _ hw, st _ _ hf, by omega, x0, hbF, fun H9 s9 => ?_⟩
    with_reducible refine go_ipI ?_
    have q : upFr W F 0 ms (i + 1) = upFr W F 0 ms i + againM W F x y := by
      show upFr W F 0 ms i + againM W F ((0 :: ms).getD i 0) ((ms ++ [(W.length : Int) + 1]).getD i 0) = _
      rw [List.getD_eq_getElem?_getD, List.getD_eq_getElem?_getD, hx', hy']
      rfl
    rw [q]
    exact ⟨_, _, rfl, zt.trans s9⟩
  · rintro σ H' ⟨v1, v2, rfl, z⟩
    have hm7 := (s7.trans z) _ _ hm
    with_reducible refine go_ret (go_op (go_var rfl (go_op (go_var rfl ?_))))
    with_reducible refine go_cb (go_cons (go_var rfl (go_nil ?_)))
    (with_reducible refine' go_lenL ?hp ?_); (case hp => walk_at "lw_hp")
    (with_reducible refine' go_i ?cc ?_); (case cc => first | omega | (simp only [CDiv, CMul, CPow]; omega) | (simp only [CDiv, CMul, CPow]; decide))
    with_reducible refine go_i0 ?_
    have q := upFr_Cm W F p ms 0
    simp only [List.length_map, List.length_cons] at *
    rw [q]
    exact k _ (s7.trans z)
end
end Lw
set_option Elab.async false
set_option linter.all false
set_option maxRecDepth 100000
set_option maxHeartbeats 4000000
namespace Lw
open PySem L2
local macro_rules | `(tactic| walk_at "lw_hp") => `(tactic| (repeat (first | assumption | exact upd_same | (refine' upd_new (by assumption) ?_) | (refine' tup_off (by assumption) (by assumption) ?_) | (refine' lst_off (by assumption) (by assumption) (by assumption) ?_) | (refine' Same.get (by assumption) ?_) | (refine' Off.get (by assumption) (by assumption) ?_) | (refine' upd_oth (by assumption) ?_))))
local macro_rules | `(tactic| walk_at "lw_go") => `(tactic| (repeat (first | (with_reducible (first | refine go_var rfl ?_ | refine go_c ?_ | refine go_cons ?_ | refine go_op ?_ | refine go_nil ?_ | refine go_seq ?_ | refine go_qb ?_ | refine go_test ?_ | refine go_ifS ?_ | refine go_gname ?_ | refine go_cb ?_)) | ((with_reducible refine' go_ixT ?hp ?ha ?_); (case hp => walk_at "lw_hp"); (case ha => first | rfl | assumption)) | (with_reducible (first | refine go_asg ?_ | refine go_callC ?_ | refine go_next ?_ | refine go_tup ?_ | refine go_i0 ?_ | refine go_ret ?_ | refine go_dget ?_ | refine go_gcons ?_ | refine go_gsub ?_ | refine go_testB ?_)) | ((with_reducible refine' go_ixL ?hp ?ha ?_); (case hp => walk_at "lw_hp"); (case ha => first | rfl | assumption)) | (with_reducible (first | refine' go_ixLs (by assumption) (by assumption) ?_ | refine go_lst ?_)) | ((with_reducible refine' go_i ?cc ?_); (case cc => first | omega | (simp only [CDiv, CMul, CPow]; omega) | (simp only [CDiv, CMul, CPow]; decide))) | (with_reducible (first | refine go_drop ?_ | refine go_eqI ?_ | refine go_eqS ?_ | refine go_eqB ?_ | refine go_eq (by rfl) ?_ | refine go_gnil ?_ | refine go_iteT ?_ | refine go_iteF ?_ | refine go_iteNt ?_ | refine go_iteNf ?_ | refine go_iteNN ?_)) | (with_reducible refine go_iteDT (by first | assumption | rfl | omega | (simp only [List.length_cons, List.length_nil, List.length_map]; omega)) ?_) | (with_reducible refine go_iteDF (by first | assumption | omega | decide | decide +kernel | (simp only [List.length_cons, List.length_nil, List.length_map]; omega)) ?_) | (with_reducible refine go_iteNT (by first | assumption | rfl | omega | (simp only [List.length_cons, List.length_nil, List.length_map]; omega)) ?_) | (with_reducible refine go_iteNF (by first | assumption | omega | decide | decide +kernel | (simp only [List.length_cons, List.length_nil, List.length_map]; omega)) ?_) | (with_reducible refine go_iteBT (by first | assumption | decide +kernel) ?_) | (with_reducible refine go_iteBF (by first | assumption | decide +kernel) ?_) | (with_reducible (first | refine go_dput ?_ | refine go_setD ?_)) | ((with_reducible refine' go_gtup ?hp ?ha ?_); (case hp => walk_at "lw_hp"); (case ha => first | rfl | assumption)) | (with_reducible refine go_if ?_) | ((with_reducible refine' go_setL ?hp ?ha ?_); (case hp => walk_at "lw_hp"); (case ha => first | rfl | assumption)) | (with_reducible (first | refine go_not ?_ | refine go_or ?_ | refine go_andV ?_ | refine go_sl ?_ | refine go_nopart ?_ | refine go_part ?_ | refine go_qI ?_ | refine' go_lenLs (by assumption) ?_)) | ((with_reducible refine' go_lenL ?hp ?_); (case hp => walk_at "lw_hp")) | ((with_reducible refine' go_lenT ?hp ?_); (case hp => walk_at "lw_hp")) | ((with_reducible refine' go_inT ?hp ?ha ?hb ?_); (case hp => walk_at "lw_hp"); (case ha => rfl); (case hb => rfl)) | ((with_reducible refine' go_notInT ?hp ?ha ?hb ?_); (case hp => walk_at "lw_hp"); (case ha => rfl); (case hb => rfl)) | (with_reducible (first | refine go_pnil ?_ | refine go_pcons ?_ | refine go_un ?_ | refine go_u ?_ | refine go_for ?_ | refine go_rng1 ?_ | refine go_qrng1 (by omega) (by omega) ?_ | refine go_notN_non ?_ | refine go_notN_int ?_ | refine go_notN_str ?_ | refine go_notN_bl ?_ | refine go_notN_ref ?_ | refine go_min ?_ | refine go_bm ?_ | refine go_lc ?_)) | ((with_reducible refine' go_qbm ?hp ?_); (case hp => walk_at "lw_hp")) | (with_reducible (first | refine go_int ?_ | refine go_intB ?_ | refine go_yes ?_ | refine go_and ?_ | refine go_notV ?_ | refine go_iL ?_)) | ((with_reducible refine' go_glst ?hp ?ha ?_); (case hp => walk_at "lw_hp"); (case ha => first | rfl | assumption)) | ((with_reducible refine' go_qiL ?hp ?_); (case hp => walk_at "lw_hp")) | (with_reducible (first | refine go_par ?_ | refine go_gpar ?_ | refine go_isN_non ?_ | refine go_isN_int ?_ | refine go_isN_str ?_ | refine go_isN_bl ?_ | refine go_isN_ref ?_ | refine go_neI ?_ | refine go_neS ?_ | refine go_neB ?_ | refine go_iT ?_ | refine go_ne (by rfl) ?_)) | ((with_reducible refine' go_ixAL ?hp ?ha ?_); (case hp => walk_at "lw_hp"); (case ha => first | rfl | assumption)) | ((with_reducible refine' go_ixAT ?hp ?ha ?_); (case hp => walk_at "lw_hp"); (case ha => first | rfl | assumption)) | ((with_reducible refine' go_qiT ?hp ?_); (case hp => walk_at "lw_hp")) | (with_reducible (first | refine go_is_non_int ?_ | refine go_is_non_bool ?_ | refine go_is_non_str ?_ | refine go_is_non_tuple ?_ | refine go_is_non_list ?_ | refine go_is_bl_int ?_ | refine go_is_bl_bool ?_ | refine go_is_bl_str ?_ | refine go_is_bl_tuple ?_ | refine go_is_bl_list ?_ | refine go_is_int_int ?_ | refine go_is_int_bool ?_ | refine go_is_int_str ?_ | refine go_is_int_tuple ?_ | refine go_is_int_list ?_ | refine go_is_str_int ?_ | refine go_is_str_bool ?_ | refine go_is_str_str ?_ | refine go_is_str_tuple ?_ | refine go_is_str_list ?_)) | ((with_reducible refine' go_is_lst_int ?hp ?_); (case hp => walk_at "lw_hp")) | ((with_reducible refine' go_is_lst_bool ?hp ?_); (case hp => walk_at "lw_hp")) | ((with_reducible refine' go_is_lst_str ?hp ?_); (case hp => walk_at "lw_hp")) | ((with_reducible refine' go_is_lst_tuple ?hp ?_); (case hp => walk_at "lw_hp")) | ((with_reducible refine' go_is_lst_list ?hp ?_); (case hp => walk_at "lw_hp")) | ((with_reducible refine' go_is_tup_int ?hp ?_); (case hp => walk_at "lw_hp")) | ((with_reducible refine' go_is_tup_bool ?hp ?_); (case hp => walk_at "lw_hp")) | ((with_reducible refine' go_is_tup_str ?hp ?_); (case hp => walk_at "lw_hp")) | ((with_reducible refine' go_is_tup_tuple ?hp ?_); (case hp => walk_at "lw_hp")) | ((with_reducible refine' go_is_tup_list ?hp ?_); (case hp => walk_at "lw_hp")) | (with_reducible (first | refine go_max ?_ | refine go_bm0 ?_ | refine go_chain ?_ | refine go_qch ?_)) | ((with_reducible refine' go_qbm0 ?hp ?_); (case hp => walk_at "lw_hp")) | (with_reducible (first | refine go_retN ?_ | refine go_orV ?_ | refine go_whQ ?_ | refine go_rng2 ?_ | refine go_qrng2 (by omega) (by omega) (by omega) (by omega) ?_ | refine go_rvr ?_ | refine go_qrvr (by omega) (by omega) ?_ | refine go_rng3 ?_ | refine go_qrng3 (by omega) (by omega) (by omega) (by omega) ?_ | refine go_lr2 ?_ | refine go_enum ?_ | refine go_aug rfl ?_ | refine go_ipI ?_)) | ((with_reducible refine' go_qenum ?hp ?_); (case hp => walk_at "lw_hp")) | ((with_reducible refine' go_sumL ?hp ?_); (case hp => walk_at "lw_hp")))))
abbrev s__law_like : Stmt := top 24
def Like : Nat → Hp → V → V → Prop
  | 0, _, _, _ => False
  | n + 1, H, x, y => (x = y ∧ ((∃ i, x = .int i) ∨ (∃ t, x = .str t) ∨ (∃ b, x = .bl b) ∨ x = .non)) ∨
    ∃ a b xs ys, x = .ref a ∧ y = .ref b ∧ ((H a = some (.tup xs) ∧ H b = some (.tup ys)) ∨ (H a = some (.lst xs) ∧ H b = some (.lst ys))) ∧ xs.length = ys.length ∧ ys.length ≤ 5000 ∧ ∀ (i : Nat) x' y', xs[i]? = some x' → ys[i]? = some y' → Like n H x' y'
def spLike (n : Nat) : Sp := fun vs H Q _ => ∃ x y, vs = [x, y] ∧ Like n H x y ∧ Q (.bl true) H
section
variable {P : Program} {w : World} {K : PySem.W.Frag} {mg : Str → Option Value} {base : Heap} {f : Addr} {fd : FuncData}
theorem scs__law_like : FnScope ["_law_found", "_law_due", "_law_k"] ["_law_found", "_law_due"] (defScope s__law_like) := ⟨rfl, rfl, rfl, by decide +kernel, rfl, by decide +kernel, by decide +kernel⟩
theorem ok_like {n : Nat} (F : Fun K "_law_like" "_law_like" s__law_like f fd) (T : Txt mg) (C_law_like : FnC P w K mg base n "_law_like" ["_law_found", "_law_due"] (spLike n)) : FnOk P w K mg base CX0 (n + 1) f fd ["_law_found", "_law_due"] (spLike (n + 1)) := by
  refine F.ok scs__law_like (fun vs H Q E h => ?_) (fun cdv A outer s H vs Q E hr h => ?_)
  · obtain ⟨x, y, rfl, _⟩ := h
    rfl
  obtain ⟨x, y, rfl, hL, k⟩ := h
  have nd := scs__law_like.nd
  have hu := hu_of hr
  refine ⟨_, (pss_cons (ps_if (pt_val (pe_callB (kIsinst K) (by rfl) T.n_isinstance (by decide +kernel) (pa_cons (pv 1) (pa_cons (pe_bltn (v := .ty "bool") (by rfl) T.n_bool (by decide +kernel) rfl) pa_nil)))) (pss_one (ps_ret (pe_and (pe_callB (kIsinst K) (by rfl) T.n_isinstance (by decide +kernel) (pa_cons (pv 0) (pa_cons (pe_bltn (v := .ty "bool") (by rfl) T.n_bool (by decide +kernel) rfl) pa_nil))) (pe_one (pe_cmpR op_eq (pv 0) (pv 1) (nomark _)))))) pss_nil)
      (pss_cons (ps_if (pt_val (pe_callB (kIsinst K) (by rfl) T.n_isinstance (by decide +kernel) (pa_cons (pv 1) (pa_cons (pe_bltn (v := .ty "str") (by rfl) T.n_str (by decide +kernel) rfl) pa_nil)))) (pss_one (ps_ret (pe_and (pe_callB (kIsinst K) (by rfl) T.n_isinstance (by decide +kernel) (pa_cons (pv 0) (pa_cons (pe_bltn (v := .ty "str") (by rfl) T.n_str (by decide +kernel) rfl) pa_nil))) (pe_one (pe_cmpR op_eq (pv 0) (pv 1) (nomark _)))))) pss_nil)
      (pss_cons (ps_if (pt_val (pe_callB (kIsinst K) (by rfl) T.n_isinstance (by decide +kernel) (pa_cons (pv 1) (pa_cons (pe_bltn (v := .ty "int") (by rfl) T.n_int (by decide +kernel) rfl) pa_nil)))) (pss_one (ps_ret (pe_and (pe_callB (kIsinst K) (by rfl) T.n_isinstance (by decide +kernel) (pa_cons (pv 0) (pa_cons (pe_bltn (v := .ty "int") (by rfl) T.n_int (by decide +kernel) rfl) pa_nil))) (pe_and (pe_not (pe_callB (kIsinst K) (by rfl) T.n_isinstance (by decide +kernel) (pa_cons (pv 0) (pa_cons (pe_bltn (v := .ty "bool") (by rfl) T.n_bool (by decide +kernel) rfl) pa_nil)))) (pe_one (pe_cmpR op_eq (pv 0) (pv 1) (nomark _))))))) pss_nil)
      (pss_cons (ps_if (pt_cmpR o_isN (pv 1) pe_non (nomark _)) (pss_one (ps_ret (pe_cmpR o_isN (pv 0) pe_non (nomark _)))) pss_nil)
      (pss_cons (ps_if (PW.pt (pw_or (pt_cmpR op_ne (pe_callB (kIsinst K) (by rfl) T.n_isinstance (by decide +kernel) (pa_cons (pv 1) (pa_cons (pe_bltn (v := .ty "tuple") (by rfl) T.n_tuple (by decide +kernel) rfl) pa_nil))) (pe_callB (kIsinst K) (by rfl) T.n_isinstance (by decide +kernel) (pa_cons (pv 0) (pa_cons (pe_bltn (v := .ty "tuple") (by rfl) T.n_tuple (by decide +kernel) rfl) pa_nil))) (nomark _)) (pw_or1 (pt_cmpR op_ne (pe_callB (kIsinst K) (by rfl) T.n_isinstance (by decide +kernel) (pa_cons (pv 1) (pa_cons (pe_bltn (v := .ty "list") (by rfl) T.n_list (by decide +kernel) rfl) pa_nil))) (pe_callB (kIsinst K) (by rfl) T.n_isinstance (by decide +kernel) (pa_cons (pv 0) (pa_cons (pe_bltn (v := .ty "list") (by rfl) T.n_list (by decide +kernel) rfl) pa_nil))) (nomark _))))) (pss_one (ps_ret pe_bl)) pss_nil)
      (pss_cons (ps_if (pt_cmpR op_ne (pe_callB (kLen K) (by rfl) T.n_len (by decide +kernel) (pa_cons (pv 0) pa_nil)) (pe_callB (kLen K) (by rfl) T.n_len (by decide +kernel) (pa_cons (pv 1) pa_nil)) (nomark _)) (pss_one (ps_ret pe_bl)) pss_nil)
      (pss_cons (ps_for PassesOwn.never rfl (pi_range1 (by rfl) T.n_range (pa_cons (pe_callB (kLen K) (by rfl) T.n_len (by decide +kernel) (pa_cons (pv 1) pa_nil)) pa_nil)) (pg_name (i := 2) nd rfl (Or.inl rfl)) (pss_one (ps_if (pt_not (pt_val (pe_callC C_law_like (hr.mono (by omega)) (by rfl) (pa_cons (pe_ix (kIx K) (pv 0) (pv 2) (fun _ _ => rfl)) (pa_cons (pe_ix (kIx K) (pv 1) (pv 2) (fun _ _ => rfl)) pa_nil))))) (pss_one (ps_ret pe_bl)) pss_nil)))
      (pss_one (ps_ret pe_bl))))))))), ?_⟩
  unfold Like at hL
  rcases hL with ⟨rfl, ⟨i, rfl⟩ | ⟨t, rfl⟩ | ⟨b, rfl⟩ | rfl⟩ | ⟨a, b, xs, ys, rfl, rfl, ht, hl, hm, hi⟩
  · with_reducible refine go_seq (go_ifS (go_testB (go_cb (go_cons ?_))))
    with_reducible refine go_var rfl (go_cons (go_c (go_nil (go_is_int_bool ?_))))
    with_reducible refine go_qb (go_iteF (go_next (go_seq (go_ifS ?_))))
    with_reducible refine go_testB (go_cb (go_cons (go_var rfl (go_cons ?_))))
    with_reducible refine go_c (go_nil (go_is_int_str (go_qb (go_iteF ?_))))
    with_reducible refine go_next (go_seq (go_ifS (go_testB (go_cb ?_))))
    with_reducible refine go_cons (go_var rfl (go_cons (go_c (go_nil ?_))))
    with_reducible refine go_is_int_int (go_qb (go_iteT (go_ret (go_andV ?_))))
    with_reducible refine go_cb (go_cons (go_var rfl (go_cons (go_c ?_))))
    with_reducible refine go_nil (go_is_int_int (go_qb (go_iteT (go_andV ?_))))
    with_reducible refine go_notV (go_cb (go_cons (go_var rfl (go_cons ?_))))
    with_reducible refine go_c (go_nil (go_is_int_bool (go_qb (go_qb ?_))))
    with_reducible refine go_iteNf (go_op (go_var rfl (go_var rfl (go_eqI ?_))))
    rw [decide_eq_true rfl]; exact k
  · walk_at "lw_go"
    rw [decide_eq_true rfl]; exact k
  · walk_at "lw_go"
    rw [decide_eq_true rfl]; exact k
  · walk_at "lw_go"
    exact k
  · rcases ht with ⟨h1, h2⟩ | ⟨h1, h2⟩
    all_goals
      walk_at "lw_go"
      refine fq_range (fun i σ H' => ∃ v, σ = [some (.ref a), some (.ref b), v] ∧ H' = H) ⟨none, rfl, rfl⟩ ?_ ?_
      · rintro i σ H' hlt ⟨v, rfl, rfl⟩
        obtain ⟨x', hx⟩ : ∃ v, xs[i]? = some v := ⟨_, List.getElem?_eq_getElem (by omega)⟩
        obtain ⟨y', hy⟩ : ∃ v, ys[i]? = some v := ⟨_, List.getElem?_eq_getElem (by omega)⟩
        have e1 := atI_0n hx
        have e2 := atI_0n hy
        walk_at "lw_go"
        refine ⟨x', y', rfl, hi i x' y' hx hy, ?_⟩
        walk_at "lw_go"
        exact ⟨_, rfl, rfl⟩
      · rintro σ H' ⟨v, rfl, rfl⟩
        walk_at "lw_go"
        exact k
theorem no_like : FnOk P w K mg base CX0 0 f fd ["_law_found", "_law_due"] (spLike 0) :=
  ⟨fun vs H Q E h => by obtain ⟨x, y, rfl, h, _⟩ := h; exact h.elim, fun A outer s H args us vs Q E _ _ _ _ h => by obtain ⟨x, y, rfl, h, _⟩ := h; exact h.elim⟩
theorem c_like (F : Fun K "_law_like" "_law_like" s__law_like f fd) (b : Binds K fd ["_law_found", "_law_due"] []) (m : mg "_law_like" = some (.ref f)) (T : Txt mg) : ∀ n : Nat, FnC P w K mg base n "_law_like" ["_law_found", "_law_due"] (spLike n)
  | 0 => ⟨f, fd, no_like, m, F.kp, b⟩
  | n + 1 => ⟨f, fd, ok_like F T (c_like F b m T n), m, F.kp, b⟩
end
end Lw
set_option Elab.async false
set_option linter.all false
set_option maxRecDepth 100000
set_option maxHeartbeats 4000000
namespace Lw
open PySem L2
local macro_rules | `(tactic| walk_at "lw_hp") => `(tactic| (repeat (first | assumption | exact upd_same | (refine' upd_new (by assumption) ?_) | (refine' tup_off (by assumption) (by assumption) ?_) | (refine' lst_off (by assumption) (by assumption) (by assumption) ?_) | (refine' Same.get (by assumption) ?_) | (refine' Off.get (by assumption) (by assumption) ?_) | (refine' upd_oth (by assumption) ?_))))
abbrev s__law_part_cost : Stmt := top 28
theorem again_next (W F : List Int) (s e : Int) {i : Nat} {n : Int} (h : F[i]? = some n) : againM W (F.take (i + 1)) s e = againM W (F.take i) s e + if s ≤ n ∧ n < e then seg W s n else 0 := by
  unfold againM
  rw [again_snoc W F s e h _ rfl]
  by_cases c : s ≤ n ∧ n < e
  · rw [if_pos c, if_pos (by simp [c]), List.sum_append]; simp
  · rw [if_neg c, if_neg (by simpa using c)]; simp
section
variable {P : Program} {w : World} {K : PySem.W.Frag} {mg : Str → Option Value} {base : Heap} {f : Addr} {fd : FuncData}
theorem scs__law_part_cost : FnScope ["_law_weights", "_law_falls", "_law_at", "_law_end", "_law_found", "_law_fall"] ["_law_weights", "_law_falls", "_law_at", "_law_end"] (defScope s__law_part_cost) := ⟨rfl, rfl, rfl, by decide +kernel, rfl, by decide +kernel, by decide +kernel⟩
theorem ok_partc (F : Fun K "_law_part_cost" "_law_part_cost" s__law_part_cost f fd) (T : Txt mg) : FnOk P w K mg base CX0 1 f fd ["_law_weights", "_law_falls", "_law_at", "_law_end"] spAgain := by
  refine F.ok scs__law_part_cost (fun vs H Q E h => ?_) (fun cdv A outer s H vs Q E hr h => ?_)
  · obtain ⟨a, b, W, F, s, e, rfl, _⟩ := h
    rfl
  obtain ⟨a, b, W, F, s, e, rfl, hw, hf, hl, hs, hb, k⟩ := h
  have nd := scs__law_part_cost.nd
  have hu := hu_of hr
  refine ⟨_, (pss_cons (ps_set (i := 4) nd rfl (Or.inl rfl) pe_int)
      (pss_cons (ps_for PassesOwn.never rfl (kPiL K (pv 1)) (pg_name (i := 5) nd rfl (Or.inl rfl)) (pss_one (ps_if (pt_chain op_le op_lt (pv 2) (pv 5) (pv 3)) (pss_one (ps_set (i := 4) nd rfl (Or.inl rfl) (pe_op op_add (pv 4) (pe_callB (kSum K rfl) (by rfl) T.n_sum (by decide +kernel) (pa_cons (pe_slice (kSlL K) (pv 0) (po_some (pv 2)) (po_some (pv 5))) pa_nil))))) pss_nil)))
      (pss_one (ps_ret (pv 4))))), ?_⟩
  with_reducible refine go_seq (go_asg (go_c (go_gname (go_seq ?_))))
  with_reducible refine go_for (go_iL (go_var rfl ?_))
  (with_reducible refine' go_qiL ?hp ?_); (case hp => walk_at "lw_hp")
  refine fq_list (F.map V.int) (fun i σ H' => ∃ v, σ = [some (.ref a), some (.ref b), some (.int s), some (.int e), some (.int (againM W (F.take i) s e)), v] ∧ Same H H') ⟨none, rfl, Same.refl H⟩ ?_ ?_ ?_
  · rintro i σ H' _ ⟨_, rfl, sm⟩
    exact SqL.of (sm _ _ hf)
  · rintro i x σ H' hx ⟨v, rfl, sm⟩
    obtain ⟨n, rfl, hn⟩ := int_of hx
    have hbn := hb n (mem_of hn)
    have nxt := again_next W F s e hn
    with_reducible refine go_gname (go_ifS (go_test (go_chain (go_var rfl ?_))))
    with_reducible refine go_var rfl (go_i0 (go_qch ?_))
    refine go_iteD (fun c => ?_) (fun c => ?_)
    · with_reducible refine go_var rfl (go_i0 (go_qb ?_))
      refine go_iteD (fun c' => ?_) (fun c' => ?_)
      · with_reducible refine go_asg (go_op (go_var rfl (go_cb (go_cons ?_))))
        with_reducible refine go_sl (go_var rfl (go_part (go_var rfl (go_qI ?_))))
        with_reducible refine go_part (go_var rfl (go_qI ?_))
        refine go_slL (sm _ _ hw) (fun z hz => ?_)
        rw [cut_ints W hs hbn.1 hbn.2]
        with_reducible refine go_nil ?_
        (with_reducible refine' go_sumL ?hp ?_); (case hp => walk_at "lw_hp")
        with_reducible refine go_i0 (go_gname ?_)
        rw [if_pos ⟨c, c'⟩] at nxt
        exact ⟨_, by rw [nxt]; rfl, sm.trans (same_new hz _)⟩
      · with_reducible refine go_next ?_
        rw [if_neg (fun z => c' z.2), Int.add_zero] at nxt
        exact ⟨_, by rw [nxt]; rfl, sm⟩
    · with_reducible refine go_qb (go_iteF (go_next ?_))
      rw [if_neg (fun z => c z.1), Int.add_zero] at nxt
      exact ⟨_, by rw [nxt]; rfl, sm⟩
  · rintro σ H' ⟨v, rfl, sm⟩
    rw [show (F.map V.int).length = F.length from List.length_map _, List.take_length]
    with_reducible refine go_ret (go_var rfl ?_)
    exact k _ sm
end
end Lw
set_option Elab.async false
set_option linter.all false
set_option maxRecDepth 100000
set_option maxHeartbeats 4000000
namespace Lw
open PySem L2
local macro_rules | `(tactic| walk_at "lw_hp") => `(tactic| (repeat (first | assumption | exact upd_same | (refine' upd_new (by assumption) ?_) | (refine' tup_off (by assumption) (by assumption) ?_) | (refine' lst_off (by assumption) (by assumption) (by assumption) ?_) | (refine' Same.get (by assumption) ?_) | (refine' Off.get (by assumption) (by assumption) ?_) | (refine' upd_oth (by assumption) ?_))))
abbrev s__law_least : Stmt := top 27
def spLeast : Sp := fun vs H Q _ => ∃ (w f : Addr) (W F : List Int) (p : Int), vs = [.ref w, .ref f, .int p] ∧ H w = some (.lst (W.map V.int)) ∧ H f = some (.lst (F.map V.int)) ∧ W.length ≤ 60 ∧ F.length ≤ 20 ∧ (∀ x ∈ F, 0 ≤ x ∧ x ≤ W.length) ∧
  ∀ (r : Addr) (H' : Hp), Same H H' → PrN H H' (OO W F p 0) r → Q (.ref r) H'
section
variable {P : Program} {w : World} {K : PySem.W.Frag} {mg : Str → Option Value} {base : Heap} {f : Addr} {fd : FuncData}
theorem scs__law_least : FnScope ["_law_weights", "_law_falls", "_law_price", "_law_many", "_law_behind", "_law_at", "_law_mark", "_law_marks", "_law_some"] ["_law_weights", "_law_falls", "_law_price"] (defScope s__law_least) := ⟨rfl, rfl, rfl, by decide +kernel, rfl, by decide +kernel, by decide +kernel⟩
theorem ok_least (F : Fun K "_law_least" "_law_least" s__law_least f fd) (T : Txt mg) (C_law_part_cost : FnC P w K mg base 1 "_law_part_cost" ["_law_weights", "_law_falls", "_law_at", "_law_end"] spAgain) : FnOk P w K mg base CX0 2 f fd ["_law_weights", "_law_falls", "_law_price"] spLeast := by
  refine F.ok scs__law_least (fun vs H Q E h => ?_) (fun cdv A outer s H vs Q E hr h => ?_)
  · obtain ⟨a, b, W, F, p, rfl, _⟩ := h
    rfl
  obtain ⟨a, b, W, F, p, rfl, hw, hf, hlW, hlF, hb, k⟩ := h
  have nd := scs__law_least.nd
  have hu := hu_of hr
  refine ⟨_, (pss_cons (ps_set (i := 3) nd rfl (Or.inl rfl) (pe_callB (kLen K) (by rfl) T.n_len (by decide +kernel) (pa_cons (pv 0) pa_nil)))
      (pss_cons (ps_set (i := 4) nd rfl (Or.inl rfl) pe_dnewK)
      (pss_cons (ps_for PassesOwn.never rfl (pi_range3 (by rfl) T.n_range (pa_cons (pe_callB (c_max rfl) (by rfl) T.n_max (by decide +kernel) (pa_cons pe_int (pa_cons (pe_op op_sub (pv 3) pe_int) pa_nil))) (pa_cons (pe_un un_neg pe_int) (pa_cons (pe_un un_neg pe_int) pa_nil)))) (pg_name (i := 5) nd rfl (Or.inl rfl)) (pss_cons (ps_dput hu (pv 4) (pv 5) (pe_callC C_law_part_cost (hr.mono (by omega)) (by rfl) (pa_cons (pv 0) (pa_cons (pv 1) (pa_cons (pv 5) (pa_cons (pe_op op_add (pv 3) pe_int) pa_nil))))) rfl)
      (pss_one (ps_for PassesOwn.never rfl (pi_range2 (by rfl) T.n_range (pa_cons (pe_op op_add (pv 5) pe_int) (pa_cons (pv 3) pa_nil))) (pg_name (i := 6) nd rfl (Or.inl rfl)) (pss_one (ps_dput hu (pv 4) (pv 5) (pe_callB (c_min rfl) (by rfl) T.n_min (by decide +kernel) (pa_cons (pe_dget hu (pv 4) (pv 5) (fun _ _ => rfl)) (pa_cons (pe_op op_add (pe_op op_add (pe_callC C_law_part_cost (hr.mono (by omega)) (by rfl) (pa_cons (pv 0) (pa_cons (pv 1) (pa_cons (pv 5) (pa_cons (pv 6) pa_nil))))) (pv 2)) (pe_dget hu (pv 4) (pv 6) (fun _ _ => rfl))) pa_nil))) rfl))))))
      (pss_cons (ps_par (i := 7) (j := 5) (by rfl) nd rfl rfl (by decide) rfl rfl (pa_cons (pe_lst pa_nil) (pa_cons pe_int pa_nil)) (by rfl))
      (pss_cons (ps_while PassesOwn.never (pt_cmpR op_lt (pe_dget hu (pv 4) (pv 5) (fun _ _ => rfl)) (pe_callC C_law_part_cost (hr.mono (by omega)) (by rfl) (pa_cons (pv 0) (pa_cons (pv 1) (pa_cons (pv 5) (pa_cons (pe_op op_add (pv 3) pe_int) pa_nil))))) (nomark _)) (pss_cons (ps_set (i := 8) nd rfl (Or.inl rfl) (pe_lst pa_nil))
      (pss_cons (ps_for PassesOwn.never rfl (pi_range2 (by rfl) T.n_range (pa_cons (pe_op op_add (pv 5) pe_int) (pa_cons (pv 3) pa_nil))) (pg_name (i := 6) nd rfl (Or.inl rfl)) (pss_one (ps_if (pt_cmpR op_eq (pe_op op_add (pe_op op_add (pe_callC C_law_part_cost (hr.mono (by omega)) (by rfl) (pa_cons (pv 0) (pa_cons (pv 1) (pa_cons (pv 5) (pa_cons (pv 6) pa_nil))))) (pv 2)) (pe_dget hu (pv 4) (pv 6) (fun _ _ => rfl))) (pe_dget hu (pv 4) (pv 5) (fun _ _ => rfl)) (nomark _)) (pss_one (ps_expr (pe_bm PySem.F.plainAttrs_list PySem.F.slot_list_append PySem.F.type_list_append mt_append (pv 8) (pa_cons (pv 6) pa_nil)))) pss_nil)))
      (pss_cons (ps_set (i := 5) nd rfl (Or.inl rfl) (pe_ix (kIxL K) (pv 8) pe_int (fun _ _ => rfl)))
      (pss_one (ps_expr (pe_bm PySem.F.plainAttrs_list PySem.F.slot_list_append PySem.F.type_list_append mt_append (pv 7) (pa_cons (pv 5) pa_nil))))))))
      (pss_one (ps_ret (pe_tup (pa_cons (pe_dget hu (pv 4) pe_int (fun _ _ => rfl)) (pa_cons (pv 7) pa_nil)))))))))), ?_⟩
  with_reducible refine go_seq (go_asg (go_cb (go_cons (go_var rfl ?_))))
  with_reducible refine go_nil ?_
  (with_reducible refine' go_lenL ?hp ?_); (case hp => walk_at "lw_hp")
  with_reducible refine go_gname (go_seq (go_asg ?_))
  simp only [List.length_map]
  refine go_dnew (fun d hd => ?_)
  have sd : Same H (upd H d (.dK [])) := same_new hd _
  have hd3 : upd H d (.dK []) d = some (.dK []) := upd_same
  generalize upd H d (.dK []) = H3 at *
  with_reducible refine go_gname (go_seq (go_for (go_rng3 (go_cons ?_))))
  with_reducible refine go_cb (go_cons (go_c (go_cons (go_op ?_))))
  with_reducible refine go_var rfl (go_c (go_i0 (go_nil (go_max ?_))))
  with_reducible refine go_cons (go_un (go_c (go_u (go_cons ?_))))
  with_reducible refine go_un (go_c (go_u (go_nil (go_qrng3 (by omega) (by omega) (by omega) (by omega) ?_))))
  refine fq_rvr (fun i σ H' => ∃ (kvs : List (Key × V)) (v5 v6 : Option V), σ = [some (.ref a), some (.ref b), some (.int p), some (.int W.length), some (.ref d), v5, v6, none, none] ∧ Same H H' ∧ H' d = some (.dK kvs) ∧ kvs.length ≤ 100 * i ∧ ∀ m : Int, max 0 ((W.length : Int) - 1) - i < m → m ≤ max 0 ((W.length : Int) - 1) → valV kvs (.inl m) = some (.int (OO W F p m).1)) ?_ ?_ ?_
  · exact ⟨[], none, none, rfl, sd, hd3, Nat.le_refl _, fun m h1 h2 => by omega⟩
  · rintro i σ H' hi ⟨kvs, v5, v6, rfl, sm, hd', hl', hX⟩
    have es : max 0 ((W.length : Int) - 1) + (i : Nat) * -1 = max 0 ((W.length : Int) - 1) - i := by omega
    rw [es]
    obtain ⟨s, hs⟩ : ∃ s : Int, s = max 0 ((W.length : Int) - 1) - i := ⟨_, rfl⟩
    rw [← hs]
    have hX' : ∀ m : Int, s < m → m ≤ max 0 ((W.length : Int) - 1) → valV kvs (.inl m) = some (.int (OO W F p m).1) := fun m h1 h2 => hX m (by omega) h2
    clear hX es
    with_reducible refine go_gname (go_seq (go_dput (go_callC (go_cons ?_))))
    with_reducible refine go_var rfl (go_cons (go_var rfl (go_cons (go_var rfl ?_))))
    with_reducible refine go_cons (go_op (go_var rfl (go_c (go_i0 ?_))))
    with_reducible refine go_nil ?_
    refine ⟨a, b, W, F, s, _, rfl, sm _ _ hw, sm _ _ hf, by omega, by omega, hb, fun H4 s4 => ?_⟩
    have hd4 := s4 _ _ hd'
    have sm4 := sm.trans s4
    with_reducible refine go_var rfl (go_var rfl ?_)
    refine go_qdpI hd4 (small_line (by omega)) ?_
    with_reducible refine go_for (go_rng2 (go_cons (go_op (go_var rfl ?_))))
    with_reducible refine go_c (go_i0 (go_cons (go_var rfl (go_nil ?_))))
    with_reducible refine go_qrng2 (by omega) (by omega) (by omega) (by omega) ?_
    refine fq_range (fun j σ H' => ∃ (kv2 : List (Key × V)) (v6 : Option V), σ = [some (.ref a), some (.ref b), some (.int p), some (.int W.length), some (.ref d), some (.int s), v6, none, none] ∧ Same H H' ∧ H' d = some (.dK kv2) ∧ kv2.length ≤ 100 * i + 1 + j ∧ valV kv2 (.inl s) = some (.int (minV W F p s j)) ∧ ∀ m : Int, s < m → m ≤ max 0 ((W.length : Int) - 1) → valV kv2 (.inl m) = some (.int (OO W F p m).1)) ?_ ?_ ?_
    · refine ⟨_, v6, rfl, same_upd hd sm4, upd_same, Nat.le_trans (length_putK _ _ _) (by omega), by rw [valV_put, if_pos rfl]; rfl, fun m h1 h2 => ?_⟩
      rw [valV_put, if_neg (by intro z; injection z with z; omega)]
      exact hX' m h1 h2
    · clear hX' hd4 hd' sm4 s4 sm hl' kvs
      rintro j σ H5 hj ⟨kv2, v6, rfl, sm, hd5, hl5, hv, hX⟩
      have ej : s + 1 + (j : Int) ≤ max 0 ((W.length : Int) - 1) := by omega
      have hXj := hX (s + 1 + j) (by omega) ej
      with_reducible refine go_gname (go_dput (go_cb (go_cons (go_dget ?_))))
      with_reducible refine go_var rfl (go_var rfl ?_)
      refine go_qdgI hd5 hv ?_
      with_reducible refine go_cons (go_op (go_op (go_callC (go_cons ?_))))
      with_reducible refine go_var rfl (go_cons (go_var rfl (go_cons (go_var rfl ?_))))
      with_reducible refine go_cons (go_var rfl (go_nil ?_))
      refine ⟨a, b, W, F, s, _, rfl, sm _ _ hw, sm _ _ hf, by omega, by omega, hb, fun H6 s6 => ?_⟩
      have hd6 := s6 _ _ hd5
      with_reducible refine go_var rfl (go_i0 (go_dget (go_var rfl (go_var rfl ?_))))
      refine go_qdgI hd6 hXj ?_
      with_reducible refine go_i0 (go_nil (go_min (go_var rfl (go_var rfl ?_))))
      refine go_qdpI hd6 (small_line (by omega)) ?_
      refine ⟨_, _, rfl, same_upd hd (sm.trans s6), upd_same, Nat.le_trans (length_putK _ _ _) (by omega), by rw [valV_put, if_pos rfl]; rfl, fun m h1 h2 => ?_⟩
      rw [valV_put, if_neg (by intro z; injection z with z; omega)]
      exact hX m h1 h2
    · rintro σ H5 ⟨kv2, v6, rfl, sm, hd5, hl5, hv, hX⟩
      refine ⟨kv2, _, _, rfl, sm, hd5, by omega, fun m h1 h2 => ?_⟩
      by_cases c : m = s
      · subst c
        rw [hv, minV_eq (by omega)]
      · exact hX m (by omega) h2
  · rintro σ H4 ⟨kvs, v5, v6, rfl, sm, hd4, hl4, hX⟩
    have hV : ∀ m : Int, 0 ≤ m → m ≤ max 0 ((W.length : Int) - 1) → valV kvs (.inl m) = some (.int (OO W F p m).1) := fun m h1 h2 => hX m (by omega) h2
    clear hX
    with_reducible refine go_seq (go_par (go_cons (go_lst (go_nil ?_))))
    refine go_qlst (Nat.le_of_ble_eq_true rfl) (fun ml hml => ?_)
    have nml : d ≠ ml := ne_of_none hd4 hml
    have fml : H ml = none := sm.free hml
    have S5 := same_new hml (.lst [])
    have e5 : upd H4 ml (.lst []) ml = some (.lst []) := upd_same
    have sm5 := sm.trans S5
    have hd5 := S5 _ _ hd4
    clear S5 hml sm hd4
    generalize upd H4 ml (.lst []) = H5 at *
    with_reducible refine go_cons (go_c (go_nil (go_gpar (go_seq ?_))))
    refine go_whileM (fun m σ H' => ∃ (s : Int) (ms : List Int) (v6 v8 : Option V), σ = [some (.ref a), some (.ref b), some (.int p), some (.int W.length), some (.ref d), some (.int s), v6, some (.ref ml), v8] ∧ Same H H' ∧ H' d = some (.dK kvs) ∧ H' ml = some (.lst (ms.map V.int)) ∧ 0 ≤ s ∧ s ≤ max 0 ((W.length : Int) - 1) ∧ ms ++ (OO W F p s).2 = (OO W F p 0).2 ∧ m = (60 - s).toNat ∧ (ms.length : Int) ≤ s) 60 ⟨0, [], _, _, rfl, sm5, hd5, e5, by omega, by omega, rfl, by omega, by show ((0 : Nat) : Int) ≤ 0; omega⟩ ?_
    clear e5 hd5 sm5 hl4 v5 v6
    rintro m σ H6 ⟨s, ms, v6, v8, rfl, sm, hd6, hm6, s0, s1, hms, rfl, lms⟩
    have hVs := hV s s0 s1
    with_reducible refine go_test (go_op (go_dget (go_var rfl (go_var rfl ?_))))
    refine go_qdgI hd6 hVs ?_
    with_reducible refine go_callC (go_cons (go_var rfl (go_cons (go_var rfl ?_))))
    with_reducible refine go_cons (go_var rfl (go_cons (go_op (go_var rfl ?_))))
    with_reducible refine go_c (go_i0 (go_nil ?_))
    refine ⟨a, b, W, F, s, _, rfl, sm _ _ hw, sm _ _ hf, by omega, s0, hb, fun H7 S7 => ?_⟩
    have sm7 := sm.trans S7
    have hd7 := S7 _ _ hd6
    have hm7 := S7 _ _ hm6
    clear S7 hd6 hm6 sm
    with_reducible refine go_i0 (go_qb ?_)
    refine go_whM ?_
    refine go_iteD (fun c => ?_) (fun c => ?_)
    · with_reducible refine go_seq (go_asg (go_lst (go_nil ?_)))
      refine go_qlst (Nat.le_of_ble_eq_true rfl) (fun so hso => ?_)
      have S8 := same_new hso (.lst [])
      have nso : d ≠ so := ne_of_none hd7 hso
      have nsm : ml ≠ so := ne_of_none hm7 hso
      have e8 : upd H7 so (.lst []) so = some (.lst []) := upd_same
      have sm8 := sm7.trans S8
      have hd8 := S8 _ _ hd7
      have hm8 := S8 _ _ hm7
      have fso : H so = none := sm7.free hso
      clear S8 hso sm7 hd7 hm7
      generalize upd H7 so (.lst []) = H8 at *
      with_reducible refine go_gname (go_seq (go_for (go_rng2 (go_cons ?_))))
      with_reducible refine go_op (go_var rfl (go_c (go_i0 (go_cons ?_))))
      with_reducible refine go_var rfl (go_nil (go_qrng2 (by omega) (by omega) (by omega) (by omega) ?_))
      refine fq_range (fun j σ H' => ∃ (v6 : Option V), σ = [some (.ref a), some (.ref b), some (.int p), some (.int W.length), some (.ref d), some (.int s), v6, some (.ref ml), some (.ref so)] ∧ Same H H' ∧ H' d = some (.dK kvs) ∧ H' ml = some (.lst (ms.map V.int)) ∧ H' so = some (.lst ((tie W F p s j).map V.int))) ⟨v6, rfl, sm8, hd8, hm8, e8⟩ ?_ ?_
      · clear e8 hm8 hd8 sm8
        rintro j σ H9 hj ⟨v6, rfl, sm, hd9, hm9, hs9⟩
        have hVj := hV (s + 1 + j) (by omega) (by omega)
        have lt : (tie W F p s j).length ≤ 100 := by
          unfold tie
          refine Nat.le_trans (List.length_filter_le _ _) ?_
          rw [List.length_map, List.length_range]
          omega
        have nxt := tie_succ (W := W) (F := F) (p := p) (s := s) (k := j)
        with_reducible refine go_gname (go_ifS (go_test (go_op (go_op ?_))))
        with_reducible refine go_op (go_callC (go_cons (go_var rfl (go_cons ?_))))
        with_reducible refine go_var rfl (go_cons (go_var rfl (go_cons (go_var rfl ?_))))
        with_reducible refine go_nil ?_
        refine ⟨a, b, W, F, s, _, rfl, sm _ _ hw, sm _ _ hf, by omega, s0, hb, fun H10 S10 => ?_⟩
        have hd10 := S10 _ _ hd9
        have hs10 := S10 _ _ hs9
        have hm10 := S10 _ _ hm9
        with_reducible refine go_var rfl (go_i0 (go_dget (go_var rfl (go_var rfl ?_))))
        refine go_qdgI hd10 hVj ?_
        with_reducible refine go_i0 (go_dget (go_var rfl (go_var rfl ?_)))
        refine go_qdgI hd10 hVs ?_
        with_reducible refine go_eqI (go_qb ?_)
        refine go_iteD (fun c1 => ?_) (fun c1 => ?_)
        · with_reducible refine go_drop (go_bm (go_var rfl ?_))
          (with_reducible refine' go_qbm ?hp ?_); (case hp => walk_at "lw_hp")
          with_reducible refine go_cons (go_var rfl (go_nil ?_))
          refine go_append hs10 (small_line (by rw [List.length_map]; omega)) ?_
          skip
          rw [if_pos c1] at nxt
          exact ⟨_, rfl, same_upd fso (sm.trans S10), upd_oth nso hd10, upd_oth nsm hm10, by rw [upd_same, nxt, List.map_append]; rfl⟩
        · with_reducible refine go_next ?_
          rw [if_neg c1, List.append_nil] at nxt
          exact ⟨_, rfl, sm.trans S10, hd10, hm10, by rw [nxt]; exact hs10⟩
      · clear e8 hm8 hd8 sm8
        rintro σ H9 ⟨v6, rfl, sm, hd9, hm9, hs9⟩
        obtain ⟨m0, rest, et, m1, m2, eo⟩ := gr_step (W := W) (F := F) (p := p) (s := s) (k := ((W.length : Int) - (s + 1)).toNat) (by omega) c
        have hs9' : H9 so = some (.lst (V.int m0 :: rest.map V.int)) := by rw [hs9, et]; rfl
        have a0 : atI (V.int m0 :: rest.map V.int) 0 = some (.int m0) := atI_nat (j := 0) rfl
        with_reducible refine go_seq (go_asg (go_op (go_var rfl (go_c ?_))))
        (with_reducible refine' go_ixL ?hp ?ha ?_); (case hp => walk_at "lw_hp"); (case ha => first | rfl | assumption)
        with_reducible refine go_gname (go_drop (go_bm (go_var rfl ?_)))
        (with_reducible refine' go_qbm ?hp ?_); (case hp => walk_at "lw_hp")
        with_reducible refine go_cons (go_var rfl (go_nil ?_))
        refine go_append hm9 (small_line (by rw [List.length_map]; omega)) ?_
        skip
        exact ⟨_, by omega, m0, ms ++ [m0], _, _, rfl, same_upd fml sm, upd_oth nml hd9, by rw [upd_same, List.map_append]; rfl, by omega, by omega, by rw [← hms, eo, List.append_assoc]; rfl, rfl, by rw [List.length_append, List.length_singleton]; omega⟩
    · have e0 := gr_stop c
      rw [e0, List.append_nil] at hms
      have hV0 := hV 0 (by omega) (by omega)
      with_reducible refine go_ret (go_tup (go_cons (go_dget (go_var rfl ?_))))
      with_reducible refine go_c ?_
      refine go_qdgI hd7 hV0 ?_
      with_reducible refine go_cons (go_var rfl (go_nil ?_))
      refine go_qtup (Nat.le_of_ble_eq_true rfl) (fun t ht => ?_)
      exact k t _ (sm7.trans (same_new ht _)) ⟨ml, upd_same, by rw [← hms]; exact upd_new ht hm7, fml⟩
end
end Lw
set_option Elab.async false
set_option linter.all false
set_option maxRecDepth 100000
set_option maxHeartbeats 4000000
namespace Lw
open PySem L2
local macro_rules | `(tactic| walk_at "lw_hp") => `(tactic| (repeat (first | assumption | exact upd_same | (refine' upd_new (by assumption) ?_) | (refine' tup_off (by assumption) (by assumption) ?_) | (refine' lst_off (by assumption) (by assumption) (by assumption) ?_) | (refine' Same.get (by assumption) ?_) | (refine' Off.get (by assumption) (by assumption) ?_) | (refine' upd_oth (by assumption) ?_))))
abbrev s_law : Stmt := top 29
def spLaw (K : PySem.W.Frag) : Sp := fun vs H Q _ => ∃ (a : Addr) (ns : List Int), vs = [.ref a] ∧ Scr K H a ns ∧ ns.length ≤ 63 ∧ ∀ H', Q (.bl true) H'
theorem like_ints {H : Hp} {a b : Addr} {ns : List Int} (h1 : H a = some (.lst (ns.map V.int))) (h2 : H b = some (.lst (ns.map V.int))) (hl : ns.length ≤ 5000) : Like 2 H (.ref a) (.ref b) := by
  refine .inr ⟨a, b, _, _, rfl, rfl, .inr ⟨h1, h2⟩, rfl, by simpa using hl, fun i x y hx hy => ?_⟩
  rw [hx] at hy
  cases hy
  obtain ⟨n, rfl, _⟩ := int_of hx
  exact .inl ⟨rfl, .inl ⟨n, rfl⟩⟩
theorem like_pair {H : Hp} {a b l l' : Addr} {x : Int × List Int} (h1 : H a = some (.tup [.int x.1, .ref l])) (h2 : H b = some (.tup [.int x.1, .ref l'])) (g1 : H l = some (.lst (x.2.map V.int))) (g2 : H l' = some (.lst (x.2.map V.int))) (hl : x.2.length ≤ 5000) : Like 3 H (.ref a) (.ref b) := by
  refine .inr ⟨a, b, _, _, rfl, rfl, .inl ⟨h1, h2⟩, rfl, Nat.le_of_ble_eq_true rfl, fun i u v hu hv => ?_⟩
  match i with
  | 0 => cases hu; cases hv; exact .inl ⟨rfl, .inl ⟨_, rfl⟩⟩
  | 1 => cases hu; cases hv; exact like_ints g1 g2 hl
  | i + 2 => cases hu
theorem go_join {A : TS} {σ : St} {H : Hp} {nx : St → Hp → Prop} {rt : VK} {bk ct : St → Hp → Prop} (R : St → Hp → Prop) (hR : ∀ σ H, R σ H → nx σ H) (h : ∀ nx', (∀ σ H, R σ H → nx' σ H) → A ⟨nx', rt, bk, ct⟩ σ H) : A ⟨nx, rt, bk, ct⟩ σ H := h nx hR
theorem nodup_le {ds l : List Int} (h : ds.Nodup) (hs : ∀ k ∈ ds, k ∈ l) : ds.length ≤ l.length := by
  rcases Nat.lt_or_ge l.length ds.length with c | c
  · have := (perm_of_nodup h hs (Nat.le_of_lt c)).length_eq
    omega
  · exact c
theorem mem_rg {a k : Int} {n : Nat} (h : k ∈ rgFrom a n) : a ≤ k ∧ k < a + n := by
  unfold rgFrom at h
  obtain ⟨j, hj, rfl⟩ := List.mem_map.mp h
  have := List.mem_range.mp hj
  omega
theorem rg_mem {a k : Int} {n : Nat} (h1 : a ≤ k) (h2 : k < a + n) : k ∈ rgFrom a n := by
  unfold rgFrom
  exact List.mem_map.mpr ⟨(k - a).toNat, List.mem_range.mpr (by omega), by omega⟩
theorem rg_len {a : Int} {n : Nat} : (rgFrom a n).length = n := by unfold rgFrom; rw [List.length_map, List.length_range]
theorem rg_pw {a : Int} {n : Nat} : (rgFrom a n).Pairwise (· < ·) := by
  unfold rgFrom
  exact List.pairwise_map.mpr (List.pairwise_lt_range.imp fun h => by omega)
theorem off_upd {H H' : Hp} {d l : Addr} {o : HO} (h : Off d H H') (hl : H l = none) : Off d H (upd H' l o) := fun b u hb nd => upd_oth (ne_of_none hb hl) (h _ _ hb nd)
theorem sub_keep {qs l : List Int} {n : Int} (h : qs.Sublist l) : qs.Sublist (l ++ [n]) := h.trans (List.sublist_append_left _ _)
theorem sub_snoc {qs l : List Int} {n : Int} (h : qs.Sublist l) : (qs ++ [n]).Sublist (l ++ [n]) := h.append (List.Sublist.refl _)
section
variable {P : Program} {w : World} {K : PySem.W.Frag} {mg : Str → Option Value} {base : Heap} {f : Addr} {fd : FuncData}
theorem scs_law : FnScope ["_law_script", "_law_d", "_law_turn", "_law_again", "_law_weights", "_law_falls", "_law_price", "_law_least_here", "_law_marks", "_law_places", "_law_other", "_law_told", "_law_place"] ["_law_script"] (defScope s_law) := ⟨rfl, rfl, rfl, by decide +kernel, rfl, by decide +kernel, by decide +kernel⟩
theorem ok_law (F : Fun K "law" "law" s_law f fd) (T : Txt mg) (C_law_dice : FnC P w K mg base 1 "_law_dice" ["_law_script"] (spDice K)) (C_law_next : FnC P w K mg base 1 "_law_next" ["_law_dice_here", "_law_many"] (spNext K)) (C_law_plan : FnC P w K mg base 2 "_law_plan" ["_law_d", "_law_most"] (spPlan K)) (C_law_cost : FnC P w K mg base 1 "_law_cost" ["_law_weights", "_law_falls", "_law_price", "_law_marks"] spCost)
    (C_best : FnC P w K mg base 3 "best" ["weights", "falls", "price"] spBest) (C_cost : FnC P w K mg base 3 "cost" ["weights", "falls", "price", "marks"] spPCost) (C_law_least : FnC P w K mg base 2 "_law_least" ["_law_weights", "_law_falls", "_law_price"] spLeast) (C_law_like : FnC P w K mg base 3 "_law_like" ["_law_found", "_law_due"] (spLike 3)) : FnOk P w K mg base CX0 4 f fd ["_law_script"] (spLaw K) := by
  refine F.ok scs_law (fun vs H Q E h => ?_) (fun cdv A outer s H vs Q E hr h => ?_)
  · obtain ⟨a, ns, rfl, _⟩ := h
    rfl
  obtain ⟨a, ns, rfl, hS, hl, k⟩ := h
  have nd := scs_law.nd
  have hu := hu_of hr
  refine ⟨_, (pss_cons (ps_set (i := 1) nd rfl (Or.inr rfl) (pe_callC C_law_dice (hr.mono (by omega)) (by rfl) (pa_cons (pv 0) pa_nil)))
      (pss_cons (ps_for PassesOwn.never rfl (pi_range1 (by rfl) T.n_range (pa_cons pe_int pa_nil)) (pg_name (i := 2) nd rfl (Or.inl rfl)) (pss_cons (ps_asg (pe_callC C_law_plan (hr.mono (by omega)) (by rfl) (pa_cons (pv 1) (pa_cons pe_int pa_nil))) (kPgT K (by rfl) (pgs_cons (pg_name (i := 4) nd rfl (Or.inl rfl)) (pgs_cons (pg_name (i := 5) nd rfl (Or.inl rfl)) (pgs_cons (pg_name (i := 6) nd rfl (Or.inl rfl)) pgs_nil)))))
      (pss_cons (ps_asg (pe_callC C_best (hr.mono (by omega)) (by rfl) (pa_cons (pv 4) (pa_cons (pv 5) (pa_cons (pv 6) pa_nil)))) (kPgT K (by rfl) (pgs_cons (pg_name (i := 7) nd rfl (Or.inl rfl)) (pgs_cons (pg_name (i := 8) nd rfl (Or.inl rfl)) pgs_nil))))
      (pss_cons (ps_if (pt_not (pt_val (pe_callC C_law_like (hr.mono (by omega)) (by rfl) (pa_cons (pe_tup (pa_cons (pv 7) (pa_cons (pv 8) pa_nil))) (pa_cons (pe_callC C_law_least (hr.mono (by omega)) (by rfl) (pa_cons (pv 4) (pa_cons (pv 5) (pa_cons (pv 6) pa_nil)))) pa_nil))))) (pss_one (ps_ret pe_bl)) pss_nil)
      (pss_cons (ps_if (PW.pt (pw_or (pt_cmpR op_ne (pe_callC C_cost (hr.mono (by omega)) (by rfl) (pa_cons (pv 4) (pa_cons (pv 5) (pa_cons (pv 6) (pa_cons (pv 8) pa_nil))))) (pv 7) (nomark _)) (pw_or1 (pt_cmpR op_ne (pe_callC C_law_cost (hr.mono (by omega)) (by rfl) (pa_cons (pv 4) (pa_cons (pv 5) (pa_cons (pv 6) (pa_cons (pv 8) pa_nil))))) (pv 7) (nomark _))))) (pss_one (ps_ret pe_bl)) pss_nil)
      (pss_cons (ps_for PassesOwn.never rfl (pi_range1 (by rfl) T.n_range (pa_cons pe_int pa_nil)) (pg_name (i := 3) nd rfl (Or.inl rfl)) (pss_cons (ps_set (i := 9) nd rfl (Or.inr rfl) (pe_lsRng2 (by rfl) (by rfl) T.n_list (by rfl) T.n_range (pa_cons pe_int (pa_cons (pe_callB (kLen K) (by rfl) T.n_len (by decide +kernel) (pa_cons (pv 4) pa_nil)) pa_nil))))
      (pss_cons (ps_set (i := 10) nd rfl (Or.inl rfl) (pe_callB (kSortedSet P w rfl) (by rfl) T.n_sorted (by decide +kernel) (pa_cons (pe_callTy (kSetOf P w K rfl) (by rfl) T.n_set (by decide +kernel) (pa_cons (pe_op op_cat (pv 8) (pe_lc rfl nd (kPiL K (pv 9)) (blkOk_by (own := [("_law_place", 12)]) (by show blkC ["_law_script", "_law_d", "_law_turn", "_law_again", "_law_weights", "_law_falls", "_law_price", "_law_least_here", "_law_marks", "_law_places", "_law_other", "_law_told", "_law_place"] (defScope s_law) _ _ = true; decide +kernel)) (fun _ _ _ _ _ => (pg_name (i := 12) nd rfl (Or.inl rfl))) (fun _ _ _ _ _ => (pts_one (pt_cmpR op_eq (pe_callC C_law_next (hr.mono (by omega)) (by rfl) (pa_cons (pv 1) (pa_cons pe_int pa_nil))) pe_int (nomark _)))) (fun _ _ _ _ _ => (pv 12)))) pa_nil)) pa_nil)))
      (pss_cons (ps_setLc (i := 10) rfl nd rfl rfl (sw_true rfl rfl rfl rfl) (kPiL K (pv 10)) (blkOk_by (own := [("_law_place", 12)]) (by show blkC ["_law_script", "_law_d", "_law_turn", "_law_again", "_law_weights", "_law_falls", "_law_price", "_law_least_here", "_law_marks", "_law_places", "_law_other", "_law_told", "_law_place"] (defScope s_law) _ _ = true; decide +kernel)) (fun _ _ _ _ _ => (pg_name (i := 12) nd rfl (Or.inl rfl))) (fun _ _ _ _ _ => (pts_one (pt_cmpR op_gt (pe_callC C_law_next (hr.mono (by omega)) (by rfl) (pa_cons (pv 1) (pa_cons pe_int pa_nil))) pe_int (nomark _)))) (fun _ _ _ _ _ => (pv 12)))
      (pss_cons (ps_if (pt_cmpR op_eq (pe_callC C_law_next (hr.mono (by omega)) (by rfl) (pa_cons (pv 1) (pa_cons pe_int pa_nil))) pe_int (nomark _)) (pss_one (ps_setLc (i := 10) rfl nd rfl rfl (sw_true rfl rfl rfl rfl) (kPiL K (pv 9)) (blkOk_by (own := [("_law_place", 12)]) (by show blkC ["_law_script", "_law_d", "_law_turn", "_law_again", "_law_weights", "_law_falls", "_law_price", "_law_least_here", "_law_marks", "_law_places", "_law_other", "_law_told", "_law_place"] (defScope s_law) _ _ = true; decide +kernel)) (fun _ _ _ _ _ => (pg_name (i := 12) nd rfl (Or.inl rfl))) (fun _ _ _ _ _ => (pts_one (pt_cmpR op_eq (pe_callC C_law_next (hr.mono (by omega)) (by rfl) (pa_cons (pv 1) (pa_cons (pe_op op_add pe_int (pe_op op_fdiv (pe_callB (kLen K) (by rfl) T.n_len (by decide +kernel) (pa_cons (pv 9) pa_nil)) pe_int)) pa_nil))) pe_int (nomark _)))) (fun _ _ _ _ _ => (pv 12)))) pss_nil)
      (pss_cons (ps_set (i := 11) nd rfl (Or.inl rfl) (pe_callC C_cost (hr.mono (by omega)) (by rfl) (pa_cons (pv 4) (pa_cons (pv 5) (pa_cons (pv 6) (pa_cons (pv 10) pa_nil))))))
      (pss_one (ps_if (PW.pt (pw_or (pt_cmpR op_ne (pv 11) (pe_callC C_law_cost (hr.mono (by omega)) (by rfl) (pa_cons (pv 4) (pa_cons (pv 5) (pa_cons (pv 6) (pa_cons (pv 10) pa_nil))))) (nomark _)) (pw_or1 (pt_cmpR (op_ltP hr.units) (pe_tup (pa_cons (pv 11) (pa_cons (pv 10) pa_nil))) (pe_tup (pa_cons (pv 7) (pa_cons (pv 8) pa_nil))) (nomark _))))) (pss_one (ps_ret pe_bl)) pss_nil))))))))
      (pss_cons (ps_if (PW.pt (pw_and (pt_cmpR (op_neNil hu) (pv 5) (pe_lst pa_nil) (nomark _)) (pw_and1 (pt_cmpR op_gt (pe_ix (kIxT K) (pe_callC C_best (hr.mono (by omega)) (by rfl) (pa_cons (pv 4) (pa_cons (pe_slice (kSlL K) (pv 5) (po_some pe_int) po_none) (pa_cons (pv 6) pa_nil)))) pe_int (fun _ _ => rfl)) (pv 7) (nomark _))))) (pss_one (ps_ret pe_bl)) pss_nil)
      (pss_one (ps_if (PW.pt (pw_and (pt_cmpR op_gt (pv 6) pe_int (nomark _)) (pw_and1 (pt_cmpR op_gt (pe_ix (kIxT K) (pe_callC C_best (hr.mono (by omega)) (by rfl) (pa_cons (pv 4) (pa_cons (pv 5) (pa_cons (pe_op op_sub (pv 6) pe_int) pa_nil)))) pe_int (fun _ _ => rfl)) (pv 7) (nomark _))))) (pss_one (ps_ret pe_bl)) pss_nil)))))))))
      (pss_one (ps_ret pe_bl)))), ?_⟩
  with_reducible refine go_seq (go_asg (go_callC (go_cons (go_var rfl ?_))))
  with_reducible refine go_nil ?_
  refine ⟨a, ns, rfl, hS, hl, fun d H1 s1 D1 => ?_⟩
  with_reducible refine go_gname (go_seq (go_for (go_rng1 (go_cons ?_))))
  with_reducible refine go_c (go_nil (go_qrng1 (by omega) (by omega) ?_))
  refine fq_range (fun i σ H' => ∃ v2 v3 v4 v5 v6 v7 v8 v9 v10 v11 v12, σ = [some (.ref a), some (.ref d), v2, v3, v4, v5, v6, v7, v8, v9, v10, v11, v12] ∧ Dice K H' d) ⟨none, none, none, none, none, none, none, none, none, none, none, rfl, D1⟩ ?_ ?_
  · clear s1 hS hl D1 k
    rintro i σ H' hi ⟨v2, v3, v4, v5, v6, v7, v8, v9, v10, v11, v12, rfl, D⟩
    with_reducible refine go_gname (go_seq (go_asg (go_callC (go_cons ?_))))
    with_reducible refine go_var rfl (go_cons (go_c (go_nil ?_)))
    refine ⟨d, 60, rfl, D, by omega, by omega, fun r wa fa H2 W F p o2 D2 hr2 hw2 hf2 fw ff nwf hlW pl => ?_⟩
    have nw : wa ≠ d := D.nef fw
    have nf : fa ≠ d := D.nef ff
    clear D o2 fw ff nwf
    (with_reducible refine' go_gtup ?hp ?ha ?_); (case hp => walk_at "lw_hp"); (case ha => first | rfl | assumption)
    with_reducible refine go_gcons (go_gname (go_gcons (go_gname (go_gcons ?_))))
    with_reducible refine go_gname (go_gnil (go_seq (go_asg (go_callC ?_))))
    with_reducible refine go_cons (go_var rfl (go_cons (go_var rfl (go_cons ?_))))
    with_reducible refine go_var rfl (go_nil ?_)
    refine ⟨wa, fa, W, F, p, rfl, hw2, hf2, by omega, pl.w, pl.l, pl.f, pl.s, pl.p0, pl.p1, fun r3 H3 x S3 hx ox => ?_⟩
    obtain ⟨ml, x1, x2, x3⟩ := hx
    have nm : ml ≠ d := D2.nef x3
    have D3 := D2.same S3
    have hw3 := S3 _ _ hw2
    have hf3 := S3 _ _ hf2
    have hxl := ox.adm.len
    clear S3 hr2 hw2 hf2 D2 x3
    (with_reducible refine' go_gtup ?hp ?ha ?_); (case hp => walk_at "lw_hp"); (case ha => first | rfl | assumption)
    with_reducible refine go_gcons (go_gname (go_gcons (go_gname (go_gnil ?_))))
    with_reducible refine go_seq (go_ifS (go_not (go_testB (go_callC ?_))))
    with_reducible refine go_cons (go_tup (go_cons (go_var rfl (go_cons ?_))))
    with_reducible refine go_var rfl (go_nil ?_)
    refine go_qtup (Nat.le_of_ble_eq_true rfl) (fun t4 ht4 => ?_)
    have S4 := same_new ht4 (.tup [.int x.1, .ref ml])
    have e4 : upd H3 t4 (.tup [.int x.1, .ref ml]) t4 = some (.tup [.int x.1, .ref ml]) := upd_same
    have D4 := D3.same S4
    have hw4 := S4 _ _ hw3
    have hf4 := S4 _ _ hf3
    have m4 := S4 _ _ x2
    clear S4 ht4 hw3 hf3 D3 x1 x2
    generalize upd H3 t4 (.tup [.int x.1, .ref ml]) = H4 at *
    with_reducible refine go_cons (go_callC (go_cons (go_var rfl (go_cons ?_))))
    with_reducible refine go_var rfl (go_cons (go_var rfl (go_nil ?_)))
    refine ⟨wa, fa, W, F, p, rfl, hw4, hf4, by omega, pl.l, pl.f, fun r5 H5 S5 hx5 => ?_⟩
    obtain ⟨l5, y1, y2, _⟩ := hx5
    rw [(OO_is W F p 0).uniq ox] at y1 y2
    have e5 := S5 _ _ e4
    have m5 := S5 _ _ m4
    have D5 := D4.same S5
    have hw5 := S5 _ _ hw4
    have hf5 := S5 _ _ hf4
    with_reducible refine go_nil ?_
    refine ⟨.ref t4, .ref r5, rfl, like_pair e5 y1 m5 y2 (by omega), ?_⟩
    clear S5 e4 m4 D4 hw4 hf4 e5 y1 y2
    with_reducible refine go_qb (go_iteNt (go_next (go_seq (go_ifS ?_))))
    with_reducible refine go_or (go_test (go_op (go_callC (go_cons ?_))))
    with_reducible refine go_var rfl (go_cons (go_var rfl (go_cons (go_var rfl ?_))))
    with_reducible refine go_cons (go_var rfl (go_nil ?_))
    refine ⟨wa, fa, ml, W, F, x.2, p, rfl, hw5, hf5, m5, by omega, pl.w, pl.l, pl.f, pl.s, ox.adm, pl.p0, pl.p1, fun H6 S6 => ?_⟩
    rw [← ox.val]
    have m6 := S6 _ _ m5
    have D6 := D5.same S6
    have hw6 := S6 _ _ hw5
    have hf6 := S6 _ _ hf5
    clear S6 m5 D5 hw5 hf5
    with_reducible refine go_var rfl (go_neI (go_qb (go_iteNT (by first | assumption | rfl | omega | (simp only [List.length_cons, List.length_nil, List.length_map]; omega)) (go_test ?_))))
    with_reducible refine go_op (go_callC (go_cons (go_var rfl (go_cons ?_))))
    with_reducible refine go_var rfl (go_cons (go_var rfl (go_cons (go_var rfl ?_))))
    with_reducible refine go_nil ?_
    refine ⟨wa, fa, ml, W, F, x.2, p, rfl, hw6, hf6, m6, by omega, pl.l, pl.f, ox.adm, pl.p0, pl.p1, fun H7 S7 => ?_⟩
    rw [cost_eq pl.f ox.adm, ← ox.val]
    have m7 := S7 _ _ m6
    have D7 := D6.same S7
    have hw7 := S7 _ _ hw6
    have hf7 := S7 _ _ hf6
    clear S7 m6 D6 hw6 hf6
    with_reducible refine go_var rfl (go_neI (go_qb (go_iteNT (by first | assumption | rfl | omega | (simp only [List.length_cons, List.length_nil, List.length_map]; omega)) (go_next ?_))))
    with_reducible refine go_seq (go_for (go_rng1 (go_cons (go_c ?_))))
    with_reducible refine go_nil (go_qrng1 (by omega) (by omega) ?_)
    have hpl : (W.length : Int) ≤ 60 := by omega
    refine fq_range (fun j σ H' => ∃ v3 v9 v10 v11 v12, σ = [some (.ref a), some (.ref d), some (.int (0 + i)), v3, some (.ref wa), some (.ref fa), some (.int p), some (.int x.1), some (.ref ml), v9, v10, v11, v12] ∧ Dice K H' d ∧ Off d H7 H') ⟨_, _, _, _, _, rfl, D7, Off.refl _ _⟩ ?_ ?_
    · rintro j σ H8 hj ⟨v3, v9, v10, v11, v12, rfl, D8, o8⟩
      have hw8 := o8 _ _ hw7 nw
      with_reducible refine go_gname (go_seq (go_asg (go_lr2 (go_cons ?_))))
      with_reducible refine go_c (go_cons (go_cb (go_cons (go_var rfl ?_))))
      with_reducible refine go_nil ?_
      (with_reducible refine' go_lenL ?hp ?_); (case hp => walk_at "lw_hp")
      with_reducible refine go_nil ?_
      simp only [List.length_map]
      refine ⟨1, W.length, rfl, by omega, by omega, by omega, by omega, by omega, fun pa hpa => ?_⟩
      have S9 := same_new hpa (.lst ((rgFrom 1 ((W.length : Int) - 1).toNat).map V.int))
      have e9 : upd H8 pa (.lst ((rgFrom 1 ((W.length : Int) - 1).toNat).map V.int)) pa = some (.lst ((rgFrom 1 ((W.length : Int) - 1).toNat).map V.int)) := upd_same
      have D9 := D8.same S9
      have O9 := o8.trans S9.off
      have npa : pa ≠ d := D8.nef hpa
      clear S9 hpa D8 o8 hw8
      have lrg : (rgFrom 1 ((W.length : Int) - 1).toNat).length ≤ 59 := by rw [rg_len]; omega
      have rgm : ∀ z ∈ rgFrom 1 ((W.length : Int) - 1).toNat, 0 < z ∧ z < (W.length : Int) := fun z hz => by have := mem_rg hz; omega
      have rgw : (rgFrom 1 ((W.length : Int) - 1).toNat).Pairwise (· < ·) := rg_pw
      have rgi : ∀ z : Int, 0 < z → z < (W.length : Int) → z ∈ rgFrom 1 ((W.length : Int) - 1).toNat := fun z h1 h2 => rg_mem (by omega) (by omega)
      generalize upd H8 pa (.lst ((rgFrom 1 ((W.length : Int) - 1).toNat).map V.int)) = H9 at *
      generalize rgFrom 1 ((W.length : Int) - 1).toNat = pls at *
      with_reducible refine go_gname (go_seq (go_asg (go_cb (go_cons ?_))))
      with_reducible refine go_cb (go_cons (go_op (go_var rfl (go_lc ?_))))
      with_reducible refine go_iL (go_var rfl ?_)
      (with_reducible refine' go_qiL ?hp ?_); (case hp => walk_at "lw_hp")
      refine lq_list (pls.map V.int) (fun L hL => ?_)
      refine ⟨fun t H' => ∃ qs : List Int, H' L = some (.lst (qs.map V.int)) ∧ Dice K H' d ∧ Off d H9 H' ∧ qs.Sublist (pls.take t), ⟨[], upd_same, D9.same (same_new hL _), (same_new hL _).off, List.nil_sublist _⟩, ?_, ?_, ?_⟩
      · rintro t H' _ ⟨qs, _, _, o, _⟩
        exact SqL.of (o _ _ e9 npa)
      · rintro t y H' hy ⟨qs, hq, Dq, oq, sq⟩
        obtain ⟨z, rfl, hz⟩ := int_of hy
        have lq := sq.length_le
        rw [List.length_take] at lq
        have nL : L ≠ d := D9.nef hL
        refine go_gname ⟨rfl, ?_⟩
        with_reducible refine go_test (go_op (go_callC (go_cons (go_var rfl ?_))))
        with_reducible refine go_cons (go_c (go_nil ?_))
        refine nx_go Dq (by omega) (by omega) (fun r H10 r0 r1 D10 o10 => ?_)
        have hq10 := o10 _ _ hq nL
        with_reducible refine go_c (go_eqI (go_qb ?_))
        refine go_iteD (fun c => ?_) (fun c => ?_)
        · with_reducible refine go_var rfl ?_
          refine go_lcA hq10 (small_line (by rw [List.length_map]; omega)) ?_
          exact ⟨qs ++ [z], by rw [upd_same, List.map_append]; rfl, D10.updL hq10 nL.symm, off_upd (oq.trans o10) hL, by rw [take_snoc hz]; exact sub_snoc sq⟩
        · skip
          exact ⟨qs, hq10, D10, oq.trans o10, by rw [take_snoc hz]; exact sub_keep sq⟩
      rintro H10 ⟨qs, hq, D10, o10, sq⟩
      rw [show (pls.map V.int).length = pls.length from List.length_map _, List.take_length] at sq
      have lqs := sq.length_le
      have O10 := O9.trans o10
      have m10 := O10 _ _ m7 nm
      have e10 := o10 _ _ e9 npa
      clear o10 O9 e9 D9
      skip
      refine go_cat m10 hq (small_le (by rw [List.length_map, List.length_map]; omega)) (fun ca hca => ?_)
      have S11 := same_new hca (.lst (x.2.map V.int ++ qs.map V.int))
      have e11 : upd H10 ca (.lst (x.2.map V.int ++ qs.map V.int)) ca = some (.lst ((x.2 ++ qs).map V.int)) := by rw [upd_same, List.map_append]
      have D11 := D10.same S11
      have O11 := O10.trans S11.off
      have p11 := S11 _ _ e10
      clear S11 hca D10 O10 e10 m10 hq
      generalize upd H10 ca (.lst (x.2.map V.int ++ qs.map V.int)) = H11 at *
      with_reducible refine go_nil ?_
      refine go_setOf e11 (by rw [List.length_append]; omega) (fun ds sa nds mds hsa => ?_)
      have mem_ds : ∀ z ∈ ds, 0 < z ∧ z < (W.length : Int) := fun z hz => by
        rcases List.mem_append.mp ((mds z).mp hz) with h1 | h1
        · have := ox.adm.2 z h1; omega
        · exact rgm z (sq.subset h1)
      have lds : ds.length ≤ 59 := Nat.le_trans (nodup_le nds (fun z hz => rgi z (mem_ds z hz).1 (mem_ds z hz).2)) lrg
      have S12 := same_new hsa (SetO P w sa ds)
      have e12 : upd H11 sa (SetO P w sa ds) sa = some (SetO P w sa ds) := upd_same
      have D12 := D11.same S12
      have O12 := O11.trans S12.off
      have p12 := S12 _ _ p11
      clear S12 hsa D11 O11 p11 e11
      generalize upd H11 sa (SetO P w sa ds) = H12 at *
      with_reducible refine go_nil ?_
      refine go_sortedSet e12 nds (by omega) (fun so sl psl msl hsl => ?_)
      have mem_so : ∀ z ∈ so, 0 < z ∧ z < (W.length : Int) := fun z hz => mem_ds z ((msl z).mp hz)
      have S13 := same_new hsl (.lst (so.map V.int))
      have e13 : upd H12 sl (.lst (so.map V.int)) sl = some (.lst (so.map V.int)) := upd_same
      have D13 := D12.same S13
      have O13 := O12.trans S13.off
      have p13 := S13 _ _ p12
      have nsl : sl ≠ d := D12.nef hsl
      have lso : so.length ≤ 59 := Nat.le_trans (nodup_le (psl.imp fun h => by omega) (fun z hz => rgi z (mem_so z hz).1 (mem_so z hz).2)) lrg
      clear S13 hsl D12 O12 p12 e12 mds nds mem_ds lds msl ds
      generalize upd H12 sl (.lst (so.map V.int)) = H13 at *
      with_reducible refine go_gname (go_seq (go_asg (go_lc (go_iL ?_))))
      with_reducible refine go_var rfl ?_
      (with_reducible refine' go_qiL ?hp ?_); (case hp => walk_at "lw_hp")
      refine lq_list (so.map V.int) (fun L2 hL2 => ?_)
      refine ⟨fun t H' => ∃ qs : List Int, H' L2 = some (.lst (qs.map V.int)) ∧ Dice K H' d ∧ Off d H13 H' ∧ qs.Sublist (so.take t), ⟨[], upd_same, D13.same (same_new hL2 _), (same_new hL2 _).off, List.nil_sublist _⟩, ?_, ?_, ?_⟩
      · rintro t H' _ ⟨qs, _, _, o, _⟩
        exact SqL.of (o _ _ e13 nsl)
      · rintro t y H' hy ⟨qs, hq, Dq, oq, sq⟩
        obtain ⟨z, rfl, hz⟩ := int_of hy
        have lq := sq.length_le
        rw [List.length_take] at lq
        have nL : L2 ≠ d := D13.nef hL2
        refine go_gname ⟨rfl, ?_⟩
        with_reducible refine go_test (go_op (go_callC (go_cons (go_var rfl ?_))))
        with_reducible refine go_cons (go_c (go_nil ?_))
        refine nx_go Dq (by omega) (by omega) (fun r H10 r0 r1 D10 o10 => ?_)
        have hq10 := o10 _ _ hq nL
        with_reducible refine go_c (go_i0 (go_qb ?_))
        refine go_iteD (fun c => ?_) (fun c => ?_)
        · with_reducible refine go_var rfl ?_
          refine go_lcA hq10 (small_line (by rw [List.length_map]; omega)) ?_
          exact ⟨qs ++ [z], by rw [upd_same, List.map_append]; rfl, D10.updL hq10 nL.symm, off_upd (oq.trans o10) hL2, by rw [take_snoc hz]; exact sub_snoc sq⟩
        · skip
          exact ⟨qs, hq10, D10, oq.trans o10, by rw [take_snoc hz]; exact sub_keep sq⟩
      rintro H14 ⟨os, ho14, D14, o14, so14⟩
      rw [show (so.map V.int).length = so.length from List.length_map _, List.take_length] at so14
      have nL2 : L2 ≠ d := D13.nef hL2
      have ad14 : Adm 0 W.length os := ⟨psl.sublist so14, fun z hz => mem_so z (so14.subset hz)⟩
      have O14 := O13.trans o14
      have p14 := o14 _ _ p13 npa
      clear o14 O13 D13 e13 p13 so14 hL2
      refine go_gname ?_
      refine go_seq ?_
      refine go_join (fun σ' H' => ∃ (oa : Addr) (os : List Int) (v12 : Option V), σ' = [some (.ref a), some (.ref d), some (.int (0 + i)), some (.int (0 + j)), some (.ref wa), some (.ref fa), some (.int p), some (.int x.1), some (.ref ml), some (.ref pa), some (.ref oa), v11, v12] ∧ Dice K H' d ∧ Off d H7 H' ∧ H' oa = some (.lst (os.map V.int)) ∧ Adm 0 W.length os) ?_ (fun nx hn => ?_)
      · clear p14 O14 D14 ad14 ho14 nL2 lso mem_so sq lqs qs os psl
        rintro _ H15 ⟨oa, os, v12, rfl, D15, O15, e15, ad15⟩
        have los := ad15.len
        have hw15 := O15 _ _ hw7 nw
        have hf15 := O15 _ _ hf7 nf
        have m15 := O15 _ _ m7 nm
        with_reducible refine go_seq (go_asg (go_callC (go_cons (go_var rfl ?_))))
        with_reducible refine go_cons (go_var rfl (go_cons (go_var rfl (go_cons ?_))))
        with_reducible refine go_var rfl (go_nil ?_)
        refine ⟨wa, fa, oa, W, F, os, p, rfl, hw15, hf15, e15, by omega, pl.w, pl.l, pl.f, pl.s, ad15, pl.p0, pl.p1, fun H16 S16 => ?_⟩
        with_reducible refine go_gname (go_ifS (go_or (go_test (go_op ?_))))
        with_reducible refine go_var rfl (go_callC (go_cons (go_var rfl (go_cons ?_))))
        with_reducible refine go_var rfl (go_cons (go_var rfl (go_cons (go_var rfl ?_))))
        with_reducible refine go_nil ?_
        refine ⟨wa, fa, oa, W, F, os, p, rfl, S16 _ _ hw15, S16 _ _ hf15, S16 _ _ e15, by omega, pl.l, pl.f, ad15, pl.p0, pl.p1, fun H17 S17 => ?_⟩
        rw [cost_eq pl.f ad15]
        have S7 := S16.trans S17
        have e17 := S7 _ _ e15
        have m17 := S7 _ _ m15
        have D17 := D15.same S7
        have O17 := O15.trans S7.off
        clear S7 S16 S17 D15 O15 e15 m15 hw15 hf15
        with_reducible refine go_neI (go_qb (go_iteNT (by first | assumption | rfl | omega | (simp only [List.length_cons, List.length_nil, List.length_map]; omega)) (go_test (go_op ?_))))
        with_reducible refine go_tup (go_cons (go_var rfl (go_cons (go_var rfl ?_))))
        with_reducible refine go_nil ?_
        refine go_qtup (Nat.le_of_ble_eq_true rfl) (fun t1 ht1 => ?_)
        have S18 := same_new ht1 (.tup [.int (Cm W F p 0 os), .ref oa])
        have g18 : upd H17 t1 (.tup [.int (Cm W F p 0 os), .ref oa]) t1 = some (.tup [.int (Cm W F p 0 os), .ref oa]) := upd_same
        have e18 := S18 _ _ e17
        have m18 := S18 _ _ m17
        have D18 := D17.same S18
        have O18 := O17.trans S18.off
        clear S18 ht1 D17 O17 e17 m17
        generalize upd H17 t1 (.tup [.int (Cm W F p 0 os), .ref oa]) = H18 at *
        with_reducible refine go_tup (go_cons (go_var rfl (go_cons (go_var rfl ?_))))
        with_reducible refine go_nil ?_
        refine go_qtup (Nat.le_of_ble_eq_true rfl) (fun t2 ht2 => ?_)
        have S19 := same_new ht2 (.tup [.int x.1, .ref ml])
        refine ⟨t1, t2, (Cm W F p 0 os, os), x, rfl, rfl, ⟨oa, S19 _ _ g18, S19 _ _ e18⟩, ⟨ml, upd_same, S19 _ _ m18⟩, ?_⟩
        rw [pr_eq, ox.low os ad15]
        with_reducible refine go_qb (go_iteF (go_next ?_))
        exact ⟨_, _, _, _, _, rfl, D18.same S19, O18.trans S19.off⟩
      · have hp2 : (pls.map V.int).length = pls.length := List.length_map _
        with_reducible refine go_ifS (go_test (go_op (go_callC (go_cons ?_))))
        with_reducible refine go_var rfl (go_cons (go_c (go_nil ?_)))
        refine nx_go D14 (by omega) (by omega) (fun r H15 r0 r1 D15 o15 => ?_)
        have O15 := O14.trans o15
        have p15 := o15 _ _ p14 npa
        have ho15 := o15 _ _ ho14 nL2
        clear O14 o15 p14 ho14 D14
        with_reducible refine go_c (go_eqI (go_qb ?_))
        refine go_iteD (fun c4 => ?_) (fun c4 => ?_)
        · with_reducible refine go_asg (go_lc (go_iL (go_var rfl ?_)))
          (with_reducible refine' go_qiL ?hp ?_); (case hp => walk_at "lw_hp")
          refine lq_list (pls.map V.int) (fun L3 hL3 => ?_)
          refine ⟨fun t H' => ∃ qs : List Int, H' L3 = some (.lst (qs.map V.int)) ∧ Dice K H' d ∧ Off d H15 H' ∧ qs.Sublist (pls.take t), ⟨[], upd_same, D15.same (same_new hL3 _), (same_new hL3 _).off, List.nil_sublist _⟩, ?_, ?_, ?_⟩
          · rintro t H' _ ⟨qs, _, _, o, _⟩
            exact SqL.of (o _ _ p15 npa)
          · rintro t y H' hy ⟨qs, hq, Dq, oq, sq⟩
            obtain ⟨z, rfl, hz⟩ := int_of hy
            have lq := sq.length_le
            rw [List.length_take] at lq
            have nL : L3 ≠ d := D15.nef hL3
            have pq := oq _ _ p15 npa
            refine go_gname ⟨rfl, ?_⟩
            with_reducible refine go_test (go_op (go_callC (go_cons (go_var rfl ?_))))
            with_reducible refine go_cons (go_op (go_c (go_op (go_cb ?_))))
            with_reducible refine go_cons (go_var rfl (go_nil ?_))
            (with_reducible refine' go_lenL ?hp ?_); (case hp => walk_at "lw_hp")
            with_reducible refine go_c ?_
            (with_reducible refine' go_i ?cc ?_); (case cc => first | omega | (simp only [CDiv, CMul, CPow]; omega) | (simp only [CDiv, CMul, CPow]; decide))
            with_reducible refine go_i0 (go_nil ?_)
            refine nx_go Dq (by omega) (by omega) (fun r H16 r0 r1 D16 o16 => ?_)
            have hq16 := o16 _ _ hq nL
            with_reducible refine go_c (go_eqI (go_qb ?_))
            refine go_iteD (fun c => ?_) (fun c => ?_)
            · with_reducible refine go_var rfl ?_
              refine go_lcA hq16 (small_line (by rw [List.length_map]; omega)) ?_
              exact ⟨qs ++ [z], by rw [upd_same, List.map_append]; rfl, D16.updL hq16 nL.symm, off_upd (oq.trans o16) hL3, by rw [take_snoc hz]; exact sub_snoc sq⟩
            · skip
              exact ⟨qs, hq16, D16, oq.trans o16, by rw [take_snoc hz]; exact sub_keep sq⟩
          rintro H16 ⟨qs3, hq3, D16, o16, sq3⟩
          rw [show (pls.map V.int).length = pls.length from List.length_map _, List.take_length] at sq3
          refine go_gname ?_
          exact hn _ _ ⟨L3, qs3, _, rfl, D16, O15.trans o16, hq3, rgw.sublist sq3, fun z hz => rgm z (sq3.subset hz)⟩
        · with_reducible refine go_next ?_
          exact hn _ _ ⟨L2, os, _, rfl, D15, O15, ho15, ad14⟩
    · rintro σ H8 ⟨v3, v9, v10, v11, v12, rfl, D8, o8⟩
      have wnn : ∀ z ∈ W, 0 ≤ z := fun z hz => by have := pl.w z hz; omega
      refine go_seq ?_
      refine go_join (fun σ' H' => σ' = [some (.ref a), some (.ref d), some (.int (0 + i)), v3, some (.ref wa), some (.ref fa), some (.int p), some (.int x.1), some (.ref ml), v9, v10, v11, v12] ∧ Dice K H' d ∧ Off d H7 H') ?_ (fun nx hn => ?_)
      · clear D8 o8
        rintro _ H9 ⟨rfl, D9, o9⟩
        have hw9 := o9 _ _ hw7 nw
        have hf9 := o9 _ _ hf7 nf
        with_reducible refine go_ifS (go_and (go_test (go_op (go_var rfl ?_))))
        with_reducible refine go_c (go_i0 (go_qb ?_))
        refine go_iteD (fun c => ?_) (fun c => ?_)
        · with_reducible refine go_test (go_op (go_op (go_callC (go_cons ?_))))
          with_reducible refine go_var rfl (go_cons (go_var rfl (go_cons (go_op ?_))))
          with_reducible refine go_var rfl (go_c (go_i0 (go_nil ?_)))
          refine ⟨wa, fa, W, F, p - 1, rfl, hw9, hf9, by omega, pl.w, pl.l, pl.f, pl.s, by omega, by have := pl.p1; omega, fun r H10 y S10 hy oy => ?_⟩
          obtain ⟨l, y1, y2, _⟩ := hy
          have := opt_price ox oy
          with_reducible refine go_c ?_
          (with_reducible refine' go_ixT ?hp ?ha ?_); (case hp => walk_at "lw_hp"); (case ha => first | rfl | assumption)
          with_reducible refine go_var rfl (go_i0 (go_qb (go_iteDF (by first | assumption | omega | decide | decide +kernel | (simp only [List.length_cons, List.length_nil, List.length_map]; omega)) (go_next ?_))))
          exact ⟨_, _, _, _, _, _, _, _, _, _, _, rfl, D9.same S10⟩
        · with_reducible refine go_iteF (go_next ?_)
          exact ⟨_, _, _, _, _, _, _, _, _, _, _, rfl, D9⟩
      · have hw8 := o8 _ _ hw7 nw
        have hf8 := o8 _ _ hf7 nf
        with_reducible refine go_ifS (go_and (go_test (go_op (go_var rfl ?_))))
        with_reducible refine go_lst (go_nil ?_)
        refine go_qlst (Nat.le_of_ble_eq_true rfl) (fun nl hnl => ?_)
        have S9 := same_new hnl (.lst [])
        have e9 : upd H8 nl (.lst []) nl = some (.lst []) := upd_same
        have D9 := D8.same S9
        have o9 := o8.trans S9.off
        have hw9 := S9 _ _ hw8
        have hf9 := S9 _ _ hf8
        clear S9 hnl D8 o8 hw8 hf8
        generalize upd H8 nl (.lst []) = H9 at *
        by_cases cF : F = []
        · have hf' : H9 fa = some (.lst []) := by rw [hf9, cF]; rfl
          refine go_neNilE hf' e9 ?_
          with_reducible refine go_qb (go_iteF (go_iteF (go_next ?_)))
          exact hn _ _ ⟨rfl, D9, o9⟩
        · obtain ⟨f0, F0, hF⟩ := List.exists_cons_of_ne_nil cF
          have hf' : H9 fa = some (.lst (V.int f0 :: F0.map V.int)) := by rw [hf9, hF]; rfl
          refine go_neNilC hf' e9 ?_
          clear hf'
          have ecut : cutV (F.map V.int) (some 1) none = (F.drop 1).map V.int := by rw [cut_from (by decide), List.map_drop]; rfl
          with_reducible refine go_qb (go_iteT (go_test (go_op (go_op ?_))))
          with_reducible refine go_callC (go_cons (go_var rfl (go_cons (go_sl ?_))))
          with_reducible refine go_var rfl (go_part (go_c (go_qI (go_nopart ?_))))
          refine go_slL hf9 (fun ca hca => ?_)
          rw [ecut]
          have S10 := same_new hca (.lst ((F.drop 1).map V.int))
          have e10 : upd H9 ca (.lst ((F.drop 1).map V.int)) ca = some (.lst ((F.drop 1).map V.int)) := upd_same
          have D10 := D9.same S10
          have o10 := o9.trans S10.off
          have hw10 := S10 _ _ hw9
          clear S10 hca D9 o9 hw9 hf9
          generalize upd H9 ca (.lst ((F.drop 1).map V.int)) = H10 at *
          with_reducible refine go_cons (go_var rfl (go_nil ?_))
          refine ⟨wa, ca, W, F.drop 1, p, rfl, hw10, e10, by omega, pl.w, by rw [List.length_drop]; have := pl.l; omega, (fun z hz => pl.f z (List.mem_of_mem_drop hz)), pl.s.sublist (List.drop_sublist _ _), pl.p0, pl.p1, fun r H11 y S11 hy oy => ?_⟩
          obtain ⟨l, y1, y2, _⟩ := hy
          have := opt_drop wnn ox oy
          with_reducible refine go_c ?_
          (with_reducible refine' go_ixT ?hp ?ha ?_); (case hp => walk_at "lw_hp"); (case ha => first | rfl | assumption)
          with_reducible refine go_var rfl (go_i0 (go_qb (go_iteDF (by first | assumption | omega | decide | decide +kernel | (simp only [List.length_cons, List.length_nil, List.length_map]; omega)) (go_next ?_))))
          exact hn _ _ ⟨rfl, D10.same S11, o10.trans S11.off⟩
  · rintro σ H' ⟨v2, v3, v4, v5, v6, v7, v8, v9, v10, v11, v12, rfl, D⟩
    with_reducible refine go_ret (go_c ?_)
    exact k _
end
end Lw
namespace Lw
open PySem L2
section
set_option maxHeartbeats 4000000
theorem all_mk {l : PySem.W.OpenLaw} {w : World} {K : PySem.W.Frag} {h : Heap} {mg : Str → Option Value} {fa : Addr} (X : K.In h) (G : h.Ns mainGlobals mg) (hfa : mg "law" = some (.ref fa))
    {f_is_number : Addr} {od_is_number an_is_number : Option Addr} {sl_is_number : Array (Option Value)} {oc_is_number kV_is_number dc_is_number pm_is_number cd_is_number ct_is_number : Value}
    {f_check_weights : Addr} {od_check_weights an_check_weights : Option Addr} {sl_check_weights : Array (Option Value)} {oc_check_weights kV_check_weights dc_check_weights pm_check_weights cd_check_weights ct_check_weights : Value}
    {f_check_falls : Addr} {od_check_falls an_check_falls : Option Addr} {sl_check_falls : Array (Option Value)} {oc_check_falls kV_check_falls dc_check_falls pm_check_falls cd_check_falls ct_check_falls : Value}
    {f_check_price : Addr} {od_check_price an_check_price : Option Addr} {sl_check_price : Array (Option Value)} {oc_check_price kV_check_price dc_check_price pm_check_price cd_check_price ct_check_price : Value}
    {f_check_marks : Addr} {od_check_marks an_check_marks : Option Addr} {sl_check_marks : Array (Option Value)} {oc_check_marks kV_check_marks dc_check_marks pm_check_marks cd_check_marks ct_check_marks : Value}
    {f_done_again : Addr} {od_done_again an_done_again : Option Addr} {sl_done_again : Array (Option Value)} {oc_done_again kV_done_again dc_done_again pm_done_again cd_done_again ct_done_again : Value}
    {f_cost : Addr} {od_cost an_cost : Option Addr} {sl_cost : Array (Option Value)} {oc_cost kV_cost dc_cost pm_cost cd_cost ct_cost : Value}
    {f_best_behind : Addr} {od_best_behind an_best_behind : Option Addr} {sl_best_behind : Array (Option Value)} {oc_best_behind kV_best_behind dc_best_behind pm_best_behind cd_best_behind ct_best_behind : Value}
    {f_best : Addr} {od_best an_best : Option Addr} {sl_best : Array (Option Value)} {oc_best kV_best dc_best pm_best cd_best ct_best : Value}
    {f_law_dice : Addr} {od_law_dice an_law_dice : Option Addr} {sl_law_dice : Array (Option Value)} {oc_law_dice kV_law_dice dc_law_dice pm_law_dice cd_law_dice ct_law_dice : Value}
    {f_law_next : Addr} {od_law_next an_law_next : Option Addr} {sl_law_next : Array (Option Value)} {oc_law_next kV_law_next dc_law_next pm_law_next cd_law_next ct_law_next : Value}
    {f_law_like : Addr} {od_law_like an_law_like : Option Addr} {sl_law_like : Array (Option Value)} {oc_law_like kV_law_like dc_law_like pm_law_like cd_law_like ct_law_like : Value}
    {f_law_plan : Addr} {od_law_plan an_law_plan : Option Addr} {sl_law_plan : Array (Option Value)} {oc_law_plan kV_law_plan dc_law_plan pm_law_plan cd_law_plan ct_law_plan : Value}
    {f_law_cost : Addr} {od_law_cost an_law_cost : Option Addr} {sl_law_cost : Array (Option Value)} {oc_law_cost kV_law_cost dc_law_cost pm_law_cost cd_law_cost ct_law_cost : Value}
    {f_law_part_cost : Addr} {od_law_part_cost an_law_part_cost : Option Addr} {sl_law_part_cost : Array (Option Value)} {oc_law_part_cost kV_law_part_cost dc_law_part_cost pm_law_part_cost cd_law_part_cost ct_law_part_cost : Value}
    {f_law_least : Addr} {od_law_least an_law_least : Option Addr} {sl_law_least : Array (Option Value)} {oc_law_least kV_law_least dc_law_least pm_law_least cd_law_least ct_law_least : Value}
    {f_law : Addr} {od_law an_law : Option Addr} {sl_law : Array (Option Value)} {oc_law kV_law dc_law pm_law cd_law ct_law : Value}
    {t_MOST_STEPS : Tok}
    {t_MOST_WEIGHT : Tok}
    {t_MOST_FALLS : Tok}
    {t_MOST_PRICE : Tok}
    (a_is_number : PySem.W.nsIn K mainGlobals "is_number" = some (some (.ref f_is_number)))
    (l_is_number : K.lookup f_is_number = some ⟨oc_is_number, od_is_number, .func (PySem.W.fnOf "is_number" "is_number" (defArgs s_is_number) (defBody s_is_number) (defScope s_is_number) .none kV_is_number dc_is_number pm_is_number an_is_number cd_is_number ct_is_number), sl_is_number⟩)
    (c_is_number : PySem.W.codeIn K cd_is_number "is_number" = true)
    (k_is_number : PySem.W.keepIn K (.ref f_is_number) = true)
    (a_check_weights : PySem.W.nsIn K mainGlobals "check_weights" = some (some (.ref f_check_weights)))
    (l_check_weights : K.lookup f_check_weights = some ⟨oc_check_weights, od_check_weights, .func (PySem.W.fnOf "check_weights" "check_weights" (defArgs s_check_weights) (defBody s_check_weights) (defScope s_check_weights) .none kV_check_weights dc_check_weights pm_check_weights an_check_weights cd_check_weights ct_check_weights), sl_check_weights⟩)
    (c_check_weights : PySem.W.codeIn K cd_check_weights "check_weights" = true)
    (k_check_weights : PySem.W.keepIn K (.ref f_check_weights) = true)
    (a_check_falls : PySem.W.nsIn K mainGlobals "check_falls" = some (some (.ref f_check_falls)))
    (l_check_falls : K.lookup f_check_falls = some ⟨oc_check_falls, od_check_falls, .func (PySem.W.fnOf "check_falls" "check_falls" (defArgs s_check_falls) (defBody s_check_falls) (defScope s_check_falls) .none kV_check_falls dc_check_falls pm_check_falls an_check_falls cd_check_falls ct_check_falls), sl_check_falls⟩)
    (c_check_falls : PySem.W.codeIn K cd_check_falls "check_falls" = true)
    (k_check_falls : PySem.W.keepIn K (.ref f_check_falls) = true)
    (a_check_price : PySem.W.nsIn K mainGlobals "check_price" = some (some (.ref f_check_price)))
    (l_check_price : K.lookup f_check_price = some ⟨oc_check_price, od_check_price, .func (PySem.W.fnOf "check_price" "check_price" (defArgs s_check_price) (defBody s_check_price) (defScope s_check_price) .none kV_check_price dc_check_price pm_check_price an_check_price cd_check_price ct_check_price), sl_check_price⟩)
    (c_check_price : PySem.W.codeIn K cd_check_price "check_price" = true)
    (k_check_price : PySem.W.keepIn K (.ref f_check_price) = true)
    (a_check_marks : PySem.W.nsIn K mainGlobals "check_marks" = some (some (.ref f_check_marks)))
    (l_check_marks : K.lookup f_check_marks = some ⟨oc_check_marks, od_check_marks, .func (PySem.W.fnOf "check_marks" "check_marks" (defArgs s_check_marks) (defBody s_check_marks) (defScope s_check_marks) .none kV_check_marks dc_check_marks pm_check_marks an_check_marks cd_check_marks ct_check_marks), sl_check_marks⟩)
    (c_check_marks : PySem.W.codeIn K cd_check_marks "check_marks" = true)
    (k_check_marks : PySem.W.keepIn K (.ref f_check_marks) = true)
    (a_done_again : PySem.W.nsIn K mainGlobals "done_again" = some (some (.ref f_done_again)))
    (l_done_again : K.lookup f_done_again = some ⟨oc_done_again, od_done_again, .func (PySem.W.fnOf "done_again" "done_again" (defArgs s_done_again) (defBody s_done_again) (defScope s_done_again) .none kV_done_again dc_done_again pm_done_again an_done_again cd_done_again ct_done_again), sl_done_again⟩)
    (c_done_again : PySem.W.codeIn K cd_done_again "done_again" = true)
    (k_done_again : PySem.W.keepIn K (.ref f_done_again) = true)
    (a_cost : PySem.W.nsIn K mainGlobals "cost" = some (some (.ref f_cost)))
    (l_cost : K.lookup f_cost = some ⟨oc_cost, od_cost, .func (PySem.W.fnOf "cost" "cost" (defArgs s_cost) (defBody s_cost) (defScope s_cost) .none kV_cost dc_cost pm_cost an_cost cd_cost ct_cost), sl_cost⟩)
    (c_cost : PySem.W.codeIn K cd_cost "cost" = true)
    (k_cost : PySem.W.keepIn K (.ref f_cost) = true)
    (a_best_behind : PySem.W.nsIn K mainGlobals "best_behind" = some (some (.ref f_best_behind)))
    (l_best_behind : K.lookup f_best_behind = some ⟨oc_best_behind, od_best_behind, .func (PySem.W.fnOf "best_behind" "best_behind" (defArgs s_best_behind) (defBody s_best_behind) (defScope s_best_behind) .none kV_best_behind dc_best_behind pm_best_behind an_best_behind cd_best_behind ct_best_behind), sl_best_behind⟩)
    (c_best_behind : PySem.W.codeIn K cd_best_behind "best_behind" = true)
    (k_best_behind : PySem.W.keepIn K (.ref f_best_behind) = true)
    (a_best : PySem.W.nsIn K mainGlobals "best" = some (some (.ref f_best)))
    (l_best : K.lookup f_best = some ⟨oc_best, od_best, .func (PySem.W.fnOf "best" "best" (defArgs s_best) (defBody s_best) (defScope s_best) .none kV_best dc_best pm_best an_best cd_best ct_best), sl_best⟩)
    (c_best : PySem.W.codeIn K cd_best "best" = true)
    (k_best : PySem.W.keepIn K (.ref f_best) = true)
    (a_law_dice : PySem.W.nsIn K mainGlobals "_law_dice" = some (some (.ref f_law_dice)))
    (l_law_dice : K.lookup f_law_dice = some ⟨oc_law_dice, od_law_dice, .func (PySem.W.fnOf "_law_dice" "_law_dice" (defArgs s__law_dice) (defBody s__law_dice) (defScope s__law_dice) .none kV_law_dice dc_law_dice pm_law_dice an_law_dice cd_law_dice ct_law_dice), sl_law_dice⟩)
    (c_law_dice : PySem.W.codeIn K cd_law_dice "_law_dice" = true)
    (k_law_dice : PySem.W.keepIn K (.ref f_law_dice) = true)
    (a_law_next : PySem.W.nsIn K mainGlobals "_law_next" = some (some (.ref f_law_next)))
    (l_law_next : K.lookup f_law_next = some ⟨oc_law_next, od_law_next, .func (PySem.W.fnOf "_law_next" "_law_next" (defArgs s__law_next) (defBody s__law_next) (defScope s__law_next) .none kV_law_next dc_law_next pm_law_next an_law_next cd_law_next ct_law_next), sl_law_next⟩)
    (c_law_next : PySem.W.codeIn K cd_law_next "_law_next" = true)
    (k_law_next : PySem.W.keepIn K (.ref f_law_next) = true)
    (a_law_like : PySem.W.nsIn K mainGlobals "_law_like" = some (some (.ref f_law_like)))
    (l_law_like : K.lookup f_law_like = some ⟨oc_law_like, od_law_like, .func (PySem.W.fnOf "_law_like" "_law_like" (defArgs s__law_like) (defBody s__law_like) (defScope s__law_like) .none kV_law_like dc_law_like pm_law_like an_law_like cd_law_like ct_law_like), sl_law_like⟩)
    (c_law_like : PySem.W.codeIn K cd_law_like "_law_like" = true)
    (k_law_like : PySem.W.keepIn K (.ref f_law_like) = true)
    (a_law_plan : PySem.W.nsIn K mainGlobals "_law_plan" = some (some (.ref f_law_plan)))
    (l_law_plan : K.lookup f_law_plan = some ⟨oc_law_plan, od_law_plan, .func (PySem.W.fnOf "_law_plan" "_law_plan" (defArgs s__law_plan) (defBody s__law_plan) (defScope s__law_plan) .none kV_law_plan dc_law_plan pm_law_plan an_law_plan cd_law_plan ct_law_plan), sl_law_plan⟩)
    (c_law_plan : PySem.W.codeIn K cd_law_plan "_law_plan" = true)
    (k_law_plan : PySem.W.keepIn K (.ref f_law_plan) = true)
    (a_law_cost : PySem.W.nsIn K mainGlobals "_law_cost" = some (some (.ref f_law_cost)))
    (l_law_cost : K.lookup f_law_cost = some ⟨oc_law_cost, od_law_cost, .func (PySem.W.fnOf "_law_cost" "_law_cost" (defArgs s__law_cost) (defBody s__law_cost) (defScope s__law_cost) .none kV_law_cost dc_law_cost pm_law_cost an_law_cost cd_law_cost ct_law_cost), sl_law_cost⟩)
    (c_law_cost : PySem.W.codeIn K cd_law_cost "_law_cost" = true)
    (k_law_cost : PySem.W.keepIn K (.ref f_law_cost) = true)
    (a_law_part_cost : PySem.W.nsIn K mainGlobals "_law_part_cost" = some (some (.ref f_law_part_cost)))
    (l_law_part_cost : K.lookup f_law_part_cost = some ⟨oc_law_part_cost, od_law_part_cost, .func (PySem.W.fnOf "_law_part_cost" "_law_part_cost" (defArgs s__law_part_cost) (defBody s__law_part_cost) (defScope s__law_part_cost) .none kV_law_part_cost dc_law_part_cost pm_law_part_cost an_law_part_cost cd_law_part_cost ct_law_part_cost), sl_law_part_cost⟩)
    (c_law_part_cost : PySem.W.codeIn K cd_law_part_cost "_law_part_cost" = true)
    (k_law_part_cost : PySem.W.keepIn K (.ref f_law_part_cost) = true)
    (a_law_least : PySem.W.nsIn K mainGlobals "_law_least" = some (some (.ref f_law_least)))
    (l_law_least : K.lookup f_law_least = some ⟨oc_law_least, od_law_least, .func (PySem.W.fnOf "_law_least" "_law_least" (defArgs s__law_least) (defBody s__law_least) (defScope s__law_least) .none kV_law_least dc_law_least pm_law_least an_law_least cd_law_least ct_law_least), sl_law_least⟩)
    (c_law_least : PySem.W.codeIn K cd_law_least "_law_least" = true)
    (k_law_least : PySem.W.keepIn K (.ref f_law_least) = true)
    (a_law : PySem.W.nsIn K mainGlobals "law" = some (some (.ref f_law)))
    (l_law : K.lookup f_law = some ⟨oc_law, od_law, .func (PySem.W.fnOf "law" "law" (defArgs s_law) (defBody s_law) (defScope s_law) .none kV_law dc_law pm_law an_law cd_law ct_law), sl_law⟩)
    (c_law : PySem.W.codeIn K cd_law "law" = true)
    (k_law : PySem.W.keepIn K (.ref f_law) = true)
    (z_set : PySem.W.nsIn K mainGlobals "set" = some none)
    (z_sum : PySem.W.nsIn K mainGlobals "sum" = some none)
    (z_sorted : PySem.W.nsIn K mainGlobals "sorted" = some none)
    (z_reversed : PySem.W.nsIn K mainGlobals "reversed" = some none)
    (z_len : PySem.W.nsIn K mainGlobals "len" = some none)
    (z_range : PySem.W.nsIn K mainGlobals "range" = some none)
    (z_isinstance : PySem.W.nsIn K mainGlobals "isinstance" = some none)
    (z_int : PySem.W.nsIn K mainGlobals "int" = some none)
    (z_bool : PySem.W.nsIn K mainGlobals "bool" = some none)
    (z_str : PySem.W.nsIn K mainGlobals "str" = some none)
    (z_tuple : PySem.W.nsIn K mainGlobals "tuple" = some none)
    (z_list : PySem.W.nsIn K mainGlobals "list" = some none)
    (z_min : PySem.W.nsIn K mainGlobals "min" = some none)
    (z_max : PySem.W.nsIn K mainGlobals "max" = some none)
    (z_enumerate : PySem.W.nsIn K mainGlobals "enumerate" = some none)
    (z_zip : PySem.W.nsIn K mainGlobals "zip" = some none)
    (y_MOST_STEPS : PySem.W.nsIn K mainGlobals "MOST_STEPS" = some (some (.int 60 t_MOST_STEPS)))
    (y_MOST_WEIGHT : PySem.W.nsIn K mainGlobals "MOST_WEIGHT" = some (some (.int 99 t_MOST_WEIGHT)))
    (y_MOST_FALLS : PySem.W.nsIn K mainGlobals "MOST_FALLS" = some (some (.int 20 t_MOST_FALLS)))
    (y_MOST_PRICE : PySem.W.nsIn K mainGlobals "MOST_PRICE" = some (some (.int 999 t_MOST_PRICE)))
    : ∃ fd : FuncData, (∀ (s : Shared) (v : Value), BindsTo s fd ⟨[v], []⟩ [("_law_script", v)]) ∧ ∀ base : Heap, K.In base → base.Ns mainGlobals mg → FnOk l.prog w K mg base CX0 4 fa fd ["_law_script"] (spLaw K) := by
  have e := hfa.symm.trans (PySem.W.mg_of X G a_law)
  cases e
  have T : Txt mg := { n_set := PySem.W.mg_none_of X G z_set, n_sum := PySem.W.mg_none_of X G z_sum, n_sorted := PySem.W.mg_none_of X G z_sorted, n_reversed := PySem.W.mg_none_of X G z_reversed, n_len := PySem.W.mg_none_of X G z_len, n_range := PySem.W.mg_none_of X G z_range, n_isinstance := PySem.W.mg_none_of X G z_isinstance, n_int := PySem.W.mg_none_of X G z_int, n_bool := PySem.W.mg_none_of X G z_bool, n_str := PySem.W.mg_none_of X G z_str, n_tuple := PySem.W.mg_none_of X G z_tuple, n_list := PySem.W.mg_none_of X G z_list, n_min := PySem.W.mg_none_of X G z_min, n_max := PySem.W.mg_none_of X G z_max, n_enumerate := PySem.W.mg_none_of X G z_enumerate, n_zip := PySem.W.mg_none_of X G z_zip, g_MOST_STEPS := ⟨t_MOST_STEPS, PySem.W.mg_of X G y_MOST_STEPS⟩, g_MOST_WEIGHT := ⟨t_MOST_WEIGHT, PySem.W.mg_of X G y_MOST_WEIGHT⟩, g_MOST_FALLS := ⟨t_MOST_FALLS, PySem.W.mg_of X G y_MOST_FALLS⟩, g_MOST_PRICE := ⟨t_MOST_PRICE, PySem.W.mg_of X G y_MOST_PRICE⟩ }
  have F_is_number := fun_mk (st := s_is_number) l_is_number c_is_number k_is_number
  have b_is_number := F_is_number.binds (ps := ["thing", "low", "high"]) fun _ _ _ _ _ _ us hl => match us, hl with | [_, _, _], _ => rfl
  have m_is_number := PySem.W.mg_of X G a_is_number
  have F_check_weights := fun_mk (st := s_check_weights) l_check_weights c_check_weights k_check_weights
  have b_check_weights := F_check_weights.binds (ps := ["weights"]) fun _ _ _ _ _ _ us hl => match us, hl with | [_], _ => rfl
  have m_check_weights := PySem.W.mg_of X G a_check_weights
  have F_check_falls := fun_mk (st := s_check_falls) l_check_falls c_check_falls k_check_falls
  have b_check_falls := F_check_falls.binds (ps := ["falls", "steps"]) fun _ _ _ _ _ _ us hl => match us, hl with | [_, _], _ => rfl
  have m_check_falls := PySem.W.mg_of X G a_check_falls
  have F_check_price := fun_mk (st := s_check_price) l_check_price c_check_price k_check_price
  have b_check_price := F_check_price.binds (ps := ["price"]) fun _ _ _ _ _ _ us hl => match us, hl with | [_], _ => rfl
  have m_check_price := PySem.W.mg_of X G a_check_price
  have F_check_marks := fun_mk (st := s_check_marks) l_check_marks c_check_marks k_check_marks
  have b_check_marks := F_check_marks.binds (ps := ["marks", "steps"]) fun _ _ _ _ _ _ us hl => match us, hl with | [_, _], _ => rfl
  have m_check_marks := PySem.W.mg_of X G a_check_marks
  have F_done_again := fun_mk (st := s_done_again) l_done_again c_done_again k_done_again
  have b_done_again := F_done_again.binds (ps := ["weights", "falls", "start", "stop"]) fun _ _ _ _ _ _ us hl => match us, hl with | [_, _, _, _], _ => rfl
  have m_done_again := PySem.W.mg_of X G a_done_again
  have F_cost := fun_mk (st := s_cost) l_cost c_cost k_cost
  have b_cost := F_cost.binds (ps := ["weights", "falls", "price", "marks"]) fun _ _ _ _ _ _ us hl => match us, hl with | [_, _, _, _], _ => rfl
  have m_cost := PySem.W.mg_of X G a_cost
  have F_best_behind := fun_mk (st := s_best_behind) l_best_behind c_best_behind k_best_behind
  have b_best_behind := F_best_behind.binds (ps := ["start", "weights", "falls", "price", "behind"]) fun _ _ _ _ _ _ us hl => match us, hl with | [_, _, _, _, _], _ => rfl
  have m_best_behind := PySem.W.mg_of X G a_best_behind
  have F_best := fun_mk (st := s_best) l_best c_best k_best
  have b_best := F_best.binds (ps := ["weights", "falls", "price"]) fun _ _ _ _ _ _ us hl => match us, hl with | [_, _, _], _ => rfl
  have m_best := PySem.W.mg_of X G a_best
  have F_law_dice := fun_mk (st := s__law_dice) l_law_dice c_law_dice k_law_dice
  have b_law_dice := F_law_dice.binds (ps := ["_law_script"]) fun _ _ _ _ _ _ us hl => match us, hl with | [_], _ => rfl
  have m_law_dice := PySem.W.mg_of X G a_law_dice
  have F_law_next := fun_mk (st := s__law_next) l_law_next c_law_next k_law_next
  have b_law_next := F_law_next.binds (ps := ["_law_dice_here", "_law_many"]) fun _ _ _ _ _ _ us hl => match us, hl with | [_, _], _ => rfl
  have m_law_next := PySem.W.mg_of X G a_law_next
  have F_law_like := fun_mk (st := s__law_like) l_law_like c_law_like k_law_like
  have b_law_like := F_law_like.binds (ps := ["_law_found", "_law_due"]) fun _ _ _ _ _ _ us hl => match us, hl with | [_, _], _ => rfl
  have m_law_like := PySem.W.mg_of X G a_law_like
  have F_law_plan := fun_mk (st := s__law_plan) l_law_plan c_law_plan k_law_plan
  have b_law_plan := F_law_plan.binds (ps := ["_law_d", "_law_most"]) fun _ _ _ _ _ _ us hl => match us, hl with | [_, _], _ => rfl
  have m_law_plan := PySem.W.mg_of X G a_law_plan
  have F_law_cost := fun_mk (st := s__law_cost) l_law_cost c_law_cost k_law_cost
  have b_law_cost := F_law_cost.binds (ps := ["_law_weights", "_law_falls", "_law_price", "_law_marks"]) fun _ _ _ _ _ _ us hl => match us, hl with | [_, _, _, _], _ => rfl
  have m_law_cost := PySem.W.mg_of X G a_law_cost
  have F_law_part_cost := fun_mk (st := s__law_part_cost) l_law_part_cost c_law_part_cost k_law_part_cost
  have b_law_part_cost := F_law_part_cost.binds (ps := ["_law_weights", "_law_falls", "_law_at", "_law_end"]) fun _ _ _ _ _ _ us hl => match us, hl with | [_, _, _, _], _ => rfl
  have m_law_part_cost := PySem.W.mg_of X G a_law_part_cost
  have F_law_least := fun_mk (st := s__law_least) l_law_least c_law_least k_law_least
  have b_law_least := F_law_least.binds (ps := ["_law_weights", "_law_falls", "_law_price"]) fun _ _ _ _ _ _ us hl => match us, hl with | [_, _, _], _ => rfl
  have m_law_least := PySem.W.mg_of X G a_law_least
  have F_law := fun_mk (st := s_law) l_law c_law k_law
  refine ⟨PySem.W.fnOf "law" "law" (defArgs s_law) (defBody s_law) (defScope s_law) .none kV_law dc_law pm_law an_law cd_law ct_law, fun s v => .of_eq rfl, fun base _ _ => ?_⟩
  have C_is_number : FnC l.prog w K mg base 1 "is_number" ["thing", "low", "high"] spIsNum := ⟨f_is_number, _, ok_isnum F_is_number T, m_is_number, k_is_number, b_is_number⟩
  have C_check_weights : FnC l.prog w K mg base 2 "check_weights" ["weights"] spCkW := ⟨f_check_weights, _, ok_ckw F_check_weights T C_is_number, m_check_weights, k_check_weights, b_check_weights⟩
  have C_check_falls : FnC l.prog w K mg base 2 "check_falls" ["falls", "steps"] spCkF := ⟨f_check_falls, _, ok_ckf F_check_falls T C_is_number, m_check_falls, k_check_falls, b_check_falls⟩
  have C_check_price : FnC l.prog w K mg base 2 "check_price" ["price"] spCkP := ⟨f_check_price, _, ok_ckp F_check_price T C_is_number, m_check_price, k_check_price, b_check_price⟩
  have C_check_marks : FnC l.prog w K mg base 2 "check_marks" ["marks", "steps"] spCkM := ⟨f_check_marks, _, ok_ckm F_check_marks T C_is_number, m_check_marks, k_check_marks, b_check_marks⟩
  have C_done_again : FnC l.prog w K mg base 1 "done_again" ["weights", "falls", "start", "stop"] spAgain := ⟨f_done_again, _, ok_again F_done_again T, m_done_again, k_done_again, b_done_again⟩
  have C_cost : FnC l.prog w K mg base 3 "cost" ["weights", "falls", "price", "marks"] spPCost := ⟨f_cost, _, ok_pcost F_cost T C_check_weights C_check_falls C_check_price C_check_marks C_done_again, m_cost, k_cost, b_cost⟩
  have C_best_behind : FnC l.prog w K mg base 2 "best_behind" ["start", "weights", "falls", "price", "behind"] spBeh := ⟨f_best_behind, _, ok_beh F_best_behind T C_done_again, m_best_behind, k_best_behind, b_best_behind⟩
  have C_best : FnC l.prog w K mg base 3 "best" ["weights", "falls", "price"] spBest := ⟨f_best, _, ok_best F_best T C_check_weights C_check_falls C_check_price C_best_behind, m_best, k_best, b_best⟩
  have C_law_dice : FnC l.prog w K mg base 1 "_law_dice" ["_law_script"] (spDice K) := ⟨f_law_dice, _, ok_dice F_law_dice T, m_law_dice, k_law_dice, b_law_dice⟩
  have C_law_next : FnC l.prog w K mg base 1 "_law_next" ["_law_dice_here", "_law_many"] (spNext K) := ⟨f_law_next, _, ok_next F_law_next T, m_law_next, k_law_next, b_law_next⟩
  have C_law_like := c_like (P := l.prog) (w := w) (base := base) F_law_like b_law_like m_law_like T 3
  have C_law_plan : FnC l.prog w K mg base 2 "_law_plan" ["_law_d", "_law_most"] (spPlan K) := ⟨f_law_plan, _, ok_plan F_law_plan T C_law_next, m_law_plan, k_law_plan, b_law_plan⟩
  have C_law_cost : FnC l.prog w K mg base 1 "_law_cost" ["_law_weights", "_law_falls", "_law_price", "_law_marks"] spCost := ⟨f_law_cost, _, ok_cost F_law_cost T, m_law_cost, k_law_cost, b_law_cost⟩
  have C_law_part_cost : FnC l.prog w K mg base 1 "_law_part_cost" ["_law_weights", "_law_falls", "_law_at", "_law_end"] spAgain := ⟨f_law_part_cost, _, ok_partc F_law_part_cost T, m_law_part_cost, k_law_part_cost, b_law_part_cost⟩
  have C_law_least : FnC l.prog w K mg base 2 "_law_least" ["_law_weights", "_law_falls", "_law_price"] spLeast := ⟨f_law_least, _, ok_least F_law_least T C_law_part_cost, m_law_least, k_law_least, b_law_least⟩
  exact ok_law F_law T C_law_dice C_law_next C_law_plan C_law_cost C_best C_cost C_law_least C_law_like
end
theorem walk {l : PySem.W.OpenLaw} {q : Program} {loose : List Str} {XP : (Str → Option Value) → Heap → Prop} {YP : World → Heap → Prop} {d : DefRec} {K : Params → PySem.W.Frag} (hn : l.most = some 63) (hdf : d.params.defaults = [])
    (hY : ∀ (w : World) (h : Heap), YP w h → (K w.params).In h)
    (F : ∀ (w : World) (mg : Str → Option Value) (fa : Addr) (h : Heap), (K w.params).In h → h.Ns mainGlobals mg → mg d.name = some (.ref fa) →
      ∃ fd : FuncData, (∀ (s : Shared) (u : Value), BindsTo s fd ⟨[u], []⟩ [("_law_script", u)]) ∧ ∀ base : Heap, (K w.params).In base → base.Ns mainGlobals mg → FnOk l.prog w (K w.params) mg base CX0 4 fa fd ["_law_script"] (spLaw (K w.params))) :
    PySem.W.WalkO q loose XP YP l.row.toRowW d [] (fun f vs => PySem.call f vs) :=
  L2.walk_of (n := 63) (k := 4) (x := "_law_script") (CX := fun _ => CX0) (sp := fun w => spLaw (K w.params)) hn (by decide) hdf ⟨rfl, by decide, by decide⟩ hY F (fun _ _ a ns hl O hS => ⟨a, ns, rfl, Scr.of O hS, hl, fun _ => rfl⟩) fun _ _ _ _ _ z => z
end Lw
open PySem PySem.W PyProof.Rows
set_option maxRecDepth 100000 in
set_option maxHeartbeats 0 in
theorem PySem.Challenge.cw_longwork_k15_whole_no_marks_are_cheaper_holds : PySem.Challenge.rw_longwork_k15_whole_no_marks_are_cheaper.Holds := by
  w_on; o_law; k_head; (case hw => w_witness2)
  k_fill
  refine Lw.walk (l := PySem.Challenge.rw_longwork_k15_whole_no_marks_are_cheaper) rfl rfl (fun w h Y => PySem.W.kIn_of Y) ?F
  case F =>
    intro w mg fa h KX G hmg
    refine' Lw.all_mk KX G hmg ?a_is_number ?l_is_number ?c_is_number ?k_is_number ?a_check_weights ?l_check_weights ?c_check_weights ?k_check_weights ?a_check_falls ?l_check_falls ?c_check_falls ?k_check_falls ?a_check_price ?l_check_price ?c_check_price ?k_check_price ?a_check_marks ?l_check_marks ?c_check_marks ?k_check_marks ?a_done_again ?l_done_again ?c_done_again ?k_done_again ?a_cost ?l_cost ?c_cost ?k_cost ?a_best_behind ?l_best_behind ?c_best_behind ?k_best_behind ?a_best ?l_best ?c_best ?k_best ?a_law_dice ?l_law_dice ?c_law_dice ?k_law_dice ?a_law_next ?l_law_next ?c_law_next ?k_law_next ?a_law_like ?l_law_like ?c_law_like ?k_law_like ?a_law_plan ?l_law_plan ?c_law_plan ?k_law_plan ?a_law_cost ?l_law_cost ?c_law_cost ?k_law_cost ?a_law_part_cost ?l_law_part_cost ?c_law_part_cost ?k_law_part_cost ?a_law_least ?l_law_least ?c_law_least ?k_law_least ?a_law ?l_law ?c_law ?k_law ?z_set ?z_sum ?z_sorted ?z_reversed ?z_len ?z_range ?z_isinstance ?z_int ?z_bool ?z_str ?z_tuple ?z_list ?z_min ?z_max ?z_enumerate ?z_zip ?y_MOST_STEPS ?y_MOST_WEIGHT ?y_MOST_FALLS ?y_MOST_PRICE
    (case a_is_number => k_is)
    (case l_is_number => k_is)
    (case c_is_number => k_is)
    (case k_is_number => k_is)
    (case a_check_weights => k_is)
    (case l_check_weights => k_is)
    (case c_check_weights => k_is)
    (case k_check_weights => k_is)
    (case a_check_falls => k_is)
    (case l_check_falls => k_is)
    (case c_check_falls => k_is)
    (case k_check_falls => k_is)
    (case a_check_price => k_is)
    (case l_check_price => k_is)
    (case c_check_price => k_is)
    (case k_check_price => k_is)
    (case a_check_marks => k_is)
    (case l_check_marks => k_is)
    (case c_check_marks => k_is)
    (case k_check_marks => k_is)
    (case a_done_again => k_is)
    (case l_done_again => k_is)
    (case c_done_again => k_is)
    (case k_done_again => k_is)
    (case a_cost => k_is)
    (case l_cost => k_is)
    (case c_cost => k_is)
    (case k_cost => k_is)
    (case a_best_behind => k_is)
    (case l_best_behind => k_is)
    (case c_best_behind => k_is)
    (case k_best_behind => k_is)
    (case a_best => k_is)
    (case l_best => k_is)
    (case c_best => k_is)
    (case k_best => k_is)
    (case a_law_dice => k_is)
    (case l_law_dice => k_is)
    (case c_law_dice => k_is)
    (case k_law_dice => k_is)
    (case a_law_next => k_is)
    (case l_law_next => k_is)
    (case c_law_next => k_is)
    (case k_law_next => k_is)
    (case a_law_like => k_is)
    (case l_law_like => k_is)
    (case c_law_like => k_is)
    (case k_law_like => k_is)
    (case a_law_plan => k_is)
    (case l_law_plan => k_is)
    (case c_law_plan => k_is)
    (case k_law_plan => k_is)
    (case a_law_cost => k_is)
    (case l_law_cost => k_is)
    (case c_law_cost => k_is)
    (case k_law_cost => k_is)
    (case a_law_part_cost => k_is)
    (case l_law_part_cost => k_is)
    (case c_law_part_cost => k_is)
    (case k_law_part_cost => k_is)
    (case a_law_least => k_is)
    (case l_law_least => k_is)
    (case c_law_least => k_is)
    (case k_law_least => k_is)
    (case a_law => k_is)
    (case l_law => k_is)
    (case c_law => k_is)
    (case k_law => k_is)
    (case z_set => k_is)
    (case z_sum => k_is)
    (case z_sorted => k_is)
    (case z_reversed => k_is)
    (case z_len => k_is)
    (case z_range => k_is)
    (case z_isinstance => k_is)
    (case z_int => k_is)
    (case z_bool => k_is)
    (case z_str => k_is)
    (case z_tuple => k_is)
    (case z_list => k_is)
    (case z_min => k_is)
    (case z_max => k_is)
    (case z_enumerate => k_is)
    (case z_zip => k_is)
    (case y_MOST_STEPS => k_is)
    (case y_MOST_WEIGHT => k_is)
    (case y_MOST_FALLS => k_is)
    (case y_MOST_PRICE => k_is)
