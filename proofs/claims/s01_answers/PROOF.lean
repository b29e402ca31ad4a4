import PyProof.Rows.All
import Wide.All
import OpenK.AllK
import Wide.FinOn
import PyProof.EqAt
import PyProof.EqKinds
import PyProof.TupleCall
import KE.BitLaws
import KE.IntBitsLaws
import KE.OsGo
import PySem.Challenge.RW_gaugeboard_s01_answers
set_option Elab.async false
set_option linter.all false
set_option maxRecDepth 100000
namespace L2
open PySem PySem.Spec PyProof.Rows
abbrev Key := Sum Int Str
def keyIs : Key → Value → Bool
  | .inl k, v => Value.isInt k v
  | .inr x, v => Value.isStrOf x v
def keyH (w : World) : Key → Int
  | .inl k => hashInt k
  | .inr x => hashStr w x
theorem keyIs_shape : ∀ {k : Key} {v : Value}, keyIs k v = true → (∃ i t, k = Sum.inl i ∧ v = Value.int i t) ∨ (∃ x t, k = Sum.inr x ∧ v = Value.str x t)
  | .inl i, v, h => by
    obtain ⟨t, e⟩ := Value.isInt_shape (k := i) (v := v) h
    exact .inl ⟨i, t, rfl, e⟩
  | .inr x, v, h => by
    obtain ⟨t, e⟩ := Value.isStrOf_shape (x := x) (v := v) h
    exact .inr ⟨x, t, rfl, e⟩
theorem keyIs_int (i : Int) (t : Tok) : keyIs (.inl i) (.int i t) = true := by simp [keyIs, Value.isInt]
theorem keyIs_str (x : Str) (t : Tok) : keyIs (.inr x) (.str x t) = true := by simp [keyIs, Value.isStrOf]
theorem key_ll (a b : Int) : decide ((Sum.inl a : Key) = Sum.inl b) = (a == b) := by
  by_cases e : a = b
  · subst e; simp
  · have h : ¬ (Sum.inl a : Key) = Sum.inl b := fun q => e (Sum.inl.inj q)
    rw [decide_eq_false h]
    exact (beq_eq_false_iff_ne.mpr e).symm
theorem key_rr (a b : Str) : decide ((Sum.inr a : Key) = Sum.inr b) = decide (a = b) := by
  by_cases e : a = b
  · subst e; simp
  · have h : ¬ (Sum.inr a : Key) = Sum.inr b := fun q => e (Sum.inr.inj q)
    rw [decide_eq_false h, decide_eq_false e]
theorem key_lr (a : Int) (b : Str) : decide ((Sum.inl a : Key) = Sum.inr b) = false := decide_eq_false (fun q => nomatch q)
theorem key_rl (a : Str) (b : Int) : decide ((Sum.inr a : Key) = Sum.inl b) = false := decide_eq_false (fun q => nomatch q)
def mixKind (prog : Program) (w : World) : PySem.KeyKind prog w Key where
  is := keyIs
  hash := keyH w
  inj := fun v a b ha hb => by
    rcases keyIs_shape ha with ⟨i, t, rfl, rfl⟩ | ⟨x, t, rfl, rfl⟩
    · rcases keyIs_shape hb with ⟨j, u, rfl, e⟩ | ⟨y, u, rfl, e⟩
      · injection e with e1 _; rw [e1]
      · exact nomatch e
    · rcases keyIs_shape hb with ⟨j, u, rfl, e⟩ | ⟨y, u, rfl, e⟩
      · exact nomatch e
      · injection e with e1 _; rw [e1]
  byValue := fun k v h => by
    rcases keyIs_shape h with ⟨i, t, rfl, rfl⟩ | ⟨x, t, rfl, rfl⟩ <;> rfl
  pyHash := fun hv h => by
    rcases keyIs_shape hv with ⟨i, t, rfl, rfl⟩ | ⟨x, t, rfl, rfl⟩
    · exact wpAny_pyHash_int h
    · exact wpAny_pyHash_str h
  eqBool := fun hu hv h => by
    rcases keyIs_shape hu with ⟨i, t, rfl, rfl⟩ | ⟨x, t, rfl, rfl⟩
    · rcases keyIs_shape hv with ⟨j, u, rfl, rfl⟩ | ⟨y, u, rfl, rfl⟩
      · rw [key_ll] at h; exact wpAny_eqBool_int h
      · rw [key_lr] at h; exact SeqAt.EqAt.int_str i t y u _ _ _ _ h
    · rcases keyIs_shape hv with ⟨j, u, rfl, rfl⟩ | ⟨y, u, rfl, rfl⟩
      · rw [key_rl] at h; exact SeqAt.EqAt.str_int x t j u _ _ _ _ h
      · rw [key_rr] at h; exact wpAny_eqBool_str h
  «strs» := fun k x t v h => by
    rcases keyIs_shape h with ⟨i, u, rfl, e⟩ | ⟨y, u, rfl, e⟩
    · exact nomatch e
    · injection e with e1 _
      subst e1
      cases v <;> rfl
theorem mixKind_int (prog : Program) (w : World) (i : Int) (t : Tok) : (mixKind prog w).is (.inl i) (.int i t) = true := keyIs_int i t
theorem mixKind_str (prog : Program) (w : World) (x : Str) (t : Tok) : (mixKind prog w).is (.inr x) (.str x t) = true := keyIs_str x t
end L2
namespace L2
open PySem PySem.Spec PyProof.Rows
inductive V where
  | non | bl (b : Bool) | int (i : Int) | str (x : Str) | byt (b : Array UInt8) | flt (b : UInt64) | ref (a : Addr) | ty (n : String)
  deriving DecidableEq
def RelV : V → Value → Prop
  | .non, u => u = Value.none
  | .bl b, u => u = Value.bool b
  | .int i, u => ∃ t, u = Value.int i t
  | .str x, u => ∃ t, u = Value.str x t
  | .byt b, u => ∃ t, u = Value.bytes b t
  | .flt b, u => ∃ t, u = Value.float b t
  | .ref a, u => u = Value.ref a
  | .ty n, u => u = Value.type n
abbrev Vals : List V → List Value → Prop := Paired RelV
theorem Vals.length {xs : List V} {us : List Value} (r : Vals xs us) : xs.length = us.length := Paired.length r
theorem Vals.get : ∀ {xs : List V} {us : List Value} {i : Nat} {x : V}, Vals xs us → xs[i]? = some x → ∃ u, us[i]? = some u ∧ RelV x u
  | _, _, _, _, .nil, e => by simp at e
  | _, _, 0, _, .cons r _, e => by simp at e; subst e; exact ⟨_, rfl, r⟩
  | _, _, i + 1, x, .cons _ t, e => by
    obtain ⟨u, h1, h2⟩ := Vals.get (i := i) (x := x) t (by simpa using e)
    exact ⟨u, by simpa using h1, h2⟩
theorem Vals.set {x : V} {u : Value} (r : RelV x u) : ∀ {xs : List V} {us : List Value} (i : Nat), Vals xs us → Vals (xs.set i x) (us.set i u)
  | _, _, _, .nil => .nil
  | _, _, 0, .cons _ t => .cons r t
  | _, _, i + 1, .cons q t => .cons q (Vals.set r i t)
theorem Vals.append : ∀ {xs ys : List V} {us ws : List Value}, Vals xs us → Vals ys ws → Vals (xs ++ ys) (us ++ ws)
  | _, _, _, _, .nil, s => s
  | _, _, _, _, .cons r t, s => .cons r (Vals.append t s)
theorem Vals.take : ∀ {xs : List V} {us : List Value} (n : Nat), Vals xs us → Vals (xs.take n) (us.take n)
  | _, _, 0, _ => .nil
  | _, _, _ + 1, .nil => .nil
  | _, _, n + 1, .cons r t => .cons r (Vals.take n t)
theorem Vals.drop : ∀ {xs : List V} {us : List Value} (n : Nat), Vals xs us → Vals (xs.drop n) (us.drop n)
  | _, _, 0, r => r
  | _, _, _ + 1, .nil => .nil
  | _, _, n + 1, .cons _ t => Vals.drop n t
def RelO : Option V → Option Value → Prop
  | some v, some u => RelV v u
  | none, none => True
  | _, _ => False
def KV {κ : Type} : List (κ × V) → List (κ × Value) → Prop := Paired fun (p : κ × V) (q : κ × Value) => p.1 = q.1 ∧ RelV p.2 q.2
def kV : Key → V
  | .inl i => .int i
  | .inr x => .str x
inductive HO where
  | lst (xs : List V)
  | tup (xs : List V)
  | dK (kvs : List (Key × V)) | dT (kvs : List (List Key × V))
  | set (S : Int → Bool) (n : Nat)
  | ins (C dx : Addr) (fs : List (Str × V))
  | own (x : Addr)
  | xd (fs : List (Str × V))
  | met (f x : Addr)
  | rng (lo hi : Int)
  | frz (o : Obj) (u : HO)
  | tbl (ps : Array Value)
  | ext (φ : Heap → Prop)
abbrev Hp := Addr → Option HO
def upd (H : Hp) (a : Addr) (o : HO) : Hp := fun b => if b = a then some o else H b
theorem upd_same {H : Hp} {a : Addr} {o : HO} : upd H a o a = some o := by unfold upd; rw [if_pos rfl]
theorem upd_ne {H : Hp} {a b : Addr} {o : HO} (h : b ≠ a) : upd H a o b = H b := by unfold upd; rw [if_neg h]
theorem upd_upd {H : Hp} {a : Addr} {o u : HO} : upd (upd H a o) a u = upd H a u := by
  funext b; unfold upd; split <;> rfl
theorem ne_of {H : Hp} {a b : Addr} {o u : HO} (h : H a = some o) (h' : H b = some u) (d : o ≠ u) : a ≠ b := by
  intro e; subst e; rw [h] at h'; exact d (Option.some.inj h')
theorem ne_of_none {H : Hp} {a b : Addr} {o : HO} (h : H a = some o) (h' : H b = none) : a ≠ b := by
  intro e; subst e; rw [h] at h'; cases h'
section
variable (P : Program) (w : World)
def ObjOk (H : Hp) (h : Heap) (a : Addr) : HO → Prop
  | .lst xs => xs.length ≤ sizeLine ∧ ∃ (its : List Value) (n : Nat), Vals xs its ∧ h.get? a = some { cls := .type "list", data := .seq its.toArray n }
  | .tup xs => xs.length ≤ sizeLine ∧ ∃ its : List Value, Vals xs its ∧ IsTup h a its.toArray
  | .dK kvs => kvs.length ≤ sizeLine ∧ (a == sysModules) = false ∧ ∃ vs, KV kvs vs ∧ h.DictOf (mixKind P w) a vs
  | .dT kvs => kvs.length ≤ sizeLine ∧ (a == sysModules) = false ∧ ∃ xs : List (List Key × Addr × Value),
      Paired (fun (p : List Key × V) (q : List Key × Addr × Value) => p.1 = q.1 ∧ H q.2.1 = some (.tup (p.1.map kV)) ∧ RelV p.2 q.2.2) kvs xs ∧
      ∃ o es ep, h.get? a = some o ∧ o.ExactDict ∧ o.data = .dict es ep ∧ es.toList = xs.map (entryOfKey (tupleKind (mixKind P w))) ∧ (xs.map (·.1)).Nodup
  | .set S n => h.SetOf (intKind P w) a S n
  | .ins C dx fs => H dx = some (.own a) ∧ fs.length ≤ 1000 ∧ dx ≠ a ∧ h.get? a = some (PySem.W.instObj C dx) ∧
      ∃ mA, h.Ns1 dx mA ∧ (∀ f, RelO (fs.lookup f) (mA f)) ∧ PySem.Within mA (fs.map (·.1))
  | .own _ => ∃ o, h.get? a = some o
  | .xd fs => ∃ mA, h.Ns1 a mA ∧ ∀ f, RelO (fs.lookup f) (mA f)
  | .rng lo hi => ∃ t u v, h.get? a = some { cls := .type "range", data := .fields #[.int lo t, .int hi u, .int 1 v] }
  | .frz o u => h.get? a = some o ∧ ObjOk H h a u
  | .tbl ps => h.get? a = some { cls := .none, data := .fields ps }
  | .met f x => h.get? a = some (PySem.W.methodObj (.ref f) (.ref x))
  | .ext φ => φ h ∧ (∃ o, h.get? a = some o) ∧ ∀ h1 h2 : Heap, φ h1 → (∀ o, h1.get? a = some o → h2.get? a = some o) → φ h2
def HOk (H : Hp) (h : Heap) : Prop := ∀ a o, H a = some o → ObjOk P w H h a o
end
section
variable {P : Program} {w : World} {H H' : Hp} {h h' : Heap} {a : Addr} {o : HO}
theorem ObjOk.lt (x : ObjOk P w H h a o) : a < h.objs.size := by
  cases o with
  | lst xs => obtain ⟨_, _, _, _, e⟩ := x; exact Heap.lt_size e
  | tup xs => obtain ⟨_, _, _, p⟩ := x; exact p.lt
  | dK kvs => obtain ⟨_, _, _, _, o, _, _, e, _⟩ := x; exact Heap.lt_size e
  | dT kvs => obtain ⟨_, _, _, _, o, _, _, e, _⟩ := x; exact Heap.lt_size e
  | set S n => obtain ⟨o, _, _, _, e, _⟩ := x; exact Heap.lt_size e
  | ins C dx fs => obtain ⟨_, _, _, e, _⟩ := x; exact Heap.lt_size e
  | own y => obtain ⟨_, e⟩ := x; exact Heap.lt_size e
  | xd fs => obtain ⟨_, ⟨_, _, _, e, _⟩, _⟩ := x; exact Heap.lt_size e
  | rng lo hi => obtain ⟨_, _, _, e⟩ := x; exact Heap.lt_size e
  | frz ob u => obtain ⟨e, _⟩ := x; exact Heap.lt_size e
  | tbl ps => exact Heap.lt_size (show h.get? a = some _ from x)
  | met f y => exact Heap.lt_size (show h.get? a = some _ from x)
  | ext φ => obtain ⟨_, ⟨_, e⟩, _⟩ := x; exact Heap.lt_size e
theorem Paired.mapP {α β : Type} {F G : α → β → Prop} : ∀ {l₁ : List α} {l₂ : List β}, Paired F l₁ l₂ → (∀ a b, F a b → G a b) → Paired G l₁ l₂
  | _, _, .nil, _ => .nil
  | _, _, .cons r t, f => .cons (f _ _ r) (Paired.mapP t f)
theorem ObjOk.stay (x : ObjOk P w H h a o) (k : ∀ b u, (b = a ∨ H b = some (.own a)) → h.get? b = some u → h'.get? b = some u)
    (ho : ∀ b, H b = some (.own a) → H' b = some (.own a)) (ht : ∀ b xs, H b = some (.tup xs) → H' b = some (.tup xs)) : ObjOk P w H' h' a o := by
  induction o with
  | lst xs => obtain ⟨z, its, n, r, e⟩ := x; exact ⟨z, its, n, r, k _ _ (.inl rfl) e⟩
  | tup xs => obtain ⟨z, its, r, ob, e, c⟩ := x; exact ⟨z, its, r, ob, k _ _ (.inl rfl) e, c⟩
  | dK kvs => obtain ⟨z, y, vs, r, ob, es, ep, e, c⟩ := x; exact ⟨z, y, vs, r, ob, es, ep, k _ _ (.inl rfl) e, c⟩
  | dT kvs =>
    obtain ⟨z, y, xs, r, ob, es, ep, e, c⟩ := x
    exact ⟨z, y, xs, Paired.mapP r fun p q z => ⟨z.1, ht _ _ z.2.1, z.2.2⟩, ob, es, ep, k _ _ (.inl rfl) e, c⟩
  | set S n => obtain ⟨ob, es, ep, t, e, c⟩ := x; exact ⟨ob, es, ep, t, k _ _ (.inl rfl) e, c⟩
  | ins C dx fs =>
    obtain ⟨d, z, ne, e, mA, ⟨od, es, ep, e2, c⟩, r⟩ := x
    exact ⟨ho _ d, z, ne, k _ _ (.inl rfl) e, mA, ⟨od, es, ep, k _ _ (.inr d) e2, c⟩, r⟩
  | own y => obtain ⟨ob, e⟩ := x; exact ⟨ob, k _ _ (.inl rfl) e⟩
  | xd fs => obtain ⟨mA, ⟨od, es, ep, e, c⟩, r⟩ := x; exact ⟨mA, ⟨od, es, ep, k _ _ (.inl rfl) e, c⟩, r⟩
  | rng lo hi => obtain ⟨t, u, v, e⟩ := x; exact ⟨t, u, v, k _ _ (.inl rfl) e⟩
  | frz ob u ih => obtain ⟨e, q⟩ := x; exact ⟨k _ _ (.inl rfl) e, ih q⟩
  | tbl ps =>
    have e : h.get? a = some { cls := .none, data := .fields ps } := x
    show h'.get? a = some { cls := .none, data := .fields ps }
    exact k a _ (.inl rfl) e
  | met f y =>
    have e : h.get? a = some (PySem.W.methodObj (.ref f) (.ref y)) := x
    show h'.get? a = some (PySem.W.methodObj (.ref f) (.ref y))
    exact k a _ (.inl rfl) e
  | ext φ => obtain ⟨p, ⟨o, e⟩, st⟩ := x; exact ⟨st _ _ p fun o q => k _ _ (.inl rfl) q, ⟨o, k _ _ (.inl rfl) e⟩, st⟩
theorem HOk.lt (x : HOk P w H h) (e : H a = some o) : a < h.objs.size := (x a o e).lt
theorem HOk.fresh (x : HOk P w H h) (e : h.objs.size ≤ a) : H a = none := by
  cases q : H a with
  | none => rfl
  | some u => exact absurd (Nat.lt_of_lt_of_le (x.lt q) e) (Nat.lt_irrefl _)
theorem HOk.kept (x : HOk P w H h) (k : ∀ b u, h.get? b = some u → h'.get? b = some u) : HOk P w H h' := fun a o e =>
  (x a o e).stay (fun b u _ q => k b u q) (fun _ q => q) fun _ _ q => q
theorem HOk.laid (x : HOk P w H h) (k : ∀ b u, h.get? b = some u → h'.get? b = some u) (hp : h.objs.size ≤ a) (new : ObjOk P w (upd H a o) h' a o) : HOk P w (upd H a o) h' := fun b u e => by
  have hn := x.fresh hp
  by_cases hb : b = a
  · subst hb; rw [upd_same] at e; cases e; exact new
  · rw [upd_ne hb] at e
    exact (x b u e).stay (fun c v _ q => k c v q) (fun c q => by rw [upd_ne (ne_of_none q hn)]; exact q) fun c xs q => by rw [upd_ne (ne_of_none q hn)]; exact q
end
def Rd (H : Hp) (a : Addr) (u : HO) : Prop := H a = some u ∨ ∃ o, H a = some (.frz o u)
theorem Rd.of {H : Hp} {a : Addr} {u : HO} (h : H a = some u) : Rd H a u := .inl h
theorem Rd.ok {P : Program} {w : World} {H : Hp} {h : Heap} {a : Addr} {u : HO} (r : Rd H a u) (x : HOk P w H h) : ObjOk P w H h a u := by
  rcases r with r | ⟨o, r⟩
  · exact x a u r
  · obtain ⟨_, q⟩ := x a _ r
    exact q
def Mut : Option HO → Prop
  | some (.lst _) => True
  | some (.dK _) => True
  | some (.dT _) => True
  | some (.set _ _) => True
  | some (.ins _ _ _) => True
  | some (.ext _) => True
  | _ => False
section
variable {P : Program} {w : World} {H : Hp} {h h' : Heap} {x e : Addr} {o' : HO}
theorem HOk.write (ok : HOk P w H h) (mu : Mut (H x)) (he : e = x ∨ H e = some (.own x)) (k : ∀ b u, b ≠ e → h.get? b = some u → h'.get? b = some u) (heo : ∃ u, h'.get? e = some u)
    (new : ObjOk P w (upd H x o') h' x o') : HOk P w (upd H x o') h' := fun b u q => by
  have nown : ∀ c y, H c = some (.own y) → c ≠ x := fun c y r z => by subst z; rw [r] at mu; exact mu
  have ntup : ∀ c xs, H c = some (.tup xs) → c ≠ x := fun c xs r z => by subst z; rw [r] at mu; exact mu
  by_cases hb : b = x
  · subst hb; rw [upd_same] at q; cases q; exact new
  · rw [upd_ne hb] at q
    by_cases hbe : b = e
    · have q' : H b = some (.own x) := by
        rcases he with z | z
        · exact absurd (hbe.trans z) hb
        · rw [hbe]; exact z
      rw [q] at q'; cases q'
      obtain ⟨v, hv⟩ := heo
      exact ⟨v, by rw [hbe]; exact hv⟩
    · refine (ok b u q).stay (fun c v hc r => k c v ?_ r) (fun c r => by rw [upd_ne (nown c b r)]; exact r) fun c xs r => by rw [upd_ne (ntup c xs r)]; exact r
      rcases hc with rfl | hc
      · exact hbe
      · rintro rfl
        rcases he with z | z
        · exact nown c b hc z
        · rw [hc] at z; cases z; exact hb rfl
end
structure Un (fs ex : List Addr) (H H' : Hp) (h h' : Heap) : Prop where
  keep : ∀ b o, h.get? b = some o → H b = none → b ∉ fs → b ∉ ex → h'.get? b = some o
  slot : ∀ b o, h.get? b = some o → H b = none → b ∈ fs → b ∉ ex → ∃ sl, h'.get? b = some { o with slots := sl }
  free : ∀ b o, h.get? b = some o → H b = none → b ∉ ex → H' b = none
  there : ∀ b o, h.get? b = some o → b ∉ ex → ∃ o', h'.get? b = some o'
  tups : ∀ b xs, H b = some (.tup xs) → H' b = some (.tup xs)
  frzs : ∀ b o u, H b = some (.frz o u) → H' b = some (.frz o u)
  tbls : ∀ b ps, H b = some (.tbl ps) → ∃ more, H' b = some (.tbl (ps ++ more))
section
variable {fs fs' ex ex' : List Addr} {H H1 H2 : Hp} {h h1 h2 h' : Heap} {a x e : Addr} {o : HO}
theorem Un.any (u : Un fs ex H H1 h h1) {b : Addr} {ob : Obj} (q : h.get? b = some ob) (n : H b = none) (hx : b ∉ ex) : ∃ sl, h1.get? b = some { ob with slots := sl } := by
  by_cases hb : b ∈ fs
  · exact u.slot b ob q n hb hx
  · exact ⟨ob.slots, u.keep b ob q n hb hx⟩
theorem Un.trans (a : Un fs ex H H1 h h1) (b : Un fs ex H1 H2 h1 h2) : Un fs ex H H2 h h2 where
  keep := fun c ob q n hc hx => b.keep c ob (a.keep c ob q n hc hx) (a.free c ob q n hx) hc hx
  slot := fun c ob q n hc hx => by
    obtain ⟨sl, e1⟩ := a.slot c ob q n hc hx
    obtain ⟨sl', e2⟩ := b.slot c _ e1 (a.free c ob q n hx) hc hx
    exact ⟨sl', e2⟩
  free := fun c ob q n hx => by
    obtain ⟨o', e1⟩ := a.there c ob q hx
    exact b.free c o' e1 (a.free c ob q n hx) hx
  there := fun c ob q hx => by
    obtain ⟨o', e1⟩ := a.there c ob q hx
    exact b.there c o' e1 hx
  tups := fun c xs q => b.tups c xs (a.tups c xs q)
  frzs := fun c ob xs q => b.frzs c ob xs (a.frzs c ob xs q)
  tbls := fun c ps q => by
    obtain ⟨m1, e1⟩ := a.tbls c ps q
    obtain ⟨m2, e2⟩ := b.tbls c _ e1
    exact ⟨m1 ++ m2, by rw [e2, Array.append_assoc]⟩
theorem Un.kept (k : ∀ b u, h.get? b = some u → h'.get? b = some u) : Un fs ex H H h h' :=
  ⟨fun b ob q _ _ _ => k b ob q, fun b ob q _ _ _ => ⟨ob.slots, k b ob q⟩, fun _ _ _ n _ => n, fun b ob q _ => ⟨ob, k b ob q⟩, fun _ _ q => q, fun _ _ _ q => q, fun _ ps q => ⟨#[], by rw [q]; simp⟩⟩
theorem Un.refl : Un fs ex H H h h := Un.kept fun _ _ q => q
theorem Un.laid (k : ∀ b u, h.get? b = some u → h'.get? b = some u) (hp : h.objs.size ≤ a) (hn : H a = none) : Un fs ex H (upd H a o) h h' where
  keep := fun b u q _ _ _ => k b u q
  slot := fun b u q _ _ _ => ⟨u.slots, k b u q⟩
  free := fun b u q n _ => by rw [upd_ne (Nat.ne_of_lt (Nat.lt_of_lt_of_le (Heap.lt_size q) hp))]; exact n
  there := fun b u q _ => ⟨u, k b u q⟩
  tups := fun b xs q => by rw [upd_ne (ne_of_none q hn)]; exact q
  frzs := fun b u xs q => by rw [upd_ne (ne_of_none q hn)]; exact q
  tbls := fun b ps q => ⟨#[], by rw [upd_ne (ne_of_none q hn), q]; simp⟩
theorem Un.write (mu : Mut (H x)) (he : e = x ∨ H e = some (.own x)) (k : ∀ b u, b ≠ e → h.get? b = some u → h'.get? b = some u) (heo : ∃ u, h'.get? e = some u) : Un fs ex H (upd H x o) h h' := by
  have hx : ∀ b, H b = none → b ≠ x := fun b n z => by subst z; rw [n] at mu; exact mu
  have hb : ∀ b, H b = none → b ≠ e := fun b n z => by
    subst z
    rcases he with r | r
    · exact hx b n r
    · rw [n] at r; cases r
  have hm : ∀ b u, H b = some u → ¬ Mut (some u) → b ≠ x := fun b u q nm z => by subst z; rw [q] at mu; exact nm mu
  refine ⟨fun b u q n _ _ => k b u (hb b n) q, fun b u q n _ _ => ⟨u.slots, k b u (hb b n) q⟩, fun b u q n _ => by rw [upd_ne (hx b n)]; exact n, fun b u q _ => ?_,
    fun b xs q => by rw [upd_ne (hm b _ q fun z => z)]; exact q, fun b u xs q => by rw [upd_ne (hm b _ q fun z => z)]; exact q, fun b ps q => ⟨#[], by rw [upd_ne (hm b _ q fun z => z), q]; simp⟩⟩
  by_cases hbe : b = e
  · subst hbe; exact heo
  · exact ⟨u, k b u hbe q⟩
end
def trk (h : Heap) (H : Hp) : List Addr := (List.range h.objs.size).filter fun a => (H a).isSome
def hidT (h : Heap) (H : Hp) : Heap := PySem.W.hideAll h (trk h H)
theorem hidT_size (h : Heap) (H : Hp) : (hidT h H).objs.size = h.objs.size := PySem.W.hideAll_size _ _
theorem hidT_get {h : Heap} {H : Hp} {b : Addr} {o : Obj} (e : h.get? b = some o) (n : H b = none) : (hidT h H).get? b = some o :=
  PySem.W.hideAll_get _ e fun hm => by
    have q : (H b).isSome = true := (List.mem_filter.mp hm).2
    rw [n] at q; simp at q
theorem of_hidT {h : Heap} {H : Hp} {b : Addr} {o : Obj} (e : (hidT h H).get? b = some o) : h.get? b = some o ∧ H b = none := by
  have e' : h.get? b = some o := PySem.W.of_hideAll (trk h H) e
  refine ⟨e', ?_⟩
  cases q : H b with
  | none => rfl
  | some x =>
    have hm : b ∈ trk h H := List.mem_filter.mpr ⟨List.mem_range.mpr (Heap.lt_size e'), by simp [q]⟩
    have z : (hidT h H).get? b = none := PySem.W.hideAll_none (trk h H) hm
    rw [z] at e; cases e
end L2
namespace L2
open PySem PySem.Spec PyProof.Rows
structure Mod (K : PySem.W.Frag) (mg : Str → Option Value) (base : Heap) : Prop where
  kin : K.In base
  glob : base.Ns mainGlobals mg
  blt : ∃ mb, base.Ns builtinsNs mb ∧ ∀ x : Str, x ≠ "__name__" → mb x = bootBuiltins x
  nolimit : base.NoLimit
structure Cx where
  prog : Program
  w : World
  K : PySem.W.Frag
  mg : Str → Option Value
  base : Heap
  A : Around
  N : List Str
  s₀ : Shared
  H₀ : Hp
  env : Env
  outer : List Env
  stack : List Env
  ex : List Addr
  fn : Str → Bool
  calm : Bool
  pn : List (Addr × Obj)
  xe : Value → Shared → Prop
def frs (l : List Env) : List Addr := l.filterMap (·.frame)
abbrev Cx.fs (X : Cx) : List Addr := frs X.outer
def Vis (sc : Scope) (x : Str) : Prop := sc.names.lookup x = some .local ∨ sc.names.lookup x = some .cell ∨ sc.names.lookup x = some .free
def Loc (sc : Scope) (x : Str) : Prop := sc.names.lookup x = some .local ∨ sc.names.lookup x = some .cell
def Look (env : Env) (h : Heap) (m : Str → Option Value) (x : Str) (u : Value) : Prop :=
  (env.kindOf x = some .local ∧ m x = some u) ∨ ((env.kindOf x = some .cell ∨ env.kindOf x = some .free) ∧ ∃ c, env.cells.lookup x = some c ∧ h.IsCell c (some u))
structure Cx.Ok (X : Cx) : Prop where
  mod : Mod X.K X.mg X.base
  kind : X.env.scope.kind = .function
  glob : X.env.globals = mainGlobals
  blt : X.env.builtins = builtinsNs
  above : X.s₀.heap.objs.size ≤ X.env.locals
  inj : ∀ x y c, X.env.cells.lookup x = some c → X.env.cells.lookup y = some c → x = y
  has : ∀ x, (X.env.kindOf x = some .cell ∨ X.env.kindOf x = some .free) → ∃ c, X.env.cells.lookup x = some c
  cab : ∀ x c, X.fn x = true → X.env.cells.lookup x = some c → X.s₀.heap.objs.size ≤ c
  hd : X.calm = true → X.A.handled = none
  frames : X.A.frames = some X.stack
  stk : X.stack = X.outer ∨ (X.stack = X.env :: X.outer ∧ X.env.frame = some X.env.locals)
  exf : ∀ b ∈ X.ex, b ≠ X.env.locals ∧ ∀ x c, X.env.cells.lookup x = some c → c ≠ b
  bs : ∀ b o, X.base.get? b = some o → X.s₀.heap.get? b = some o ∧ X.H₀ b = none
  bsz : X.base.objs.size ≤ X.s₀.heap.objs.size
  noex : ∀ b o, X.base.get? b = some o → b ∉ X.ex
  exfs : ∀ b ∈ X.ex, b ∉ X.fs
  funs : X.s₀.heap.FunFrames X.base X.outer
  frf : ∀ b ∈ X.fs, X.H₀ b = none
structure Inv (X : Cx) (pins : List (Addr × Obj)) (σ : List (Option V)) (H : Hp) (s : Shared) : Prop where
  ok : X.Ok
  os : s.os = X.s₀.os
  bare : AllBare s.gens
  base : Un X.fs X.ex X.H₀ H X.s₀.heap s.heap
  loc : ∃ m, s.heap.Ns X.env.locals m ∧ ∀ (i : Nat) (x : Str) (v : V), X.N[i]? = some x → σ[i]? = some (some v) → Vis X.env.scope x → ∃ u, RelV v u ∧ Look X.env s.heap m x u
  cell : ∀ x c, X.env.cells.lookup x = some c → ∃ v, s.heap.IsCell c v
  free : H X.env.locals = none
  freeC : ∀ x c, X.env.cells.lookup x = some c → H c = none
  pin : ∀ p ∈ X.pn ++ pins, s.heap.get? p.1 = some p.2 ∧ H p.1 = none ∧ p.1 ≠ X.env.locals ∧ p.1 ∉ X.fs ∧ ∀ v, p.2.data ≠ .cell v
  hok : HOk X.prog X.w H s.heap
  len : σ.length = X.N.length
section
variable {X : Cx} {pins : List (Addr × Obj)} {σ : List (Option V)} {H H' : Hp} {s : Shared} {h' : Heap}
theorem Cx.Ok.nofr (ok : X.Ok) {b : Addr} {o : Obj} (e : X.base.get? b = some o) : b ∉ X.fs := fun hb => by
  have := (ok.funs.mem hb).1
  rw [e] at this; cases this
theorem Inv.bs (I : Inv X pins σ H s) : ∀ b o, X.base.get? b = some o → s.heap.get? b = some o ∧ H b = none := fun b o e =>
  ⟨I.base.keep b o (I.ok.bs b o e).1 (I.ok.bs b o e).2 (I.ok.nofr e) (I.ok.noex b o e), I.base.free b o (I.ok.bs b o e).1 (I.ok.bs b o e).2 (I.ok.noex b o e)⟩
theorem Inv.bk (I : Inv X pins σ H s) : ∀ b o, X.base.get? b = some o → s.heap.get? b = some o := fun b o e => (I.bs b o e).1
theorem Inv.mod (I : Inv X pins σ H s) : Mod X.K X.mg X.base := I.ok.mod
theorem Inv.kIn (I : Inv X pins σ H s) : X.K.In s.heap := I.ok.mod.kin.keeps I.bk
theorem Inv.fr (I : Inv X pins σ H s) : ∃ m, Fr X.base X.env.locals s.heap m :=
  let ⟨m, hn, _⟩ := I.loc
  ⟨m, hn, I.bk, Nat.le_trans I.ok.bsz I.ok.above⟩
theorem Inv.lt (I : Inv X pins σ H s) : X.env.locals < s.heap.objs.size := let ⟨_, hn, _⟩ := I.loc; hn.lt
theorem Inv.sz (I : Inv X pins σ H s) : X.s₀.heap.objs.size ≤ s.heap.objs.size := Nat.le_trans I.ok.above (Nat.le_of_lt I.lt)
theorem Inv.nofs (I : Inv X pins σ H s) {a : Addr} (h : s.heap.objs.size ≤ a) : a ∉ X.fs := fun hb => by
  obtain ⟨_, o, ho, _⟩ := I.ok.funs.mem hb
  exact absurd (Nat.lt_of_lt_of_le (Heap.lt_size ho) (Nat.le_trans I.sz h)) (Nat.lt_irrefl _)
theorem Inv.cne (I : Inv X pins σ H s) : ∀ x c, X.env.cells.lookup x = some c → c ≠ X.env.locals := fun x c e z => by
  obtain ⟨v, o, ho, hd⟩ := I.cell x c e
  obtain ⟨m, ⟨o', es, ep, ho', hd', _⟩, _⟩ := I.loc
  rw [z, ho'] at ho; cases ho; rw [hd'] at hd; cases hd
theorem Inv.funs (I : Inv X pins σ H s) : s.heap.FunFrames X.base X.outer := by
  have all : ∀ (l : List Env), (∀ b ∈ frs l, b ∈ X.fs) → X.s₀.heap.FunFrames X.base l → s.heap.FunFrames X.base l := by
    intro l
    induction l with
    | nil => intro _ _; trivial
    | cons env r ih =>
      intro hs hl
      obtain ⟨hk, ⟨L, o, hf, hn, ho, hd⟩, hr⟩ := hl
      have hL : L ∈ X.fs := hs L (by unfold frs; rw [List.filterMap_cons, hf]; exact List.mem_cons_self)
      obtain ⟨sl, e⟩ := I.base.slot L o ho (I.ok.frf L hL) hL fun z => I.ok.exfs L z hL
      exact ⟨hk, ⟨L, _, hf, hn, e, hd⟩, ih (fun b hb => hs b (by unfold frs; rw [List.filterMap_cons, hf]; exact List.mem_cons_of_mem _ hb)) hr⟩
  exact all X.outer (fun _ hb => hb) I.ok.funs
theorem Inv.stack (I : Inv X pins σ H s) : s.heap.FunFrames X.base X.stack := by
  rcases I.ok.stk with e | ⟨e, hf⟩
  · rw [e]; exact I.funs
  · rw [e]
    obtain ⟨m, hn, _⟩ := I.loc
    refine .cons (by rw [I.ok.kind]; decide) hf hn ?_ I.funs
    exact Heap.get?_none_of_le (Nat.le_trans I.ok.bsz I.ok.above)
theorem Inv.stkSub (I : Inv X pins σ H s) : ∀ b ∈ frs X.stack, b ∈ X.env.locals :: X.fs := fun b hb => by
  rcases I.ok.stk with e | ⟨e, hf⟩
  · rw [e] at hb; exact List.mem_cons_of_mem _ hb
  · rw [e] at hb
    unfold frs at hb
    rw [List.filterMap_cons, hf] at hb
    exact hb
theorem Inv.stkFree (I : Inv X pins σ H s) : ∀ b ∈ frs X.stack, H b = none := fun b hb => by
  rcases List.mem_cons.mp (I.stkSub b hb) with e | hb
  · rw [e]; exact I.free
  · obtain ⟨_, o, ho, _⟩ := I.ok.funs.mem hb
    exact I.base.free b o ho (I.ok.frf b hb) fun z => I.ok.exfs b z hb
theorem Inv.step {g' : Array GenState} {t' : Nat} {d' : Drawn} {ch : List Addr} (I : Inv X pins σ H s)
    (hch : ∀ b ∈ ch, (b ∈ X.ex ∨ X.s₀.heap.objs.size ≤ b) ∧ b ≠ X.env.locals ∧ (∀ x c, X.env.cells.lookup x = some c → c ≠ b) ∧ ∀ p ∈ X.pn ++ pins, p.1 ≠ b)
    (keep : ∀ b o, b ≠ X.env.locals → b ∉ X.fs → b ∉ ch → s.heap.get? b = some o → H b = none → h'.get? b = some o)
    (slot : ∀ b o, b ≠ X.env.locals → b ∈ X.fs → b ∉ ch → s.heap.get? b = some o → H b = none → ∃ sl, h'.get? b = some { o with slots := sl }) (free : ∀ b o, b ∉ ch → s.heap.get? b = some o → H b = none → H' b = none)
    (there : ∀ b o, b ∉ ch → s.heap.get? b = some o → ∃ o', h'.get? b = some o')
    (tups : ∀ b xs, H b = some (.tup xs) → H' b = some (.tup xs)) (frzs : ∀ b o u, H b = some (.frz o u) → H' b = some (.frz o u)) (tbls : ∀ b ps, H b = some (.tbl ps) → ∃ more, H' b = some (.tbl (ps ++ more)))
    (ns : ∀ m, s.heap.Ns X.env.locals m → h'.Ns X.env.locals m) (hok : HOk X.prog X.w H' h') (hg : AllBare g') :
    Inv X pins σ H' { s with heap := h', gens := g', drawn := d', toks := t' } := by
  have neL : ∀ b o, X.s₀.heap.get? b = some o → b ≠ X.env.locals := fun b o e => Nat.ne_of_lt (Nat.lt_of_lt_of_le (Heap.lt_size e) I.ok.above)
  have neC : ∀ b o, X.s₀.heap.get? b = some o → b ∉ X.ex → b ∉ ch := fun b o e hx hb => by
    rcases (hch b hb).1 with z | z
    · exact hx z
    · exact absurd (Nat.lt_of_lt_of_le (Heap.lt_size e) z) (Nat.lt_irrefl _)
  have cellK : ∀ x c, X.env.cells.lookup x = some c → ∀ v, s.heap.IsCell c v → h'.IsCell c v := fun x c e v ⟨o, ho, hd⟩ => by
    have nch : c ∉ ch := fun z => (hch c z).2.2.1 x c e rfl
    by_cases hc : c ∈ X.fs
    · obtain ⟨sl, q⟩ := slot c o (I.cne x c e) hc nch ho (I.freeC x c e)
      exact ⟨_, q, hd⟩
    · exact ⟨o, keep c o (I.cne x c e) hc nch ho (I.freeC x c e), hd⟩
  refine ⟨I.ok, I.os, hg, ⟨fun b o e n hb hx => ?_, fun b o e n hb hx => ?_, fun b o e n hx => ?_, fun b o e hx => ?_, fun b xs e => tups b xs (I.base.tups b xs e), fun b o xs e => frzs b o xs (I.base.frzs b o xs e), fun b ps e => ?_⟩, ?_, fun x c e => ?_, ?_, fun x c e => ?_, fun p hp => ?_, hok, I.len⟩
  · exact keep b o (neL b o e) hb (neC b o e hx) (I.base.keep b o e n hb hx) (I.base.free b o e n hx)
  · obtain ⟨sl, e1⟩ := I.base.slot b o e n hb hx
    obtain ⟨sl', e2⟩ := slot b _ (neL b o e) hb (neC b o e hx) e1 (I.base.free b o e n hx)
    exact ⟨sl', e2⟩
  · obtain ⟨o', e1⟩ := I.base.there b o e hx
    exact free b o' (neC b o e hx) e1 (I.base.free b o e n hx)
  · obtain ⟨o', e1⟩ := I.base.there b o e hx
    exact there b o' (neC b o e hx) e1
  · obtain ⟨m1, e1⟩ := I.base.tbls b ps e
    obtain ⟨m2, e2⟩ := tbls b _ e1
    exact ⟨m1 ++ m2, by rw [e2, Array.append_assoc]⟩
  · obtain ⟨m, hn, hl⟩ := I.loc
    refine ⟨m, ns m hn, fun i x v e1 e2 e3 => ?_⟩
    obtain ⟨u, r, l⟩ := hl i x v e1 e2 e3
    refine ⟨u, r, ?_⟩
    rcases l with l | ⟨k, c, e, z⟩
    · exact .inl l
    · exact .inr ⟨k, c, e, cellK x c e _ z⟩
  · obtain ⟨v, z⟩ := I.cell x c e
    exact ⟨v, cellK x c e v z⟩
  · obtain ⟨m, ⟨o, _, _, ho, _⟩, _⟩ := I.loc
    exact free _ o (fun z => (hch _ z).2.1 rfl) ho I.free
  · obtain ⟨v, o, ho, hd⟩ := I.cell x c e
    exact free c o (fun z => (hch c z).2.2.1 x c e rfl) ho (I.freeC x c e)
  · obtain ⟨e, n, ne, nf, d⟩ := I.pin p hp
    have nch : p.1 ∉ ch := fun z => (hch p.1 z).2.2.2 p hp rfl
    exact ⟨keep p.1 p.2 ne nf nch e n, free p.1 p.2 nch e n, ne, nf, d⟩
theorem Inv.un {t' : Nat} (I : Inv X pins σ H s) (u : Un X.fs [] H H' s.heap h') (hok : HOk X.prog X.w H' h') : Inv X pins σ H' { s with heap := h', toks := t' } := by
  obtain ⟨m, ⟨o, es, ep, ho, r⟩, _⟩ := id I.loc
  obtain ⟨sl, hL⟩ := u.any ho I.free (by simp)
  exact I.step (g' := s.gens) (d' := s.drawn) (ch := []) (fun _ z => nomatch z) (fun b o _ hb _ e n => u.keep b o e n hb (by simp)) (fun b o _ hb _ e n => u.slot b o e n hb (by simp)) (fun b o _ e n => u.free b o e n (by simp)) (fun b o _ e => u.there b o e (by simp)) u.tups u.frzs u.tbls (fun m' hm => by
    obtain ⟨o', es', ep', ho', r'⟩ := hm
    rw [ho] at ho'; cases ho'
    exact ⟨_, es', ep', hL, r'⟩) hok I.bare
theorem Inv.call {g' : Array GenState} {t' : Nat} {d' : Drawn} {ch : List Addr} (I : Inv X pins σ H s) (u : Un (frs X.stack) ch H H' s.heap h') (hok : HOk X.prog X.w H' h') (hg : AllBare g')
    (hch : ∀ b ∈ ch, (b ∈ X.ex ∨ X.s₀.heap.objs.size ≤ b) ∧ b ≠ X.env.locals ∧ (∀ x c, X.env.cells.lookup x = some c → c ≠ b) ∧ ∀ p ∈ X.pn ++ pins, p.1 ≠ b) :
    Inv X pins σ H' { s with heap := h', gens := g', drawn := d', toks := t' } := by
  obtain ⟨m, ⟨o, es, ep, ho, r⟩, _⟩ := id I.loc
  obtain ⟨sl, hL⟩ := u.any ho I.free fun z => (hch _ z).2.1 rfl
  exact I.step (ch := ch) hch (fun b o hL hb hc e n => u.keep b o e n (fun z => (List.mem_cons.mp (I.stkSub b z)).elim hL hb) hc) (fun b o _ _ hc e n => u.any e n hc) (fun b o hc e n => u.free b o e n hc) (fun b o hc e => u.there b o e hc) u.tups u.frzs u.tbls (fun m' hm => by
    obtain ⟨o', es', ep', ho', r'⟩ := hm
    rw [ho] at ho'; cases ho'
    exact ⟨_, es', ep', hL, r'⟩) hok hg
theorem Inv.turned {t' : Nat} {it : Addr} (I : Inv X pins σ H s) (k : ∀ b o, b ≠ it → s.heap.get? b = some o → h'.get? b = some o) (hn : H it = none) (hL : it ≠ X.env.locals)
    (h1 : it ∈ X.ex ∨ X.s₀.heap.objs.size ≤ it) (h2 : ∀ x c, X.env.cells.lookup x = some c → c ≠ it) (h3 : ∀ p ∈ X.pn ++ pins, p.1 ≠ it) : Inv X pins σ H { s with heap := h', toks := t' } := by
  have nit : ∀ b u, H b = some u → b ≠ it := fun b u e z => by rw [z, hn] at e; cases e
  refine I.step (g' := s.gens) (d' := s.drawn) (ch := [it]) (fun b hb => ?_) (fun b o _ _ hc e _ => k b o (fun z => hc (by simp [z])) e) (fun b o _ _ hc e _ => ⟨o.slots, k b o (fun z => hc (by simp [z])) e⟩) (fun _ _ _ _ n => n)
    (fun b o hc e => ⟨o, k b o (fun z => hc (by simp [z])) e⟩) (fun _ _ e => e) (fun _ _ _ e => e) (fun b ps e => ⟨#[], by rw [e]; simp⟩) (fun m hm => ?_) (fun b u e => ?_) I.bare
  · have e : b = it := by simpa using hb
    subst e
    exact ⟨h1, hL, h2, h3⟩
  · obtain ⟨o, es, ep, ho, r⟩ := hm
    exact ⟨o, es, ep, k _ o (Ne.symm hL) ho, r⟩
  · refine (I.hok b u e).stay (fun c v hc q => k c v ?_ q) (fun _ q => q) fun _ _ q => q
    rcases hc with z | z
    · rw [z]; exact nit b u e
    · exact nit c _ z
theorem Inv.tok (I : Inv X pins σ H s) (t : Nat) : Inv X pins σ H { s with toks := t } := I.un (h' := s.heap) (t' := t) Un.refl I.hok
theorem Inv.kept {t' : Nat} (I : Inv X pins σ H s) (k : ∀ b u, s.heap.get? b = some u → h'.get? b = some u) : Inv X pins σ H { s with heap := h', toks := t' } := I.un (Un.kept k) (I.hok.kept k)
theorem Inv.laid {a : Addr} {o : HO} {t' : Nat} (I : Inv X pins σ H s) (k : ∀ b u, s.heap.get? b = some u → h'.get? b = some u) (hp : s.heap.objs.size ≤ a) (new : ObjOk X.prog X.w (upd H a o) h' a o) :
    Inv X pins σ (upd H a o) { s with heap := h', toks := t' } := I.un (Un.laid k hp (I.hok.fresh hp)) (I.hok.laid k hp new)
theorem Inv.write {x e : Addr} {o : HO} {t' : Nat} (I : Inv X pins σ H s) (mu : Mut (H x)) (he : e = x ∨ H e = some (.own x)) (k : ∀ b u, b ≠ e → s.heap.get? b = some u → h'.get? b = some u) (heo : ∃ u, h'.get? e = some u)
    (new : ObjOk X.prog X.w (upd H x o) h' x o) : Inv X pins σ (upd H x o) { s with heap := h', toks := t' } := I.un (Un.write mu he k heo) (I.hok.write mu he k heo new)
theorem Inv.weak {σ' : List (Option V)} (I : Inv X pins σ H s) (hl : σ'.length = σ.length) (w : ∀ (i : Nat) v, σ'[i]? = some (some v) → σ[i]? = some (some v)) : Inv X pins σ' H s :=
  ⟨I.ok, I.os, I.bare, I.base, let ⟨m, hn, hl'⟩ := I.loc; ⟨m, hn, fun i x v e1 e2 e3 => hl' i x v e1 (w i v e2) e3⟩, I.cell, I.free, I.freeC, I.pin, I.hok, hl.trans I.len⟩
theorem Inv.pins_of {pins' : List (Addr × Obj)} (I : Inv X pins σ H s) (h : ∀ p ∈ pins', s.heap.get? p.1 = some p.2 ∧ H p.1 = none ∧ p.1 ≠ X.env.locals ∧ p.1 ∉ X.fs ∧ ∀ v, p.2.data ≠ .cell v) : Inv X pins' σ H s :=
  ⟨I.ok, I.os, I.bare, I.base, I.loc, I.cell, I.free, I.freeC, fun p hp => (List.mem_append.mp hp).elim (fun z => I.pin p (List.mem_append_left _ z)) (h p), I.hok, I.len⟩
theorem nodup_ix {N : List Str} (hN : N.Nodup) {i j : Nat} {x : Str} (a : N[i]? = some x) (b : N[j]? = some x) : i = j := by
  obtain ⟨h1, e1⟩ := List.getElem?_eq_some_iff.mp a
  obtain ⟨h2, e2⟩ := List.getElem?_eq_some_iff.mp b
  exact (List.getElem_inj hN).mp (e1.trans e2.symm)
theorem store_ok2 {M : Model} {A : Around} {E : Value → Shared → Prop} {i : Nat} {x : Str} {v : V} {u : Value} {Q : Unit → Shared → Prop} (I : Inv X pins σ H s) (hN : X.N.Nodup) (hi : X.N[i]? = some x) (hx : Loc X.env.scope x) (r : RelV v u)
    (h : ∀ s', Inv X pins (σ.set i (some v)) H s' → (∃ a, Heap.SameBut a s.heap s'.heap ∧ (a = X.env.locals ∨ X.env.cells.lookup x = some a)) → Q () s') (hf : X.fn x = true ∨ X.env.scope.names.lookup x = some .local := by first | exact .inl rfl | exact .inr rfl | assumption) : wpAny M A (storeName X.env x u) Q E s := by
  obtain ⟨m, hn, hl⟩ := id I.loc
  have hcls : (X.env.scope.kind == .class || (X.env.scope.kind == .module && X.env.locals != X.env.globals)) = false := by rw [I.ok.kind]; rfl
  have hiσ : i < σ.length := by rw [I.len]; exact (List.getElem?_eq_some_iff.mp hi).1
  have cne := I.cne
  have tracked : ∀ {a : Addr} {h' : Heap}, (∃ o, s.heap.get? a = some o ∧ H a = none) → Heap.SameBut a s.heap h' → HOk X.prog X.w H h' := fun {a h'} ha hs b ob e => by
    obtain ⟨_, _, hfree⟩ := ha
    refine (I.hok b ob e).stay (fun c w' hc q => (hs.2 c ?_).trans q) (fun _ q => q) fun _ _ q => q
    rintro rfl
    rcases hc with rfl | hc
    · rw [hfree] at e; cases e
    · rw [hfree] at hc; cases hc
  rcases hx with hk | hk
  · refine wpAny_storeName_local hk hn (fun h' hn' hs => ?_) hcls
    obtain ⟨oL, _, _, hoL, _⟩ := id hn
    refine h _ ⟨I.ok, I.os, I.bare, ⟨fun b o e n hb hx => ?_, fun b o e n hb hx => ?_, I.base.free, fun b o e hx => ?_, I.base.tups, I.base.frzs, I.base.tbls⟩, ⟨_, hn', fun j y v' e1 e2 e3 => ?_⟩, fun y c e => ?_, I.free, I.freeC, fun p hp => ?_, tracked ⟨oL, hoL, I.free⟩ hs, by simpa using I.len⟩ ⟨_, hs, .inl rfl⟩
    · exact (hs.2 b (Nat.ne_of_lt (Nat.lt_of_lt_of_le (Heap.lt_size e) I.ok.above))).trans (I.base.keep b o e n hb hx)
    · obtain ⟨sl, e1⟩ := I.base.slot b o e n hb hx
      exact ⟨sl, (hs.2 b (Nat.ne_of_lt (Nat.lt_of_lt_of_le (Heap.lt_size e) I.ok.above))).trans e1⟩
    · obtain ⟨o', e1⟩ := I.base.there b o e hx
      exact ⟨o', (hs.2 b (Nat.ne_of_lt (Nat.lt_of_lt_of_le (Heap.lt_size e) I.ok.above))).trans e1⟩
    · by_cases hj : j = i
      · subst hj
        rw [hi] at e1; cases e1
        rw [List.getElem?_set_self hiσ] at e2
        cases e2
        exact ⟨u, r, .inl ⟨hk, by simp⟩⟩
      · rw [List.getElem?_set_ne (Ne.symm hj)] at e2
        obtain ⟨u', r', q⟩ := hl j y v' e1 e2 e3
        refine ⟨u', r', ?_⟩
        rcases q with ⟨k, e⟩ | ⟨k, c, e, z⟩
        · refine .inl ⟨k, ?_⟩
          have : y ≠ x := fun e => hj (nodup_ix hN e1 (e ▸ hi))
          simp [this, e]
        · exact .inr ⟨k, c, e, z.sameBut hs (cne y c e)⟩
    · obtain ⟨w', z⟩ := I.cell y c e
      exact ⟨w', z.sameBut hs (cne y c e)⟩
    · obtain ⟨e, n, ne, nf, d⟩ := I.pin p hp
      exact ⟨(hs.2 p.1 ne).trans e, n, ne, nf, d⟩
  · have hfn : X.fn x = true := by
      rcases hf with z | z
      · exact z
      · rw [z] at hk; cases hk
    obtain ⟨c, hc⟩ := I.ok.has x (.inl hk)
    obtain ⟨w', z⟩ := I.cell x c hc
    refine wpAny_storeName_cell I.ok.kind hk hc z (fun h' hc' hs => ?_)
    obtain ⟨oc, hoc, hocd⟩ := id z
    refine h { s with heap := h' } ⟨I.ok, I.os, I.bare, ⟨fun b o e n hb hx => ?_, fun b o e n hb hx => ?_, I.base.free, fun b o e hx => ?_, I.base.tups, I.base.frzs, I.base.tbls⟩, ⟨m, hn.sameBut hs (Ne.symm (cne x c hc)), fun j y v' e1 e2 e3 => ?_⟩, fun y c' e => ?_, I.free, I.freeC, fun p hp => ?_, tracked ⟨oc, hoc, I.freeC x c hc⟩ hs, by simpa using I.len⟩ ⟨c, hs, .inr hc⟩
    · exact (hs.2 b (Nat.ne_of_lt (Nat.lt_of_lt_of_le (Heap.lt_size e) (I.ok.cab x c hfn hc)))).trans (I.base.keep b o e n hb hx)
    · obtain ⟨sl, e1⟩ := I.base.slot b o e n hb hx
      exact ⟨sl, (hs.2 b (Nat.ne_of_lt (Nat.lt_of_lt_of_le (Heap.lt_size e) (I.ok.cab x c hfn hc)))).trans e1⟩
    · obtain ⟨o', e1⟩ := I.base.there b o e hx
      exact ⟨o', (hs.2 b (Nat.ne_of_lt (Nat.lt_of_lt_of_le (Heap.lt_size e) (I.ok.cab x c hfn hc)))).trans e1⟩
    · by_cases hj : j = i
      · subst hj
        rw [hi] at e1; cases e1
        rw [List.getElem?_set_self hiσ] at e2
        cases e2
        exact ⟨u, r, .inr ⟨.inl hk, c, hc, hc'⟩⟩
      · rw [List.getElem?_set_ne (Ne.symm hj)] at e2
        obtain ⟨u', r', q⟩ := hl j y v' e1 e2 e3
        refine ⟨u', r', ?_⟩
        rcases q with q | ⟨k, c', e, z'⟩
        · exact .inl q
        · refine .inr ⟨k, c', e, z'.sameBut hs ?_⟩
          rintro rfl
          exact hj (nodup_ix hN e1 (I.ok.inj _ _ _ e hc ▸ hi))
    · by_cases hcc : c' = c
      · subst hcc; exact ⟨_, hc'⟩
      · obtain ⟨w2, z2⟩ := I.cell y c' e
        exact ⟨w2, z2.sameBut hs hcc⟩
    · obtain ⟨e, n, ne, nf, d⟩ := I.pin p hp
      refine ⟨(hs.2 p.1 ?_).trans e, n, ne, nf, d⟩
      intro q
      rw [q, hoc] at e
      have q' : oc = p.2 := Option.some.inj e
      exact d w' (by rw [← q']; exact hocd)
theorem store_ok {M : Model} {A : Around} {E : Value → Shared → Prop} {i : Nat} {x : Str} {v : V} {u : Value} {Q : Unit → Shared → Prop} (I : Inv X pins σ H s) (hN : X.N.Nodup) (hi : X.N[i]? = some x) (hx : Loc X.env.scope x) (r : RelV v u)
    (h : ∀ s', Inv X pins (σ.set i (some v)) H s' → Q () s') (hf : X.fn x = true ∨ X.env.scope.names.lookup x = some .local := by first | exact .inl rfl | exact .inr rfl | assumption) : wpAny M A (storeName X.env x u) Q E s :=
  store_ok2 I hN hi hx r (fun s' I' _ => h s' I') hf
theorem Inv.call' {s' : Shared} {ch : List Addr} (I : Inv X pins σ H s) (ho : s'.os = s.os) (u : Un (frs X.stack) ch H H' s.heap s'.heap) (hok : HOk X.prog X.w H' s'.heap) (hg : AllBare s'.gens)
    (hch : ∀ b ∈ ch, (b ∈ X.ex ∨ X.s₀.heap.objs.size ≤ b) ∧ b ≠ X.env.locals ∧ (∀ x c, X.env.cells.lookup x = some c → c ≠ b) ∧ ∀ p ∈ X.pn ++ pins, p.1 ≠ b) : Inv X pins σ H' s' := by
  obtain ⟨h', g', d', t', o'⟩ := s'
  have e : o' = s.os := ho
  subst e
  exact I.call (g' := g') (t' := t') (d' := d') u hok hg hch
end
abbrev XK := Value → Option Addr → Hp → Prop
abbrev St := List (Option V)
abbrev VK := V → Hp → Prop
abbrev TE := St → Hp → VK → Prop
abbrev TT := St → Hp → (Bool → Hp → Prop) → Prop
abbrev TA := St → Hp → (List V → Hp → Prop) → Prop
structure Ends where
  nx : St → Hp → Prop
  rt : VK
  bk : St → Hp → Prop := fun _ _ => False
  ct : St → Hp → Prop := fun _ _ => False
abbrev TS := Ends → St → Hp → Prop
def EP (X : Cx) (pins : List (Addr × Obj)) (σ : St) (Q : VK) (u : Value) (s' : Shared) : Prop := ∃ v H', Inv X pins σ H' s' ∧ RelV v u ∧ Q v H'
def TP (X : Cx) (pins : List (Addr × Obj)) (σ : St) (Q : Bool → Hp → Prop) (b : Bool) (s' : Shared) : Prop := ∃ H', Inv X pins σ H' s' ∧ Q b H'
def AP (X : Cx) (pins : List (Addr × Obj)) (σ : St) (Q : List V → Hp → Prop) (us : List Value) (s' : Shared) : Prop := ∃ vs H', Inv X pins σ H' s' ∧ Vals vs us ∧ Q vs H'
def SP (X : Cx) (pins : List (Addr × Obj)) (D : Ends) (f : Flow) (s' : Shared) : Prop :=
  match f with
  | .next => ∃ σ' H', Inv X pins σ' H' s' ∧ D.nx σ' H'
  | .brk => ∃ σ' H', Inv X pins σ' H' s' ∧ D.bk σ' H'
  | .cont => ∃ σ' H', Inv X pins σ' H' s' ∧ D.ct σ' H'
  | .ret u => ∃ v σ' H', Inv X pins σ' H' s' ∧ RelV v u ∧ D.rt v H'
def PE (X : Cx) (e : Expr) (t : TE) : Prop :=
  ∀ (pins : List (Addr × Obj)) (s : Shared) (σ : St) (H : Hp) (Q : VK), Inv X pins σ H s → t σ H Q → wpAny (model X.prog X.w) X.A (eval e X.env) (EP X pins σ Q) X.xe s
def PT (X : Cx) (e : Expr) (t : TT) : Prop :=
  ∀ (pins : List (Addr × Obj)) (s : Shared) (σ : St) (H : Hp) (Q : Bool → Hp → Prop), Inv X pins σ H s → t σ H Q → wpAny (model X.prog X.w) X.A (isTrue e X.env (eval e X.env)) (TP X pins σ Q) X.xe s
def PW (X : Cx) (e : Expr) (t : TT) : Prop :=
  ∀ (whole : Sem Value) (pins : List (Addr × Obj)) (s : Shared) (σ : St) (H : Hp) (Q : Bool → Hp → Prop), Inv X pins σ H s → t σ H Q → wpAny (model X.prog X.w) X.A (isTrue e X.env whole) (TP X pins σ Q) X.xe s
theorem PW.pt {X : Cx} {e : Expr} {t : TT} (h : PW X e t) : PT X e t := h _
def PA (X : Cx) (es : List Expr) (t : TA) : Prop :=
  ∀ (pos : Pos) (pins : List (Addr × Obj)) (s : Shared) (σ : St) (H : Hp) (Q : List V → Hp → Prop), Inv X pins σ H s → t σ H Q → wpAny (model X.prog X.w) X.A (spliced (backTo pos (starEach es X.env))) (AP X pins σ Q) X.xe s
def PS (X : Cx) (st : Stmt) (t : TS) : Prop :=
  ∀ (pins : List (Addr × Obj)) (s : Shared) (σ : St) (H : Hp) (D : Ends), Inv X pins σ H s → t D σ H → wpAny (model X.prog X.w) X.A (exec st X.env) (SP X pins D) X.xe s
def PSs (X : Cx) (st : List Stmt) (t : TS) : Prop :=
  ∀ (pins : List (Addr × Obj)) (s : Shared) (σ : St) (H : Hp) (D : Ends), Inv X pins σ H s → t D σ H → wpAny (model X.prog X.w) X.A (execs st X.env) (SP X pins D) X.xe s
theorem thn {α : Type} {t : Sem α} {Q Q' : α → Shared → Prop} {M : Model} {A : Around} {E : Value → Shared → Prop} {s : Shared} (h : wpAny M A t Q E s) (hQ : ∀ a s, Q a s → Q' a s) : wpAny M A t Q' E s := wpAny_mono h hQ fun _ _ x => x
end L2
namespace L2
open PySem PySem.Spec PyProof.Rows
section
variable {X : Cx}
theorem bin {a b : Expr} {ta tb : TE} (ha : PE X a ta) (hb : PE X b tb) {pins : List (Addr × Obj)} {s : Shared} {σ : St} {H : Hp} {R : V → V → Hp → Prop} (I : Inv X pins σ H s) (h : ta σ H fun x H1 => tb σ H1 fun y H2 => R x y H2)
    {α : Type} {Q : α → Shared → Prop} {f : Value → Value → Sem α}
    (hf : ∀ v u s2 x y H2, Inv X pins σ H2 s2 → RelV x v → RelV y u → R x y H2 → wpAny (model X.prog X.w) X.A (f v u) Q X.xe s2) :
    wpAny (model X.prog X.w) X.A (eval a X.env) (fun v s₁ => wpAny (model X.prog X.w) X.A (eval b X.env) (fun u s₂ => wpAny (model X.prog X.w) X.A (f v u) Q X.xe s₂) X.xe s₁) X.xe s := by
  refine thn (ha pins s σ H _ I h) fun v s1 ⟨x, H1, I1, r1, q1⟩ => ?_
  refine thn (hb pins s1 σ H1 _ I1 q1) fun u s2 ⟨y, H2, I2, r2, q2⟩ => ?_
  exact hf v u s2 x y H2 I2 r1 r2 q2
def tVar (i : Nat) : TE := fun σ H Q => ∃ v, σ[i]? = some (some v) ∧ Q v H
def tC (v : V) : TE := fun _ H Q => Q v H
theorem pe_var {i : Nat} {x : Str} {pos : Pos} (hN : X.N[i]? = some x) (hv : Vis X.env.scope x) (hd : (x == ("__debug__" : Str)) = false := by decide) (hcd : (x == ("__classdict__" : Str)) = false := by decide) : PE X (.Name x pos) (tVar i) := by
  intro pins s σ H Q I h
  obtain ⟨v, e, h⟩ := h
  obtain ⟨m, hn, hl⟩ := I.loc
  obtain ⟨u, r, l⟩ := hl i x v hN e hv
  have fin : EP X pins σ Q u s := ⟨v, H, I, r, h⟩
  rcases l with ⟨hk, hm⟩ | ⟨hk, c, hc, hcell⟩
  · exact wpAny_Name (wpAny_loadName_local I.ok.kind hk hn hm fin) hd
  · rcases hk with hk | hk
    · exact wpAny_Name (wpAny_loadName_cell I.ok.kind hk hc hcell fin) hd
    · exact wpAny_Name (wpAny_loadName_free I.ok.kind hk hc hcell fin hcd) hd
theorem pe_int {i j pos} : PE X (.Constant (.int i) j pos) (tC (.int i)) := fun _ _ _ H _ I h => wpAny_Constant_int ⟨.int i, H, I.tok _, ⟨_, rfl⟩, h⟩
theorem pe_bl {b j pos} : PE X (.Constant (.bool b) j pos) (tC (.bl b)) := fun _ _ _ H _ I h => Constant_bool ⟨.bl b, H, I, rfl, h⟩
theorem pe_non {j pos} : PE X (.Constant .none j pos) (tC .non) := fun _ _ _ H _ I h => Constant_none ⟨.non, H, I, rfl, h⟩
def Gl (X : Cx) (x : Str) : Prop := X.env.kindOf x = some .globalImplicit
theorem ld_glob {E : Value → Shared → Prop} {pins : List (Addr × Obj)} {s : Shared} {σ : St} {H : Hp} {x : Str} {u : Value} {pos : Pos} {Q : Value → Shared → Prop} (I : Inv X pins σ H s) (hg : Gl X x) (hm : X.mg x = some u) (h : Q u s)
    (hd : (x == ("__debug__" : Str)) = false := by decide) : wpAny (model X.prog X.w) X.A (eval (.Name x pos) X.env) Q E s :=
  Calls.Name_function_global I.ok.kind hg (Calls.loadGlobal_global (by rw [I.ok.glob]; exact I.mod.glob.keeps I.bk) hm h) hd
theorem ld_blt {E : Value → Shared → Prop} {pins : List (Addr × Obj)} {s : Shared} {σ : St} {H : Hp} {x : Str} {u : Value} {pos : Pos} {Q : Value → Shared → Prop} (I : Inv X pins σ H s) (hg : Gl X x) (hm : X.mg x = none) (hv : bootBuiltins x = some u) (h : Q u s)
    (hn : x ≠ "__name__" := by decide) (hd : (x == ("__debug__" : Str)) = false := by decide) : wpAny (model X.prog X.w) X.A (eval (.Name x pos) X.env) Q E s := by
  obtain ⟨mb, h1, h2⟩ := I.mod.blt
  exact Calls.Name_function_global I.ok.kind hg (Calls.loadGlobal_builtin (by rw [I.ok.glob]; exact I.mod.glob.keeps I.bk) hm (by rw [I.ok.blt]; exact h1.keeps I.bk) ((h2 x hn).trans hv) h) hd
theorem pe_glob {x : Str} {v : V} {u : Value} {pos : Pos} (hg : Gl X x) (hm : X.mg x = some u) (r : RelV v u) (hd : (x == ("__debug__" : Str)) = false := by decide) : PE X (.Name x pos) (tC v) :=
  fun _ _ _ H _ I h => ld_glob I hg hm ⟨v, H, I, r, h⟩ hd
variable {a b : Expr} {ta tb : TE} {pos : Pos}
def PC (X : Cx) (op : CmpOp) (a b : Expr) (t : TE) : Prop :=
  ∀ (pins : List (Addr × Obj)) (s : Shared) (σ : St) (H : Hp) (Q : VK), Inv X pins σ H s → t σ H Q →
    wpAny (model X.prog X.w) X.A (eval a X.env) (fun v s₁ => wpAny (model X.prog X.w) X.A (eval b X.env) (fun u s₂ => wpAny (model X.prog X.w) X.A (compareOp op v u) (EP X pins σ Q) X.xe s₂) X.xe s₁) X.xe s
def tB (t : TE) : TT := fun σ H Q => t σ H fun x H1 => ∃ c, x = .bl c ∧ Q c H1
theorem pe_cmp {op : CmpOp} {t : TE} (h : PC X op a b t) (h1 : behindInMarks op b = false := by first | exact nobehind _ (by decide) (by decide) | rfl) : PE X (.Compare a [op] [b] pos) t := fun pins s σ H Q I hw => wpAny_Compare1 (h pins s σ H Q I hw) h1
theorem pt_cmp {op : CmpOp} {t : TE} (h : PC X op a b t) (h1 : behindInMarks op b = false := by first | exact nobehind _ (by decide) (by decide) | rfl) : PT X (.Compare a [op] [b] pos) (tB t) := by
  intro pins s σ H Q I hw
  refine wpAny_isTrue_Compare1 (thn (h pins s σ H _ I hw) fun v s1 h1 => thn h1 fun u s2 h2 => thn h2 fun c s3 ⟨x, H1, I1, r1, q1⟩ => ?_) h1
  obtain ⟨d, rfl, q⟩ := q1
  cases r1
  exact wpAny_truthy_bool ⟨H1, I1, q⟩
theorem pt_val {e : Expr} {t : TE} (h : PE X e t) (he : ∀ whole, isTrue e X.env whole = (do let v ← whole; standAt e.pos; holding [v] (truthy v)) := by intro _; rfl) : PT X e (tB t) := by
  intro pins s σ H Q I hw
  refine isTrue_plain (thn (h pins s σ H _ I hw) fun v s1 ⟨x, H1, I1, r1, q1⟩ => ?_) (he _)
  obtain ⟨d, rfl, q⟩ := q1
  cases r1
  exact wpAny_truthy_bool ⟨H1, I1, q⟩
variable {tA tB' : TT} {rest : List Expr}
def tAnd (t u : TT) : TT := fun σ H Q => t σ H fun c H1 => if c = true then u σ H1 Q else Q false H1
def tOr (t u : TT) : TT := fun σ H Q => t σ H fun c H1 => if c = true then Q true H1 else u σ H1 Q
def tNot (t : TT) : TT := fun σ H Q => t σ H fun c H1 => Q (!c) H1
theorem pw_and1 (ha : PT X a tA) : PW X (.BoolOp .And [a] pos) tA := by
  intro wh pins s σ H Q I h
  refine isTrue_and (thn (ha pins s σ H Q I h) fun c s1 e => ?_)
  cases c with
  | true => exact isTrue_and_nil e
  | false => exact e
theorem pw_or1 (ha : PT X a tA) : PW X (.BoolOp .Or [a] pos) tA := by
  intro wh pins s σ H Q I h
  refine isTrue_or (thn (ha pins s σ H Q I h) fun c s1 e => ?_)
  cases c with
  | false => exact isTrue_or_nil e
  | true => exact e
theorem pw_and (ha : PT X a tA) (hb : PW X (.BoolOp .And (b :: rest) pos) tB') : PW X (.BoolOp .And (a :: b :: rest) pos) (tAnd tA tB') := by
  intro wh pins s σ H Q I h
  refine isTrue_and (thn (ha pins s σ H _ I h) fun c s1 ⟨H1, I1, q1⟩ => ?_)
  cases c with
  | true => exact hb wh pins s1 σ H1 Q I1 q1
  | false => exact ⟨H1, I1, q1⟩
theorem pw_or (ha : PT X a tA) (hb : PW X (.BoolOp .Or (b :: rest) pos) tB') : PW X (.BoolOp .Or (a :: b :: rest) pos) (tOr tA tB') := by
  intro wh pins s σ H Q I h
  refine isTrue_or (thn (ha pins s σ H _ I h) fun c s1 ⟨H1, I1, q1⟩ => ?_)
  cases c with
  | true => exact ⟨H1, I1, q1⟩
  | false => exact hb wh pins s1 σ H1 Q I1 q1
theorem pt_not (ha : PT X a tA) : PT X (.UnaryOp .Not a pos) (tNot tA) := by
  intro pins s σ H Q I h
  exact isTrue_not (ha pins s σ H (fun c H1 => Q (!c) H1) I h)
def tAndV (ta tb : TE) : TE := fun σ H Q => ta σ H fun x H1 => ∃ c, x = .bl c ∧ if c = true then tb σ H1 Q else Q (.bl false) H1
def tOrV (ta tb : TE) : TE := fun σ H Q => ta σ H fun x H1 => ∃ c, x = .bl c ∧ if c = true then Q (.bl true) H1 else tb σ H1 Q
def tNotV (ta : TE) : TE := fun σ H Q => ta σ H fun x H1 => ∃ c, x = .bl c ∧ Q (.bl (!c)) H1
theorem pe_one {op} {t : TE} (h : PE X a t) : PE X (.BoolOp op [a] pos) t := fun pins s σ H Q I hw => BoolOp_one (h pins s σ H Q I hw)
theorem pe_and (ha : PE X a ta) (hb : PE X (.BoolOp .And (b :: rest) pos) tb) : PE X (.BoolOp .And (a :: b :: rest) pos) (tAndV ta tb) := by
  intro pins s σ H Q I h
  refine BoolOp_and (thn (ha pins s σ H _ I h) fun v s1 ⟨x, H1, I1, r1, q1⟩ => ?_)
  obtain ⟨c, rfl, q1⟩ := q1
  cases r1
  refine wpAny_truthy_bool ?_
  cases c with
  | true => exact hb pins s1 σ H1 Q I1 q1
  | false => exact ⟨.bl false, H1, I1, rfl, q1⟩
theorem pe_or (ha : PE X a ta) (hb : PE X (.BoolOp .Or (b :: rest) pos) tb) : PE X (.BoolOp .Or (a :: b :: rest) pos) (tOrV ta tb) := by
  intro pins s σ H Q I h
  refine BoolOp_or (thn (ha pins s σ H _ I h) fun v s1 ⟨x, H1, I1, r1, q1⟩ => ?_)
  obtain ⟨c, rfl, q1⟩ := q1
  cases r1
  refine wpAny_truthy_bool ?_
  cases c with
  | false => exact hb pins s1 σ H1 Q I1 q1
  | true => exact ⟨.bl true, H1, I1, rfl, q1⟩
def tIf (t : TT) (ta tb : TE) : TE := fun σ H Q => t σ H fun c H1 => if c = true then ta σ H1 Q else tb σ H1 Q
theorem pe_ifExp {c : Expr} (hc : PT X c tA) (ha : PE X a ta) (hb : PE X b tb) : PE X (.IfExp c a b pos) (tIf tA ta tb) := by
  intro pins s σ H Q I h
  refine wpAny_IfExp (thn (hc pins s σ H _ I h) fun d s1 ⟨H1, I1, q1⟩ => ?_)
  cases d with
  | true => exact ha pins s1 σ H1 Q I1 q1
  | false => exact hb pins s1 σ H1 Q I1 q1
end
end L2
namespace L2
open PySem PySem.Spec PyProof.Rows
def SqL (K : PySem.W.Frag) (H : Hp) (a : Addr) (xs : List V) : Prop :=
  Rd H a (.lst xs) ∨
    ∃ (o : Obj) (its : Array Value) (n : Nat), K.lookup a = some o ∧ o.cls = .type "list" ∧ o.dict = none ∧ o.data = .seq its n ∧ its.size ≤ sizeLine ∧ Vals xs its.toList
def SqT (K : PySem.W.Frag) (H : Hp) (a : Addr) (xs : List V) : Prop :=
  Rd H a (.tup xs) ∨
    ∃ (o : Obj) (its : Array Value) (n : Nat), K.lookup a = some o ∧ o.cls = .type "tuple" ∧ o.data = .seq its n ∧ its.size ≤ sizeLine ∧ Vals xs its.toList
def absV : Value → Option V
  | .none => some .non
  | .bool b => some (.bl b)
  | .int i _ => some (.int i)
  | .str x _ => some (.str x)
  | .bytes b _ => some (.byt b)
  | .float b _ => some (.flt b)
  | .ref a => some (.ref a)
  | .type n => some (.ty n)
  | _ => none
theorem RelV.abs {x : V} {u : Value} (r : RelV x u) : absV u = some x := by
  cases x with
  | non => cases r; rfl
  | bl _ => cases r; rfl
  | int _ => obtain ⟨t, rfl⟩ := r; rfl
  | str _ => obtain ⟨t, rfl⟩ := r; rfl
  | byt _ => obtain ⟨t, rfl⟩ := r; rfl
  | flt _ => obtain ⟨t, rfl⟩ := r; rfl
  | ref _ => cases r; rfl
  | ty _ => cases r; rfl
theorem RelV.inj {x y : V} {u : Value} (r : RelV x u) (q : RelV y u) : x = y := Option.some.inj (r.abs.symm.trans q.abs)
theorem Vals.inj : ∀ {xs ys : List V} {us : List Value}, Vals xs us → Vals ys us → xs = ys
  | _, _, _, .nil, .nil => rfl
  | _, _, _, .cons r t, .cons r' t' => by rw [r.inj r', Vals.inj t t']
section
variable {X : Cx} {pins : List (Addr × Obj)} {σ : St} {H : Hp} {s : Shared} {a : Addr} {xs ys : List V}
theorem SqL.of {K : PySem.W.Frag} (h : H a = some (.lst xs)) : SqL K H a xs := .inl (.inl h)
theorem SqT.of {K : PySem.W.Frag} (h : H a = some (.tup xs)) : SqT K H a xs := .inl (.inl h)
theorem Inv.list (I : Inv X pins σ H s) (h : SqL X.K H a xs) : ∃ its : List Value, Vals xs its ∧ PlainL s.heap a its.toArray ∧ xs.length ≤ sizeLine := by
  rcases h with h | ⟨o, its, n, hk, hc, hd, hs, hz, r⟩
  · obtain ⟨z, its, n, r, e⟩ := h.ok I.hok
    exact ⟨its, r, ⟨_, n, e, rfl, rfl, rfl⟩, z⟩
  · refine ⟨its.toList, r, ⟨o, n, I.kIn a o hk, hc, hd, by simpa using hs⟩, ?_⟩
    have e := r.length
    simp only [Array.length_toList] at e
    omega
theorem Inv.tuple (I : Inv X pins σ H s) (h : SqT X.K H a xs) : ∃ its : List Value, Vals xs its ∧ IsTup s.heap a its.toArray ∧ xs.length ≤ sizeLine := by
  rcases h with h | ⟨o, its, n, hk, hc, hs, hz, r⟩
  · obtain ⟨z, its, r, p⟩ := h.ok I.hok
    exact ⟨its, r, p, z⟩
  · refine ⟨its.toList, r, ⟨o, I.kIn a o hk, hc, n, by simpa using hs⟩, ?_⟩
    have e := r.length
    simp only [Array.length_toList] at e
    omega
theorem Inv.list_inj (I : Inv X pins σ H s) (h : SqL X.K H a xs) (h' : SqL X.K H a ys) : xs = ys := by
  obtain ⟨its, r, ⟨o, n, e, _, _, d⟩, _⟩ := I.list h
  obtain ⟨its', r', ⟨o', n', e', _, _, d'⟩, _⟩ := I.list h'
  rw [e] at e'; cases e'
  rw [d] at d'
  injection d' with d1 _
  have : its = its' := by simpa using congrArg Array.toList d1
  subst this
  exact r.inj r'
end
abbrev Cx.wish (X : Cx) (E : Value → Shared → Prop) : Cx := { X with xe := E }
abbrev Cx.nox (X : Cx) : Cx := X.wish fun _ _ => False
theorem Cx.Ok.wish {X : Cx} (ok : X.Ok) (E : Value → Shared → Prop) : (X.wish E).Ok :=
  ⟨ok.mod, ok.kind, ok.glob, ok.blt, ok.above, ok.inj, ok.has, ok.cab, ok.hd, ok.frames, ok.stk, ok.exf, ok.bs, ok.bsz, ok.noex, ok.exfs, ok.funs, ok.frf⟩
theorem Cx.Ok.unwish {X : Cx} {E : Value → Shared → Prop} (ok : (X.wish E).Ok) : X.Ok :=
  ⟨ok.mod, ok.kind, ok.glob, ok.blt, ok.above, ok.inj, ok.has, ok.cab, ok.hd, ok.frames, ok.stk, ok.exf, ok.bs, ok.bsz, ok.noex, ok.exfs, ok.funs, ok.frf⟩
section
variable {X : Cx} {pins : List (Addr × Obj)} {σ : St} {H : Hp} {s : Shared} {E : Value → Shared → Prop}
theorem Inv.wish (I : Inv X pins σ H s) (E : Value → Shared → Prop) : Inv (X.wish E) pins σ H s := ⟨I.ok.wish E, I.os, I.bare, I.base, I.loc, I.cell, I.free, I.freeC, I.pin, I.hok, I.len⟩
theorem Inv.unwish (I : Inv (X.wish E) pins σ H s) : Inv X pins σ H s := ⟨I.ok.unwish, I.os, I.bare, I.base, I.loc, I.cell, I.free, I.freeC, I.pin, I.hok, I.len⟩
theorem SP.unwish {D : Ends} {f : Flow} {s' : Shared} (h : SP (X.wish E) pins D f s') : SP X pins D f s' := by
  cases f with
  | next => obtain ⟨σ', H', I, q⟩ := h; exact ⟨σ', H', I.unwish, q⟩
  | brk => obtain ⟨σ', H', I, q⟩ := h; exact ⟨σ', H', I.unwish, q⟩
  | cont => obtain ⟨σ', H', I, q⟩ := h; exact ⟨σ', H', I.unwish, q⟩
  | ret u => obtain ⟨v, σ', H', I, r, q⟩ := h; exact ⟨v, σ', H', I.unwish, r, q⟩
theorem PSs.nox {st : List Stmt} {t : TS} (h : PSs X.nox st t) : PSs X st t := fun pins s σ H D I hw =>
  wpAny_mono (h pins s σ H D (I.wish _) hw) (fun _ _ q => q.unwish) fun _ _ z => False.elim z
end
section
variable {X : Cx} {st : Stmt} {rest : List Stmt} {t u : TS} {e : Expr} {te : TE} {pos : Pos}
def tNext : TS := fun D σ H => D.nx σ H
def tSeq (t u : TS) : TS := fun D σ H => t { D with nx := u D } σ H
theorem pss_nil : PSs X [] tNext := fun _ _ σ H _ I h => wpAny_execs_nil ⟨σ, H, I, h⟩
theorem pss_cons (h1 : PS X st t) (h2 : PSs X rest u) : PSs X (st :: rest) (tSeq t u) := by
  intro pins s σ H D I h
  refine wpAny_execs_cons (thn (h1 pins s σ H { D with nx := u D } I h) fun f s1 q => ?_)
  cases f with
  | next =>
    obtain ⟨σ', H', I', q⟩ := q
    exact h2 pins s1 σ' H' D I' q
  | ret v => exact q
  | brk => exact q
  | cont => exact q
theorem pss_one (h1 : PS X st t) : PSs X [st] t := by
  intro pins s σ H D I h
  refine wpAny_execs_cons (thn (h1 pins s σ H D I h) fun f s1 q => ?_)
  cases f with
  | next => exact wpAny_execs_nil q
  | ret v => exact q
  | brk => exact q
  | cont => exact q
theorem Inv.quiet {pins : List (Addr × Obj)} {σ : St} {H : Hp} {s : Shared} (I : Inv X pins σ H s) : interactive X.env = false := by simp [interactive, I.ok.kind]
def tDrop (te : TE) : TS := fun D σ H => te σ H fun _ H1 => D.nx σ H1
theorem ps_expr (he : PE X e te) (hs : swapsWith e none pos.line X.env = pure false := by rfl) : PS X (.Expr e pos) (tDrop te) := by
  intro pins s σ H D I h
  exact wpAny_Expr_any (thn (he pins s σ H _ I h) fun v s1 ⟨x, H1, I1, r1, q1⟩ => ⟨σ, H1, I1, q1⟩) I.quiet hs
def tRet (te : TE) : TS := fun D σ H => te σ H D.rt
theorem ps_ret (he : PE X e te) : PS X (.Return (some e) pos) (tRet te) := by
  intro pins s σ H D I h
  exact wpAny_Return_some (thn (he pins s σ H _ I h) fun v s1 ⟨x, H1, I1, r1, q1⟩ => ⟨x, σ, H1, I1, r1, q1⟩)
def tIfS (c : TT) (t u : TS) : TS := fun D σ H => c σ H fun b H1 => if b = true then t D σ H1 else u D σ H1
theorem ps_if {c : Expr} {a b : List Stmt} {tc : TT} (hc : PT X c tc) (ha : PSs X a t) (hb : PSs X b u) : PS X (.If c a b pos) (tIfS tc t u) := by
  intro pins s σ H D I h
  refine wpAny_If (thn (hc pins s σ H _ I h) fun d s1 ⟨H1, I1, q1⟩ => ?_)
  cases d with
  | true => exact ha pins s1 σ H1 D I1 q1
  | false => exact hb pins s1 σ H1 D I1 q1
end
abbrev TG := V → St → Hp → (St → Hp → Prop) → Prop
abbrev TGs := List V → St → Hp → (St → Hp → Prop) → Prop
def PG (X : Cx) (target : Expr) (t : TG) : Prop :=
  ∀ (pins : List (Addr × Obj)) (s : Shared) (σ : St) (H : Hp) (v : V) (u : Value) (Q : St → Hp → Prop), Inv X pins σ H s → RelV v u → t v σ H Q →
    wpAny (model X.prog X.w) X.A (assign target X.env u) (fun _ s' => ∃ σ' H', Inv X pins σ' H' s' ∧ Q σ' H') X.xe s
def PGs (X : Cx) (ts : List Expr) (t : TGs) : Prop :=
  ∀ (pins : List (Addr × Obj)) (s : Shared) (σ : St) (H : Hp) (vs : List V) (us : List Value) (Q : St → Hp → Prop), Inv X pins σ H s → Vals vs us → t vs σ H Q →
    wpAny (model X.prog X.w) X.A (assignInOrder ((assignEach ts X.env).map (·.2)) us) (fun _ s' => ∃ σ' H', Inv X pins σ' H' s' ∧ Q σ' H') X.xe s
abbrev TSet := V → V → V → Hp → (Hp → Prop) → Prop
def PSet (X : Cx) (t : TSet) : Prop :=
  ∀ (pins : List (Addr × Obj)) (s : Shared) (σ : St) (H : Hp) (o i v : V) (ov iv u : Value) (Q : Hp → Prop), Inv X pins σ H s → RelV o ov → RelV i iv → RelV v u → t o i v H Q →
    wpAny (model X.prog X.w) X.A (setItem ov iv u) (fun _ s' => ∃ H', Inv X pins σ H' s' ∧ Q H') X.xe s
abbrev TIp := V → V → Hp → VK → Prop
def PIp (X : Cx) (op : Operator) (t : TIp) : Prop :=
  ∀ (pins : List (Addr × Obj)) (s : Shared) (σ : St) (H : Hp) (x y : V) (v u : Value) (Q : VK), Inv X pins σ H s → RelV x v → RelV y u → t x y H Q →
    wpAny (model X.prog X.w) X.A (inplaceOp op v u) (EP X pins σ Q) X.xe s
section
variable {X : Cx} {pos : Pos}
def gName (i : Nat) : TG := fun v σ H Q => Q (σ.set i (some v)) H
theorem pg_name {i : Nat} {x : Str} (hN : X.N.Nodup) (hi : X.N[i]? = some x) (hx : Loc X.env.scope x) (hf : X.fn x = true ∨ X.env.scope.names.lookup x = some .local := by first | exact .inl rfl | exact .inr rfl | assumption) : PG X (.Name x pos) (gName i) := by
  intro pins s σ H v u Q I r h
  exact wpAny_assign_Name (store_ok I hN hi hx r (fun s' I' => ⟨_, H, I', h⟩) hf)
def gNil : TGs := fun vs σ H Q => vs = [] ∧ Q σ H
def gCons (t : TG) (u : TGs) : TGs := fun vs σ H Q => ∃ v r, vs = v :: r ∧ t v σ H fun σ' H' => u r σ' H' Q
theorem pgs_nil : PGs X [] gNil := by
  intro pins s σ H vs us Q I r h
  obtain ⟨e, h⟩ := h
  subst e
  cases r
  exact assignInOrder_nil ⟨σ, H, I, h⟩
theorem pgs_cons {e : Expr} {es : List Expr} {t : TG} {u : TGs} (h1 : PG X e t) (h2 : PGs X es u)
    (hs : (assignEach (e :: es) X.env).map (·.2) = assign e X.env :: (assignEach es X.env).map (·.2) := by rfl) : PGs X (e :: es) (gCons t u) := by
  intro pins s σ H vs us Q I r h
  obtain ⟨v, vr, e1, h⟩ := h
  subst e1
  cases r with
  | cons r rr =>
    rw [hs]
    refine assignInOrder_cons (thn (h1 pins s σ H _ _ _ I r h) fun _ s1 ⟨σ1, H1, I1, q1⟩ => ?_)
    exact h2 pins s1 σ1 H1 _ _ Q I1 rr q1
def gTup (K : PySem.W.Frag) (n : Nat) (t : TGs) : TG := fun v σ H Q => ∃ a xs, v = .ref a ∧ SqT K H a xs ∧ xs.length = n ∧ t xs σ H Q
theorem pg_tup {es : List Expr} {k : Nat} {t : TGs} {n : Nat} (hc : X.calm = true) (h : PGs X es t)
    (hn : (assignEach es X.env).length = n := by rfl) (hst : (assignEach es X.env).findIdx? (·.1) = none := by rfl) : PG X (.Tuple es k pos) (gTup X.K n t) := by
  intro pins s σ H v u Q I r hw
  obtain ⟨a, xs, e1, hq, hl, hw⟩ := hw
  subst e1
  cases r
  obtain ⟨its, rv, ht, hz⟩ := I.tuple hq
  refine assign_Tuple_tuple (I.ok.hd hc) ht (by simp [hn, ← hl, rv.length]) hst fun h' hx => ?_
  have I1 : Inv X pins σ H { s with heap := h' } := I.kept (t' := s.toks) fun b o e => hx b o (Nat.ne_of_lt (Heap.lt_size e)) e
  exact h pins _ σ H xs _ Q I1 (by simpa using rv) hw
def gSub (to ti : TE) (t : TSet) : TG := fun v σ H Q => to σ H fun o H1 => ti σ H1 fun i H2 => t o i v H2 fun H3 => Q σ H3
theorem pg_sub {o i : Expr} {to ti : TE} {t : TSet} (ho : PE X o to) (hi : PE X i ti) (hs : PSet X t)
    (ha : ∀ v, assign (.Subscript o i pos) X.env v = (do
      let ov ← holding [v] (eval o X.env)
      let iv ← holding [v, ov] (eval i X.env)
      standAt pos
      holding [v, ov, iv] (setItem ov iv v)
      release [v, ov, iv] []) := by intro _; rfl) : PG X (.Subscript o i pos) (gSub to ti t) := by
  intro pins s σ H v u Q I r h
  rw [ha]
  refine wpAny_bind (wpAny_holding (thn (ho pins s σ H _ I h) fun ov s1 ⟨x, H1, I1, r1, q1⟩ => ?_))
  refine wpAny_bind (wpAny_holding (thn (hi pins s1 σ H1 _ I1 q1) fun iv s2 ⟨y, H2, I2, r2, q2⟩ => ?_))
  refine wpAny_bind (wpAny_standAt (wpAny_bind (wpAny_holding (thn (hs pins s2 σ H2 x y v ov iv u _ I2 r1 r2 r q2) fun _ s3 ⟨H3, I3, q3⟩ => ?_))))
  exact wpAny_release ⟨σ, H3, I3, q3⟩
def tAsg (te : TE) (g : TG) : TS := fun D σ H => te σ H fun x H1 => g x σ H1 D.nx
theorem ps_asg {tg e : Expr} {te : TE} {g : TG} (he : PE X e te) (hg : PG X tg g) (hs : swapsWithSole [tg] e pos.line X.env = pure false := by rfl) (hw : swappedStores [tg] e X.env = pure none := by rfl)
    (h1 : (assignEach [tg] X.env).map (·.2) = [assign tg X.env] := by rfl) : PS X (.Assign [tg] e pos) (tAsg te g) := by
  intro pins s σ H D I h
  refine wpAny_Assign_stores (thn (he pins s σ H _ I h) fun v s1 ⟨x, H1, I1, r1, q1⟩ => ?_) hs hw
  rw [h1]
  exact thn (hg pins s1 σ H1 x v _ I1 r1 q1) fun _ s2 q => q
theorem ps_set {i : Nat} {x : Str} {e : Expr} {te : TE} {pos' : Pos} (hN : X.N.Nodup) (hi : X.N[i]? = some x) (hx : Loc X.env.scope x) (he : PE X e te) (hs : swapsWith e (some (.Name x pos')) pos.line X.env = pure false := by rfl) (hf : X.fn x = true ∨ X.env.scope.names.lookup x = some .local := by first | exact .inl rfl | exact .inr rfl | assumption) :
    PS X (.Assign [.Name x pos'] e pos) (tAsg te (gName i)) := by
  intro pins s σ H D I h
  refine wpAny_Assign_Name (thn (he pins s σ H _ I h) fun v s1 ⟨y, H1, I1, r1, q1⟩ => ?_) hs
  exact store_ok I1 hN hi hx r1 (fun s2 I2 => ⟨_, H1, I2, q1⟩) hf
def tAug (i : Nat) (te : TE) (ti : TIp) : TS := fun D σ H => ∃ x, σ[i]? = some (some x) ∧ te σ H fun y H1 => ti x y H1 fun z H2 => D.nx (σ.set i (some z)) H2
theorem ps_aug {i : Nat} {x : Str} {e : Expr} {te : TE} {op : Operator} {ti : TIp} {pos' : Pos} (hN : X.N.Nodup) (hi : X.N[i]? = some x) (hx : Loc X.env.scope x) (he : PE X e te) (ho : PIp X op ti) (hf : X.fn x = true ∨ X.env.scope.names.lookup x = some .local := by first | exact .inl rfl | exact .inr rfl | assumption) :
    PS X (.AugAssign (.Name x pos') op e pos) (tAug i te ti) := by
  intro pins s σ H D I h
  obtain ⟨v, e1, h⟩ := h
  obtain ⟨m, hn, hl⟩ := I.loc
  have vis : Vis X.env.scope x := by rcases hx with k | k; exact .inl k; exact .inr (.inl k)
  obtain ⟨u, r, l⟩ := hl i x v hi e1 vis
  refine wpAny_AugAssign_Name ?_
  have go : wpAny (model X.prog X.w) X.A (eval e X.env) (fun w s₂ => wpAny (model X.prog X.w) X.A (inplaceOp op u w) (fun r s₃ => wpAny (model X.prog X.w) X.A (storeName X.env x r) (fun _ => SP X pins D .next) X.xe s₃) X.xe s₂) X.xe s := by
    refine thn (he pins s σ H _ I h) fun w s1 ⟨y, H1, I1, r1, q1⟩ => ?_
    refine thn (ho pins s1 σ H1 v y u w _ I1 r r1 q1) fun z s2 ⟨zv, H2, I2, r2, q2⟩ => ?_
    exact store_ok I2 hN hi hx r2 (fun s3 I3 => ⟨_, H2, I3, q2⟩) hf
  rcases l with ⟨hk, hm⟩ | ⟨hk, c, hc, hcell⟩
  · exact wpAny_loadName_local I.ok.kind hk hn hm go
  · rcases hk with hk | hk
    · exact wpAny_loadName_cell I.ok.kind hk hc hcell go
    · rcases hx with k | k
      · have : X.env.scope.names.lookup x = some .free := hk
        rw [k] at this; cases this
      · have : X.env.scope.names.lookup x = some .free := hk
        rw [k] at this; cases this
end
section
variable {X : Cx} {pos : Pos}
def tWhile (c : TT) (tb : TS) : TS := fun D σ H => ∃ W : Nat → St → Hp → Prop, (∃ m, W m σ H) ∧ ∀ m σ H, W m σ H →
  c σ H fun b H1 => if b = true then ∃ N : St → Hp → Prop, (∀ σ' H', N σ' H' → ∃ m', m' < m ∧ W m' σ' H') ∧ tb { D with nx := N, ct := N, bk := D.nx } σ H1 else D.nx σ H1
theorem ps_while {c : Expr} {body : List Stmt} {tc : TT} {tb : TS} (hp : PassesOwn (model X.prog X.w) X.A X.env X.xe) (hc : PT X c tc) (hb : PSs X body tb) : PS X (.While c body [] pos) (tWhile tc tb) := by
  intro pins s σ H D I h
  obtain ⟨W, ⟨m0, w0⟩, turn⟩ := h
  refine wpAny_While (codeAny_whileLoop (fun n s' => ∃ σ' H', Inv X pins σ' H' s' ∧ W n σ' H') ?_ m0 ⟨σ, H, I, w0⟩)
  rintro n s1 ⟨σ1, H1, I1, w1⟩
  refine wpAny_passesOwn hp (thn (hc pins s1 σ1 H1 _ I1 (turn n σ1 H1 w1)) fun b s2 ⟨H2, I2, q2⟩ => ?_)
  cases b with
  | true =>
    obtain ⟨N, hN, q2⟩ := q2
    rw [if_pos rfl]
    refine wpAny_passesOwn hp (thn (hb pins s2 σ1 H2 _ I2 q2) fun f s3 q3 => ?_)
    cases f with
    | next =>
      obtain ⟨σ3, H3, I3, n3⟩ := q3
      obtain ⟨m', hm, w3⟩ := hN σ3 H3 n3
      exact ⟨m', hm, σ3, H3, I3, w3⟩
    | cont =>
      obtain ⟨σ3, H3, I3, n3⟩ := q3
      obtain ⟨m', hm, w3⟩ := hN σ3 H3 n3
      exact ⟨m', hm, σ3, H3, I3, w3⟩
    | brk => exact q3
    | ret v => exact q3
  | false =>
    rw [if_neg Bool.false_ne_true]
    exact wpAny_execs_nil ⟨σ1, H2, I2, q2⟩
end
structure It where
  go : Nat → Hp → Prop
  yld : Nat → Hp → V → Hp → Prop
  stop : Nat → Hp → Prop
def FpOk (X : Cx) (pins : List (Addr × Obj)) (H : Hp) (b : Addr) : Prop :=
  H b = none ∧ b ≠ X.env.locals ∧ b ∉ X.fs ∧ (b ∈ X.ex ∨ X.s₀.heap.objs.size ≤ b) ∧ (∀ x c, X.env.cells.lookup x = some c → c ≠ b) ∧ ∀ p ∈ X.pn ++ pins, p.1 ≠ b
theorem Inv.fpOk {X : Cx} {pins : List (Addr × Obj)} {σ : St} {H H' : Hp} {s : Shared} {b : Addr} (I : Inv X pins σ H s) (hb : s.heap.objs.size ≤ b) (hn : H' b = none) : FpOk X pins H' b := by
  refine ⟨hn, Nat.ne_of_gt (Nat.lt_of_lt_of_le I.lt hb), I.nofs hb, .inr (Nat.le_trans I.sz hb), fun x c e z => ?_, fun p hp z => ?_⟩
  · obtain ⟨v, q⟩ := I.cell x c e
    exact absurd (Nat.lt_of_lt_of_le q.lt (by rw [z]; exact hb)) (Nat.lt_irrefl _)
  · exact absurd (Nat.lt_of_lt_of_le (Heap.lt_size (I.pin p hp).1) (by rw [z]; exact hb)) (Nat.lt_irrefl _)
structure Turn (P : Program) (w : World) (K : PySem.W.Frag) (tg : Expr) (J : It) (fp : List Addr) (it : Addr) (tn : Nat → Heap → Prop) : Prop where
  mem : it ∈ fp
  obj : ∀ i h, tn i h → ∀ b ∈ fp, ∃ o, h.get? b = some o ∧ ∀ v, o.data ≠ .cell v
  keep : ∀ i h h', tn i h → (∀ b ∈ fp, ∀ o, h.get? b = some o → h'.get? b = some o) → tn i h'
  item : ∀ (X : Cx), X.prog = P → X.w = w → X.K = K → X.calm = true → ∀ (i : Nat) (pins : List (Addr × Obj)) (s : Shared) (σ : St) (H : Hp) (E : Value → Shared → Prop), Inv X pins σ H s → (∀ b ∈ fp, FpOk X pins H b) → tn i s.heap → J.go i H →
    wpAny (model P w) X.A (pyNext (.ref it)) (fun r s1 => ∃ u, r = some u ∧
      wpAny (model P w) X.A (letOwnedTupleGo tg (.ref it) u) (fun _ s2 => ∃ x H', Inv X pins σ H' s2 ∧ RelV x u ∧ J.yld i H x H' ∧ tn (i + 1) s2.heap ∧ ∀ b ∈ fp, H' b = none) E s1) E s
  done : ∀ (X : Cx), X.prog = P → X.w = w → X.K = K → X.calm = true → ∀ (i : Nat) (pins : List (Addr × Obj)) (s : Shared) (σ : St) (H : Hp) (E : Value → Shared → Prop), Inv X pins σ H s → (∀ b ∈ fp, FpOk X pins H b) → tn i s.heap → J.stop i H →
    wpAny (model P w) X.A (pyNext (.ref it)) (fun r s1 => r = none ∧ Inv X pins σ H s1) E s
  self : ∀ (A : Around) (i : Nat) (s : Shared) (Q : Value → Shared → Prop) (E : Value → Shared → Prop), tn i s.heap → Q (.ref it) s → wpAny (model P w) A (pyIter (.ref it)) Q E s
abbrev TI := St → Hp → (It → Hp → Prop) → Prop
def PIE (X : Cx) (pins : List (Addr × Obj)) (σ : St) (tg : Expr) (R : It → Hp → Prop) (itv : Value) (s2 : Shared) : Prop :=
  ∃ (it : Addr) (fp : List Addr) (tn : Nat → Heap → Prop) (J : It) (H' : Hp), itv = .ref it ∧ Inv X pins σ H' s2 ∧ Turn X.prog X.w X.K tg J fp it tn ∧ tn 0 s2.heap ∧ (∀ b ∈ fp, FpOk X pins H' b) ∧ R J H'
def PI (X : Cx) (tg iter : Expr) (wi : TI) : Prop :=
  ∀ (pins : List (Addr × Obj)) (s : Shared) (σ : St) (H : Hp) (R : It → Hp → Prop), Inv X pins σ H s → wi σ H R →
    wpAny (model X.prog X.w) X.A (eval iter X.env) (fun v s1 => wpAny (model X.prog X.w) X.A (pyIter v) (PIE X pins σ tg R) X.xe s1) X.xe s
theorem go_of {M : Model} {A : Around} {E : Value → Shared → Prop} {s : Shared} {tg : Expr} {it : Addr} {u : Value} {o : Obj} {n : String} {vs : Array Value} {Q : Unit → Shared → Prop} (ho : s.heap.get? it = some o) (hc : o.cls = .type n) (hd : o.data = .fields vs)
    (hn : ["enumerate", "zip", "dict_itemiterator", "dict_reverseitemiterator", "odict_iterator", "itertools.zip_longest", "itertools.pairwise"].contains n = false) (hQ : Q () s) : wpAny M A (letOwnedTupleGo tg (.ref it) u) Q E s := by
  unfold letOwnedTupleGo
  cases tg <;> first
    | exact wpAny_pure hQ
    | (cases u <;> first
        | exact wpAny_pure hQ
        | (refine wpAny_bind (wpAny_load ho ?_)
           rw [hc, hd]
           show wpAny M A (if (["enumerate", "zip", "dict_itemiterator", "dict_reverseitemiterator", "odict_iterator", "itertools.zip_longest", "itertools.pairwise"].contains n && vs[0]? == some (rawInt _)) = true then _ else _) Q E s
           rw [if_neg (by intro h; rw [hn, Bool.false_and] at h; cases h)]
           exact wpAny_pure hQ))
def Itl (K : PySem.W.Frag) (a : Addr) : It :=
  ⟨fun i H => ∃ xs x, SqL K H a xs ∧ xs[i]? = some x, fun i H x H' => H' = H ∧ ∀ xs, SqL K H a xs → xs[i]? = some x, fun i H => ∃ xs, SqL K H a xs ∧ xs.length ≤ i⟩
def Itr (lo : Int) (n : Nat) : It := ⟨fun i _ => i < n, fun i H x H' => H' = H ∧ x = .int (lo + i), fun i _ => n ≤ i⟩
theorem turn_list {P : Program} {w : World} {K : PySem.W.Frag} {tg : Expr} (a it : Addr) : Turn P w K tg (Itl K a) [it] it (fun i h => h.IsListIter it a i) where
  mem := by simp
  obj := fun i h st b hb => by
    have e : b = it := by simpa using hb
    subst e
    obtain ⟨o, e, c, d⟩ := st
    exact ⟨o, e, fun v z => by rw [d] at z; cases z⟩
  keep := fun i h h' st k => st.at fun o e => k it (by simp) o e
  item := by
    intro X hP hw hK hc i pins s σ H E I hf st hg
    subst hP hw hK
    obtain ⟨xs, x, hq, hx⟩ := hg
    obtain ⟨its, rv, p, hz⟩ := I.list hq
    obtain ⟨u, hu, ru⟩ := rv.get hx
    obtain ⟨f0, f1, f2, f3, f4, f5⟩ := hf it (by simp)
    refine wpAny_pyNext_list_item st p.isList (x := u) (by simpa using hu) fun h' st' sb => ?_
    have I1 : Inv X pins σ H { s with heap := h' } := I.turned (t' := s.toks) (fun b o hb e => (sb.2 b hb).trans e) f0 f1 f3 f4 f5
    obtain ⟨o, e, c, d⟩ := id st'
    exact ⟨u, rfl, go_of (s := { s with heap := h' }) e c d (by decide) ⟨x, H, I1, ru, ⟨rfl, fun ys hy => by rw [I.list_inj hy hq]; exact hx⟩, st', fun b hb => (hf b hb).1⟩⟩
  done := by
    intro X hP hw hK hc i pins s σ H E I hf st hg
    subst hP hw hK
    obtain ⟨xs, hq, hx⟩ := hg
    obtain ⟨its, rv, p, hz⟩ := I.list hq
    obtain ⟨f0, f1, f2, f3, f4, f5⟩ := hf it (by simp)
    have hl := rv.length
    exact wpAny_pyNext_list_end (I.ok.hd hc) st p.isList (by simp; omega) fun h' eb => ⟨rfl, I.turned (t' := s.toks) (fun b o hb e => eb b o hb e) f0 f1 f3 f4 f5⟩
  self := fun _ _ _ _ _ st h => wpAny_pyIter_listiter st h
theorem turn_range {P : Program} {w : World} {K : PySem.W.Frag} {tg : Expr} (it : Addr) (lo : Int) (n : Nat) : Turn P w K tg (Itr lo n) [it] it (fun i h => IsRangeIter h it (lo + (i : Nat) * 1) ((n : Int) - (i : Nat)) 1) where
  mem := by simp
  obj := fun i h st b hb => by
    have e : b = it := by simpa using hb
    subst e
    exact ⟨_, st, fun v z => by
      have z' : Data.fields _ = Data.cell v := z
      cases z'⟩
  keep := fun i h h' st k => k it (by simp) _ st
  item := by
    intro X hP hw hK hc i pins s σ H E I hf st hg
    subst hP hw hK
    obtain ⟨f0, f1, f2, f3, f4, f5⟩ := hf it (by simp)
    have W := Walks.range (prog := X.prog) (w := X.w) (I.ok.hd hc) it lo 1 n
    refine W.item i s _ _ hg st fun v h' tk hv st' kk => ?_
    obtain ⟨t, rfl⟩ := hv
    have I1 : Inv X pins σ H { s with heap := h', toks := tk } := I.turned (fun b o hb e => kk b o (by simpa using hb) e) f0 f1 f3 f4 f5
    refine ⟨_, rfl, go_of (s := { s with heap := h', toks := tk }) (n := "range_iterator") st' rfl rfl (by decide) ⟨.int (lo + i), H, I1, ⟨t, ?_⟩, ⟨rfl, rfl⟩, st', fun b hb => (hf b hb).1⟩⟩
    rw [Int.mul_one]
  done := by
    intro X hP hw hK hc i pins s σ H E I hf st hg
    subst hP hw hK
    obtain ⟨f0, f1, f2, f3, f4, f5⟩ := hf it (by simp)
    exact wpAny_pyNext_range_end (I.ok.hd hc) st (by have : n ≤ i := hg; omega) fun h' eb => ⟨rfl, I.turned (t' := s.toks) (fun b o hb e => eb b o hb e) f0 f1 f3 f4 f5⟩
  self := fun _ _ _ _ _ st h => wpAny_pyIter_rangeiter st h
end L2
namespace L2
open PySem PySem.Spec PyProof.Rows
section
variable {X : Cx} {tg : Expr}
def iList (K : PySem.W.Frag) (tl : TE) : TI := fun σ H R => tl σ H fun x H1 => ∃ a, x = .ref a ∧ (∃ xs, SqL K H1 a xs) ∧ R (Itl K a) H1
theorem pi_list {l : Expr} {tl : TE} (hl : PE X l tl) : PI X tg l (iList X.K tl) := by
  intro pins s σ H R I h
  refine thn (hl pins s σ H _ I h) fun v s1 ⟨x, H1, I1, r1, q1⟩ => ?_
  obtain ⟨a, e, ⟨xs, hq⟩, q⟩ := q1
  subst e
  cases r1
  obtain ⟨its, rv, p, hz⟩ := I1.list hq
  refine wpAny_pyIter_list p.isList ?_
  refine ⟨s1.heap.objs.size, [s1.heap.objs.size], _, _, H1, rfl, I1.kept (t' := s1.toks) fun b o e => Heap.get?_push_of_some _ e, turn_list a _, ⟨_, Heap.get?_push_size _ rfl, rfl, rfl⟩, fun b hb => ?_, q⟩
  have e : b = s1.heap.objs.size := by simpa using hb
  subst e
  exact I1.fpOk (Nat.le_refl _) (I1.hok.fresh (Nat.le_refl _))
theorem range_it {pins : List (Addr × Obj)} {σ : St} {H : Hp} {s : Shared} {R : It → Hp → Prop} {E : Value → Shared → Prop} {lo hi : Int} {t u v : Tok} {tk : Nat} (I : Inv X pins σ H s) (h1 : -(2 ^ 62) ≤ lo) (h2 : lo < 2 ^ 62) (h3 : -(2 ^ 62) ≤ hi) (h4 : hi < 2 ^ 62)
    (q : R (Itr lo (hi - lo).toNat) H) : wpAny (model X.prog X.w) X.A (pyIter (.ref s.heap.objs.size)) (PIE X pins σ tg R) E { s with heap := s.heap.push { cls := .type "range", data := .fields #[.int lo t, .int hi u, .int 1 v] }, toks := tk } := by
  refine wpAny_pyIter_range (IsRange.new ..) (small_one h1 h2 h3 h4) ?_
  have I1 : Inv X pins σ H { s with heap := s.heap.push { cls := .type "range", data := .fields #[.int lo t, .int hi u, .int 1 v] }, toks := tk } := I.kept fun b o e => Heap.get?_push_of_some _ e
  refine ⟨(s.heap.push { cls := .type "range", data := .fields #[.int lo t, .int hi u, .int 1 v] }).objs.size, [(s.heap.push { cls := .type "range", data := .fields #[.int lo t, .int hi u, .int 1 v] }).objs.size], _, _, H, rfl,
    I1.kept (t' := tk) fun b o e => Heap.get?_push_of_some _ e, turn_range _ lo (hi - lo).toNat, ?_, fun b hb => ?_, q⟩
  · have e1 : lo + ((0 : Nat) : Int) * 1 = lo := by simp
    have e2 : (((hi - lo).toNat : Nat) : Int) - ((0 : Nat) : Int) = Builtin.Range.rangeSize lo hi 1 := by rw [rangeSize_one]; split <;> omega
    show IsRangeIter _ _ (lo + ((0 : Nat) : Int) * 1) ((((hi - lo).toNat : Nat) : Int) - ((0 : Nat) : Int)) 1
    rw [e1, e2]
    exact Heap.get?_push_size _ rfl
  · have e : b = (s.heap.push { cls := .type "range", data := .fields #[.int lo t, .int hi u, .int 1 v] }).objs.size := by simpa using hb
    subst e
    exact I1.fpOk (Nat.le_refl _) (I1.hok.fresh (Nat.le_refl _))
def iRng1 (ta : TA) : TI := fun σ H R => ta σ H fun vs H1 => ∃ j : Int, vs = [.int j] ∧ -(2 ^ 62) ≤ j ∧ j < 2 ^ 62 ∧ R (Itr 0 j.toNat) H1
theorem pi_range1 {a : Expr} {ta : TA} {p pos : Pos} (hg : Gl X "range") (hm : X.mg "range" = none) (ha : PA X [a] ta) (hs : starEach [a] X.env = [(false, eval a X.env)] := by rfl) : PI X tg (.Call (.Name "range" p) [a] [] pos) (iRng1 ta) := by
  intro pins s σ H R I h
  refine Call_ (ld_blt I hg hm boot_range (PyProof.Rows.callWith_type1 (thn (ha pos pins s σ H _ I h) fun us s1 ⟨vs, H1, I1, r1, q1⟩ => ?_) hs rfl))
  obtain ⟨j, e, q1, q2, q⟩ := q1
  subst e
  cases r1 with
  | cons r rr =>
    cases rr
    obtain ⟨t, rfl⟩ := r
    exact call_range_1 (range_it I1 (by omega) (by omega) q1 q2 (by simpa using q))
def tFor (wi : TI) (g : TG) (tb : TS) : TS := fun D σ H => wi σ H fun J H1 => ∃ W : Nat → Nat → St → Hp → Prop, (∃ m, W 0 m σ H1) ∧ ∀ i m σ H, W i m σ H →
  (J.stop i H ∧ D.nx σ H) ∨ (J.go i H ∧ ∃ N : St → Hp → Prop, (∀ σ' H', N σ' H' → ∃ m', m' < m ∧ W (i + 1) m' σ' H') ∧ ∀ x H', J.yld i H x H' → g x σ H' fun σ2 H2 => tb { D with nx := N, ct := N, bk := D.nx } σ2 H2)
def pinsAt (fp : List Addr) (h : Heap) : List (Addr × Obj) := fp.filterMap fun b => (h.get? b).map fun o => (b, o)
theorem mem_pinsAt {fp : List Addr} {h : Heap} {b : Addr} {o : Obj} (hb : b ∈ fp) (e : h.get? b = some o) : (b, o) ∈ pinsAt fp h := List.mem_filterMap.mpr ⟨b, hb, by rw [e]; rfl⟩
theorem of_pinsAt {fp : List Addr} {h : Heap} {p : Addr × Obj} (hp : p ∈ pinsAt fp h) : p.1 ∈ fp ∧ h.get? p.1 = some p.2 := by
  obtain ⟨b, hb, e⟩ := List.mem_filterMap.mp hp
  cases q : h.get? b with
  | none => rw [q] at e; cases e
  | some o =>
    rw [q] at e
    have e' : (b, o) = p := Option.some.inj e
    subst e'
    exact ⟨hb, q⟩
theorem Inv.pinned {pins : List (Addr × Obj)} {σ : St} {H : Hp} {s : Shared} {fp : List Addr} (I : Inv X pins σ H s) (hf : ∀ b ∈ fp, FpOk X pins H b) (ho : ∀ b ∈ fp, ∃ o, s.heap.get? b = some o ∧ ∀ v, o.data ≠ .cell v) : Inv X (pins ++ pinsAt fp s.heap) σ H s :=
  I.pins_of fun p hp => (List.mem_append.mp hp).elim (fun z => I.pin p (List.mem_append_right _ z)) fun z => by
    obtain ⟨hb, e⟩ := of_pinsAt z
    obtain ⟨f0, f1, f2, _⟩ := hf p.1 hb
    obtain ⟨o, e', d⟩ := ho p.1 hb
    rw [e] at e'; cases e'
    exact ⟨e, f0, f1, f2, d⟩
theorem Inv.unpinned {pins pl : List (Addr × Obj)} {σ : St} {H : Hp} {s : Shared} (I : Inv X (pins ++ pl) σ H s) : Inv X pins σ H s := I.pins_of fun p hp => I.pin p (List.mem_append_right _ (List.mem_append_left _ hp))
theorem ps_for {iter : Expr} {body : List Stmt} {wi : TI} {g : TG} {tb : TS} {pos : Pos} (hp : PassesOwn (model X.prog X.w) X.A X.env X.xe) (hc : X.calm = true) (hi : PI X tg iter wi) (hg : PG X tg g) (hb : PSs X body tb)
    (hs : ∀ x, foldedSetIterable iter X.env x = pure x := by intro _; rfl) : PS X (.For tg iter body [] pos) (tFor wi g tb) := by
  intro pins s σ H D I h
  refine wpAny_For (thn (hi pins s σ H _ I h) fun v s1 h1 => thn h1 fun itv s2 h2 => ?_) hs
  obtain ⟨it, fp, tn, J, H2, e, I2, T, st2, f2, W, ⟨m0, w0⟩, turn⟩ := h2
  subst e
  have stat : ∀ {H' : Hp}, (∀ b ∈ fp, H' b = none) → ∀ b ∈ fp, FpOk X pins H' b := fun hn b hb => ⟨hn b hb, (f2 b hb).2⟩
  refine codeAny_forLoop_any (fun n s' => ∃ i σ' H', Inv X pins σ' H' s' ∧ tn i s'.heap ∧ (∀ b ∈ fp, H' b = none) ∧ W i n σ' H') ?_ m0 ⟨0, σ, H2, I2, st2, fun b hb => (f2 b hb).1, w0⟩
  rintro n s3 ⟨i, σ3, H3, I3, st3, fr3, w3⟩
  rcases turn i n σ3 H3 w3 with ⟨stop, qn⟩ | ⟨go, N, hN, step⟩
  · refine wpAny_passesOwn hp (thn (T.done X rfl rfl rfl hc i pins s3 σ3 H3 X.xe I3 (stat fr3) st3 stop) fun r s4 ⟨hr, I4⟩ => ?_)
    subst hr
    exact wpAny_execs_nil ⟨σ3, H3, I4, qn⟩
  · refine wpAny_passesOwn hp (thn (T.item X rfl rfl rfl hc i pins s3 σ3 H3 X.xe I3 (stat fr3) st3 go) fun r s4 ⟨u, hr, h4⟩ => ?_)
    subst hr
    refine wpAny_passesOwn hp (thn h4 fun _ s5 ⟨x, H5, I5, r5, y5, st5, fr5⟩ => ?_)
    have I5' := I5.pinned (stat fr5) (T.obj _ _ st5)
    refine wpAny_passesOwn hp (thn (hg _ s5 σ3 H5 x u _ I5' r5 (step x H5 y5)) fun _ s6 ⟨σ6, H6, I6, q6⟩ => ?_)
    refine wpAny_passesOwn hp (thn (hb _ s6 σ6 H6 _ I6 q6) fun f s7 q7 => ?_)
    have again : ∀ {σ7 : St} {H7 : Hp}, Inv X (pins ++ pinsAt fp s5.heap) σ7 H7 s7 → N σ7 H7 → ∃ m, m < n ∧ ∃ i σ' H', Inv X pins σ' H' s7 ∧ tn i s7.heap ∧ (∀ b ∈ fp, H' b = none) ∧ W i m σ' H' := fun {σ7 H7} I7 n7 => by
      obtain ⟨m', hm, w7⟩ := hN σ7 H7 n7
      refine ⟨m', hm, i + 1, σ7, H7, I7.unpinned, T.keep _ _ _ st5 fun b hb o e => (I7.pin (b, o) (List.mem_append_right _ (List.mem_append_right _ (mem_pinsAt hb e)))).1, fun b hb => ?_, w7⟩
      obtain ⟨o, e, d⟩ := T.obj _ _ st5 b hb
      exact (I7.pin (b, o) (List.mem_append_right _ (List.mem_append_right _ (mem_pinsAt hb e)))).2.1
    cases f with
    | next => obtain ⟨σ7, H7, I7, n7⟩ := q7; exact again I7 n7
    | cont => obtain ⟨σ7, H7, I7, n7⟩ := q7; exact again I7 n7
    | brk => obtain ⟨σ7, H7, I7, q7⟩ := q7; exact ⟨σ7, H7, I7.unpinned, q7⟩
    | ret v => obtain ⟨x7, σ7, H7, I7, r7, q7⟩ := q7; exact ⟨x7, σ7, H7, I7.unpinned, r7, q7⟩
end
theorem for_list {K : PySem.W.Frag} {a : Addr} {xs : List V} {g : TG} {tb : TS} {D : Ends} {σ : St} {H : Hp} (Pv : Nat → St → Hp → Prop) (h0 : Pv 0 σ H) (hl : ∀ i σ H, i ≤ xs.length → Pv i σ H → SqL K H a xs)
    (hs : ∀ i x σ H, xs[i]? = some x → Pv i σ H → g x σ H fun σ2 H2 => tb { D with nx := Pv (i + 1), ct := Pv (i + 1), bk := D.nx } σ2 H2) (hd : ∀ σ H, Pv xs.length σ H → D.nx σ H) :
    ∃ W : Nat → Nat → St → Hp → Prop, (∃ m, W 0 m σ H) ∧ ∀ i m σ H, W i m σ H →
      ((Itl K a).stop i H ∧ D.nx σ H) ∨ ((Itl K a).go i H ∧ ∃ N : St → Hp → Prop, (∀ σ' H', N σ' H' → ∃ m', m' < m ∧ W (i + 1) m' σ' H') ∧ ∀ x H', (Itl K a).yld i H x H' → g x σ H' fun σ2 H2 => tb { D with nx := N, ct := N, bk := D.nx } σ2 H2) := by
  refine ⟨fun i m σ H => m = xs.length - i ∧ i ≤ xs.length ∧ Pv i σ H, ⟨xs.length, by simp, Nat.zero_le _, h0⟩, ?_⟩
  rintro i m σ H ⟨rfl, hi, p⟩
  have q := hl i σ H hi p
  by_cases hlt : i < xs.length
  · refine .inr ⟨⟨xs, xs[i], q, by simp [hlt]⟩, Pv (i + 1), fun σ' H' p' => ⟨xs.length - (i + 1), by omega, rfl, hlt, p'⟩, fun x H' y => ?_⟩
    obtain ⟨e, y⟩ := y
    subst e
    exact hs i x σ _ (y xs q) p
  · have e : i = xs.length := by omega
    subst e
    exact .inl ⟨⟨xs, q, Nat.le_refl _⟩, hd σ H p⟩
theorem for_range {lo : Int} {n : Nat} {g : TG} {tb : TS} {D : Ends} {σ : St} {H : Hp} (Pv : Nat → St → Hp → Prop) (h0 : Pv 0 σ H)
    (hs : ∀ i σ H, i < n → Pv i σ H → g (.int (lo + i)) σ H fun σ2 H2 => tb { D with nx := Pv (i + 1), ct := Pv (i + 1), bk := D.nx } σ2 H2) (hd : ∀ σ H, Pv n σ H → D.nx σ H) :
    ∃ W : Nat → Nat → St → Hp → Prop, (∃ m, W 0 m σ H) ∧ ∀ i m σ H, W i m σ H →
      ((Itr lo n).stop i H ∧ D.nx σ H) ∨ ((Itr lo n).go i H ∧ ∃ N : St → Hp → Prop, (∀ σ' H', N σ' H' → ∃ m', m' < m ∧ W (i + 1) m' σ' H') ∧ ∀ x H', (Itr lo n).yld i H x H' → g x σ H' fun σ2 H2 => tb { D with nx := N, ct := N, bk := D.nx } σ2 H2) := by
  refine ⟨fun i m σ H => m = n - i ∧ i ≤ n ∧ Pv i σ H, ⟨n, by simp, Nat.zero_le _, h0⟩, ?_⟩
  rintro i m σ H ⟨rfl, hi, p⟩
  by_cases hlt : i < n
  · refine .inr ⟨hlt, Pv (i + 1), fun σ' H' p' => ⟨n - (i + 1), by omega, rfl, hlt, p'⟩, fun x H' y => ?_⟩
    obtain ⟨e, y⟩ := y
    subst e y
    exact hs i σ _ hlt p
  · have e : i = n := by omega
    subst e
    exact .inl ⟨Nat.le_refl _, hd σ H p⟩
end L2
namespace L2
open PySem PySem.Spec PyProof.Rows
abbrev R2 := V → V → Hp → VK → Prop
def OpR (X : Cx) (f : Value → Value → Sem Value) (r : R2) : Prop :=
  ∀ (pins : List (Addr × Obj)) (s : Shared) (σ : St) (H : Hp) (x y : V) (v u : Value) (Q : VK), Inv X pins σ H s → RelV x v → RelV y u → r x y H Q →
    wpAny (model X.prog X.w) X.A (f v u) (EP X pins σ Q) X.xe s
def UnR (X : Cx) (f : Value → Sem Value) (r : V → Hp → VK → Prop) : Prop :=
  ∀ (pins : List (Addr × Obj)) (s : Shared) (σ : St) (H : Hp) (x : V) (v : Value) (Q : VK), Inv X pins σ H s → RelV x v → r x H Q →
    wpAny (model X.prog X.w) X.A (f v) (EP X pins σ Q) X.xe s
def CallR (X : Cx) (f : Value) (r : List V → Hp → VK → Prop) : Prop :=
  ∀ (pins : List (Addr × Obj)) (s : Shared) (σ : St) (H : Hp) (xs : List V) (us : List Value) (Q : VK), Inv X pins σ H s → Vals xs us → r xs H Q →
    wpAny (model X.prog X.w) X.A (call f us) (EP X pins σ Q) X.xe s
def tOp (r : R2) (ta tb : TE) : TE := fun σ H Q => ta σ H fun x H1 => tb σ H1 fun y H2 => r x y H2 Q
def tUn (r : V → Hp → VK → Prop) (ta : TE) : TE := fun σ H Q => ta σ H fun x H1 => r x H1 Q
def rI (C : Int → Int → Prop) (g : Int → Int → V) : R2 := fun x y H Q => ∃ i j, x = .int i ∧ y = .int j ∧ C i j ∧ Q (g i j) H
def rI0 (g : Int → Int → V) : R2 := fun x y H Q => ∃ i j, x = .int i ∧ y = .int j ∧ Q (g i j) H
def rU (g : Int → V) : V → Hp → VK → Prop := fun x H Q => ∃ i, x = .int i ∧ Q (g i) H
section
variable {X : Cx} {a b c : Expr} {ta tb tc : TE} {pos : Pos}
theorem binT (ha : PE X a ta) (hb : PE X b tb) {pins : List (Addr × Obj)} {s : Shared} {σ : St} {H : Hp} {R : V → V → Hp → Prop} (I : Inv X pins σ H s)
    (h : ta σ H fun x H1 => tb σ H1 fun y H2 => R x y H2) {Q : Value → Shared → Prop} {f : Value → Value → Sem Value}
    (hf : ∀ v u s2 x y H2, Inv X pins σ H2 s2 → RelV x v → RelV y u → R x y H2 → wpAny (model X.prog X.w) X.A (f v u) Q X.xe s2) :
    wpAny (model X.prog X.w) X.A (eval a X.env) (fun v s₁ => wpAny (model X.prog X.w) X.A (eval b X.env) (fun u s₂ => wpAny (model X.prog X.w) X.A (f v u) Q X.xe s₂) X.xe s₁) X.xe s := by
  refine thn (ha pins s σ H _ I h) fun v s1 ⟨x, H1, I1, r1, q1⟩ => ?_
  refine thn (hb pins s1 σ H1 _ I1 q1) fun u s2 ⟨y, H2, I2, r2, q2⟩ => ?_
  exact hf v u s2 x y H2 I2 r1 r2 q2
theorem pe_op {op : Operator} {r : R2} (ho : OpR X (binaryOp op) r) (ha : PE X a ta) (hb : PE X b tb) : PE X (.BinOp a op b pos) (tOp r ta tb) := by
  intro pins s σ H Q I h
  exact wpAny_BinOp (binT ha hb I h fun v u s2 x y H2 I2 rx ry q => ho pins s2 σ H2 x y v u Q I2 rx ry q)
theorem pe_un {op : UnaryOp} {r : V → Hp → VK → Prop} (ho : UnR X (unaryOp op) r) (ha : PE X a ta) : PE X (.UnaryOp op a pos) (tUn r ta) := by
  intro pins s σ H Q I h
  exact UnaryOp_ (thn (ha pins s σ H _ I h) fun v s1 ⟨x, H1, I1, r1, q1⟩ => ho pins s1 σ H1 x v Q I1 r1 q1)
theorem opI {f : Value → Value → Sem Value} {C : Int → Int → Prop} {g : Int → Int → Int}
    (rule : ∀ (i j : Int) (t u : Tok) (s : Shared) (Q : Value → Shared → Prop) (E : Value → Shared → Prop), C i j → Q (.int (g i j) s.toks) { s with toks := s.toks + 1 } → wpAny (model X.prog X.w) X.A (f (.int i t) (.int j u)) Q E s) :
    OpR X f (rI C fun i j => .int (g i j)) := by
  intro pins s σ H x y v u Q I rx ry h
  obtain ⟨i, j, rfl, rfl, hc, q⟩ := h
  obtain ⟨t, rfl⟩ := rx
  obtain ⟨t', rfl⟩ := ry
  exact rule i j t t' s _ _ hc ⟨.int (g i j), H, I.tok _, ⟨_, rfl⟩, q⟩
theorem opI0 {f : Value → Value → Sem Value} {g : Int → Int → Int}
    (rule : ∀ (i j : Int) (t u : Tok) (s : Shared) (Q : Value → Shared → Prop) (E : Value → Shared → Prop), Q (.int (g i j) s.toks) { s with toks := s.toks + 1 } → wpAny (model X.prog X.w) X.A (f (.int i t) (.int j u)) Q E s) :
    OpR X f (rI0 fun i j => .int (g i j)) := by
  intro pins s σ H x y v u Q I rx ry h
  obtain ⟨i, j, rfl, rfl, q⟩ := h
  obtain ⟨t, rfl⟩ := rx
  obtain ⟨t', rfl⟩ := ry
  exact rule i j t t' s _ _ ⟨.int (g i j), H, I.tok _, ⟨_, rfl⟩, q⟩
theorem opB0 {f : Value → Value → Sem Value} {g : Int → Int → Bool}
    (rule : ∀ (i j : Int) (t u : Tok) (s : Shared) (Q : Value → Shared → Prop) (E : Value → Shared → Prop), Q (.bool (g i j)) s → wpAny (model X.prog X.w) X.A (f (.int i t) (.int j u)) Q E s) :
    OpR X f (rI0 fun i j => .bl (g i j)) := by
  intro pins s σ H x y v u Q I rx ry h
  obtain ⟨i, j, rfl, rfl, q⟩ := h
  obtain ⟨t, rfl⟩ := rx
  obtain ⟨t', rfl⟩ := ry
  exact rule i j t t' s _ _ ⟨.bl (g i j), H, I, rfl, q⟩
theorem two_pow_nn (k : Nat) : (0 : Int) ≤ 2 ^ k := by
  rw [two_pow_cast]
  exact Int.natCast_nonneg _
theorem op_add : OpR X (binaryOp .Add) (rI0 fun i j => .int (i + j)) := opI0 fun _ _ _ _ _ _ _ q => add_int q
theorem op_sub : OpR X (binaryOp .Sub) (rI0 fun i j => .int (i - j)) := opI0 fun _ _ _ _ _ _ _ q => sub_int q
theorem op_mod : OpR X (binaryOp .Mod) (rI (fun _ j => 0 < j) fun i j => .int (i % j)) := opI fun i j _ _ _ _ _ hc q => by
  have h1 : (0 : Int) < j := hc
  exact mod_int' (by omega) (by rw [Int.fmod_eq_emod_of_nonneg i (by omega)]; exact q)
theorem op_shr : OpR X (binaryOp .RShift) (rI (fun _ j => 0 ≤ j) fun i j => .int (i / 2 ^ j.toNat)) := opI fun i j _ _ _ _ _ hc q =>
  rshift_int hc (by rw [Int.fdiv_eq_ediv_of_nonneg i (two_pow_nn _)]; exact q)
theorem unI {f : Value → Sem Value} {g : Int → Int}
    (rule : ∀ (i : Int) (t : Tok) (s : Shared) (Q : Value → Shared → Prop) (E : Value → Shared → Prop), Q (.int (g i) s.toks) { s with toks := s.toks + 1 } → wpAny (model X.prog X.w) X.A (f (.int i t)) Q E s) :
    UnR X f (rU fun i => .int (g i)) := by
  intro pins s σ H x v Q I rx h
  obtain ⟨i, rfl, q⟩ := h
  obtain ⟨t, rfl⟩ := rx
  exact rule i t s _ _ ⟨.int (g i), H, I.tok _, ⟨_, rfl⟩, q⟩
theorem un_neg : UnR X (unaryOp .USub) (rU fun i => .int (-i)) := unI fun _ _ _ _ _ q => neg_int q
end
def scal : V → V → Bool
  | .non, .non => true | .non, .int _ => true | .int _, .non => true | .non, .bl _ => true | .bl _, .non => true | .non, .str _ => true | .str _, .non => true
  | .int _, .int _ => true | .bl _, .bl _ => true | .str _, .str _ => true | .byt _, .byt _ => true
  | .int _, .str _ => true | .str _, .int _ => true | .bl _, .str _ => true | .str _, .bl _ => true
  | _, _ => false
def rEq : R2 := fun x y H Q => scal x y = true ∧ Q (.bl (decide (x = y))) H
def rNe : R2 := fun x y H Q => scal x y = true ∧ Q (.bl (!decide (x = y))) H
theorem dec_int {i j : Int} : decide (V.int i = V.int j) = (i == j) := by
  rw [Bool.eq_iff_iff]
  simp
theorem dec_bl {i j : Bool} : decide (V.bl i = V.bl j) = (i == j) := by
  rw [Bool.eq_iff_iff]
  simp
theorem dec_str {i j : Str} : decide (V.str i = V.str j) = (i == j) := by
  rw [Bool.eq_iff_iff]
  simp
theorem dec_byt {i j : Array UInt8} : decide (V.byt i = V.byt j) = (i.toList == j.toList) := by
  rw [Bool.eq_iff_iff]
  cases i
  cases j
  simp
section
variable {X : Cx} {a b c : Expr} {ta tb tc : TE} {pos : Pos}
theorem fin_bl {pins : List (Addr × Obj)} {σ : St} {H : Hp} {s : Shared} {Q : VK} {k k' : Bool} (I : Inv X pins σ H s) (q : Q (.bl k) H) (e : k = k') : EP X pins σ Q (.bool k') s := by
  subst e
  exact ⟨.bl k, H, I, rfl, q⟩
theorem op_eq : OpR X (compareOp .Eq) rEq := by
  intro pins s σ H x y v u Q I rx ry h
  obtain ⟨hs, q⟩ := h
  cases x with
  | non =>
    cases rx
    cases y with
    | non => cases ry; exact PySem.EqNone.eq_none_none (fin_bl I q (by simp))
    | bl j => cases ry; exact PySem.EqNone.eq_none_bool (fin_bl I q (by simp))
    | int j => obtain ⟨t', rfl⟩ := ry; exact PySem.EqNone.eq_none_int (fin_bl I q (by simp))
    | str j => obtain ⟨t', rfl⟩ := ry; exact PySem.EqNone.eq_none_str (fin_bl I q (by simp))
    | _ => exact absurd (show false = true from hs) Bool.false_ne_true
  | bl i =>
    cases rx
    cases y with
    | non => cases ry; exact PySem.EqNone.eq_bool_none (fin_bl I q (by simp))
    | bl j => cases ry; exact eq_bool (fin_bl I q dec_bl)
    | str j => obtain ⟨t', rfl⟩ := ry; exact PySem.EqMixed.eq_bool_str (fin_bl I q (by simp))
    | _ => exact absurd (show false = true from hs) Bool.false_ne_true
  | int i =>
    obtain ⟨t, rfl⟩ := rx
    cases y with
    | non => cases ry; exact PySem.EqNone.eq_int_none (fin_bl I q (by simp))
    | int j => obtain ⟨t', rfl⟩ := ry; exact eq_int (fin_bl I q dec_int)
    | str j => obtain ⟨t', rfl⟩ := ry; exact PySem.EqMixed.eq_int_str (fin_bl I q (by simp))
    | _ => exact absurd (show false = true from hs) Bool.false_ne_true
  | str i =>
    obtain ⟨t, rfl⟩ := rx
    cases y with
    | non => cases ry; exact PySem.EqNone.eq_str_none (fin_bl I q (by simp))
    | bl j => cases ry; exact PySem.EqMixed.eq_str_bool (fin_bl I q (by simp))
    | int j => obtain ⟨t', rfl⟩ := ry; exact PySem.EqMixed.eq_str_int (fin_bl I q (by simp))
    | str j => obtain ⟨t', rfl⟩ := ry; exact eq_str (fin_bl I q dec_str)
    | _ => exact absurd (show false = true from hs) Bool.false_ne_true
  | byt i =>
    obtain ⟨t, rfl⟩ := rx
    cases y with
    | byt j => obtain ⟨t', rfl⟩ := ry; exact PySem.W.eq_bytes (fin_bl I q dec_byt)
    | _ => exact absurd (show false = true from hs) Bool.false_ne_true
  | _ => cases y <;> exact absurd (show false = true from hs) Bool.false_ne_true
theorem op_ne : OpR X (compareOp .NotEq) rNe := by
  intro pins s σ H x y v u Q I rx ry h
  obtain ⟨hs, q⟩ := h
  cases x with
  | non =>
    cases rx
    cases y with
    | non => cases ry; exact PySem.EqNone.ne_none_none (fin_bl I q (by simp))
    | bl j => cases ry; exact PySem.EqNone.ne_none_bool (fin_bl I q (by simp))
    | int j => obtain ⟨t', rfl⟩ := ry; exact PySem.EqNone.ne_none_int (fin_bl I q (by simp))
    | str j => obtain ⟨t', rfl⟩ := ry; exact PySem.EqNone.ne_none_str (fin_bl I q (by simp))
    | _ => exact absurd (show false = true from hs) Bool.false_ne_true
  | bl i =>
    cases rx
    cases y with
    | non => cases ry; exact PySem.EqNone.ne_bool_none (fin_bl I q (by simp))
    | bl j => cases ry; exact ne_bool (fin_bl I q (congrArg not dec_bl))
    | str j => obtain ⟨t', rfl⟩ := ry; exact PySem.EqMixed.ne_bool_str (fin_bl I q (by simp))
    | _ => exact absurd (show false = true from hs) Bool.false_ne_true
  | int i =>
    obtain ⟨t, rfl⟩ := rx
    cases y with
    | non => cases ry; exact PySem.EqNone.ne_int_none (fin_bl I q (by simp))
    | int j => obtain ⟨t', rfl⟩ := ry; exact ne_int (fin_bl I q (congrArg not dec_int))
    | str j => obtain ⟨t', rfl⟩ := ry; exact PySem.EqMixed.ne_int_str (fin_bl I q (by simp))
    | _ => exact absurd (show false = true from hs) Bool.false_ne_true
  | str i =>
    obtain ⟨t, rfl⟩ := rx
    cases y with
    | non => cases ry; exact PySem.EqNone.ne_str_none (fin_bl I q (by simp))
    | bl j => cases ry; exact PySem.EqMixed.ne_str_bool (fin_bl I q (by simp))
    | int j => obtain ⟨t', rfl⟩ := ry; exact PySem.EqMixed.ne_str_int (fin_bl I q (by simp))
    | str j => obtain ⟨t', rfl⟩ := ry; exact ne_str (fin_bl I q (congrArg not dec_str))
    | _ => exact absurd (show false = true from hs) Bool.false_ne_true
  | byt i =>
    obtain ⟨t, rfl⟩ := rx
    cases y with
    | byt j => obtain ⟨t', rfl⟩ := ry; exact PySem.W.ne_bytes (fin_bl I q (congrArg not dec_byt))
    | _ => exact absurd (show false = true from hs) Bool.false_ne_true
  | _ => cases y <;> exact absurd (show false = true from hs) Bool.false_ne_true
theorem op_lt : OpR X (compareOp .Lt) (rI0 fun i j => .bl (decide (i < j))) := opB0 fun _ _ _ _ _ _ _ q => lt_int q
theorem op_le : OpR X (compareOp .LtE) (rI0 fun i j => .bl (decide (i ≤ j))) := opB0 fun _ _ _ _ _ _ _ q => le_int q
theorem op_gt : OpR X (compareOp .Gt) (rI0 fun i j => .bl (decide (j < i))) := opB0 fun _ _ _ _ _ _ _ q => gt_int q
theorem op_ge : OpR X (compareOp .GtE) (rI0 fun i j => .bl (decide (j ≤ i))) := opB0 fun _ _ _ _ _ _ _ q => ge_int q
theorem op_isN : OpR X (compareOp .Is) (fun x y H Q => y = .non ∧ Q (.bl (decide (x = .non))) H) := by
  intro pins s σ H x y v u Q I rx ry h
  obtain ⟨rfl, q⟩ := h
  cases ry
  refine is_none_gen (fin_bl I q ?_)
  cases x <;> first
    | (cases rx; rfl)
    | (obtain ⟨t, rfl⟩ := rx; rfl)
theorem op_notN : OpR X (compareOp .IsNot) (fun x y H Q => y = .non ∧ Q (.bl (!decide (x = .non))) H) := by
  intro pins s σ H x y v u Q I rx ry h
  obtain ⟨rfl, q⟩ := h
  cases ry
  refine isnot_none_gen (fin_bl I q ?_)
  cases x <;> first
    | (cases rx; rfl)
    | (obtain ⟨t, rfl⟩ := rx; rfl)
theorem nomark (b : Expr) {op : CmpOp} (h : op ≠ .In := by decide) (h2 : op ≠ .NotIn := by decide) : behindInMarks op b = false := by
  have e1 : (op == CmpOp.In) = false := by cases op <;> first | rfl | exact absurd rfl h
  have e2 : (op == CmpOp.NotIn) = false := by cases op <;> first | rfl | exact absurd rfl h2
  cases b <;> simp [behindInMarks, e1, e2]
theorem pe_cmpR {op : CmpOp} {r : R2} (ho : OpR X (compareOp op) r) (ha : PE X a ta) (hb : PE X b tb) (hm : behindInMarks op b = false) : PE X (.Compare a [op] [b] pos) (tOp r ta tb) := by
  intro pins s σ H Q I h
  exact wpAny_Compare1 (binT ha hb I h fun v u s2 x y H2 I2 rx ry q => ho pins s2 σ H2 x y v u Q I2 rx ry q) hm
def tTest (t : TE) : TT := fun σ H Q => t σ H fun x H' => ∃ k, x = .bl k ∧ Q k H'
theorem pt_cmpR {op : CmpOp} {r : R2} (ho : OpR X (compareOp op) r) (ha : PE X a ta) (hb : PE X b tb) (hm : behindInMarks op b = false) : PT X (.Compare a [op] [b] pos) (tTest (tOp r ta tb)) := by
  intro pins s σ H Q I h
  refine wpAny_isTrue_Compare1 (thn (ha pins s σ H _ I h) fun v s1 ⟨x, H1, I1, r1, q1⟩ => thn (hb pins s1 σ H1 _ I1 q1) fun u s2 ⟨y, H2, I2, r2, q2⟩ =>
    thn (ho pins s2 σ H2 x y v u _ I2 r1 r2 q2) fun c s3 ⟨z, H3, I3, r3, k, e, q3⟩ => ?_) hm
  subst e
  cases r3
  exact wpAny_truthy_bool ⟨H3, I3, q3⟩
def tChain (r r' : R2) (ta tb tc : TE) : TE := fun σ H Q => ta σ H fun x H1 => tb σ H1 fun y H2 => r x y H2 fun z H3 => ∃ k, z = .bl k ∧
  (if k = true then tc σ H3 fun w' H4 => r' y w' H4 Q else Q (.bl false) H3)
theorem pe_chain {op op' : CmpOp} {r r' : R2} (ho : OpR X (compareOp op) r) (ho' : OpR X (compareOp op') r') (ha : PE X a ta) (hb : PE X b tb) (hc : PE X c tc)
    (hm : lastMarks [op, op'] [b, c] = false := by with_unfolding_all rfl) : PE X (.Compare a [op, op'] [b, c] pos) (tChain r r' ta tb tc) := by
  intro pins s σ H Q I h
  refine Compare_chain (thn (ha pins s σ H _ I h) fun v s1 ⟨x, H1, I1, r1, q1⟩ => chain_link (thn (hb pins s1 σ H1 _ I1 q1) fun u s2 ⟨y, H2, I2, r2, q2⟩ =>
    thn (ho pins s2 σ H2 x y v u _ I2 r1 r2 q2) fun d s3 ⟨z, H3, I3, r3, k, e, q3⟩ => ?_)) hm
  subst e
  cases r3
  refine wpAny_truthy_bool ?_
  cases k with
  | false => exact ite_ff ⟨.bl false, H3, I3, rfl, q3⟩
  | true => exact ite_tt (chain_last (thn (hc pins s3 σ H3 _ I3 q3) fun w' s4 ⟨z', H4, I4, r4, q4⟩ => ho' pins s4 σ H4 y z' u w' Q I4 r2 r4 q4))
theorem pt_chain {op op' : CmpOp} {r r' : R2} (ho : OpR X (compareOp op) r) (ho' : OpR X (compareOp op') r') (ha : PE X a ta) (hb : PE X b tb) (hc : PE X c tc)
    (hm : lastMarks [op, op'] [b, c] = false := by with_unfolding_all rfl) : PT X (.Compare a [op, op'] [b, c] pos) (tTest (tChain r r' ta tb tc)) := by
  intro pins s σ H Q I h
  refine isTrue_chain (thn (ha pins s σ H _ I h) fun v s1 ⟨x, H1, I1, r1, q1⟩ => test_link (thn (hb pins s1 σ H1 _ I1 q1) fun u s2 ⟨y, H2, I2, r2, q2⟩ =>
    thn (ho pins s2 σ H2 x y v u _ I2 r1 r2 q2) fun d s3 ⟨z, H3, I3, r3, k, e, q3⟩ => ?_)) hm
  subst e
  cases r3
  refine wpAny_truthy_bool ?_
  cases k with
  | false =>
    obtain ⟨k', e', q'⟩ := q3
    cases e'
    exact ite_ff ⟨H3, I3, q'⟩
  | true =>
    refine ite_tt (test_last (thn (hc pins s3 σ H3 _ I3 q3) fun w' s4 ⟨z', H4, I4, r4, q4⟩ => thn (ho' pins s4 σ H4 y z' u w' _ I4 r2 r4 q4) fun d' s5 ⟨z2, H5, I5, r5, k2, e2, q5⟩ => ?_))
    subst e2
    cases r5
    exact wpAny_truthy_bool ⟨H5, I5, q5⟩
theorem line63 : (sizeLine : Nat) < 2 ^ 63 := by rw [sizeLine_eq]; decide
theorem vals1 {x : V} {us : List Value} (r : Vals [x] us) : ∃ u, us = [u] ∧ RelV x u := by
  cases r with
  | cons r1 r2 => cases r2; exact ⟨_, rfl, r1⟩
theorem vals2 {x y : V} {us : List Value} (r : Vals [x, y] us) : ∃ u w', us = [u, w'] ∧ RelV x u ∧ RelV y w' := by
  cases r with
  | cons r1 r2 =>
    cases r2 with
    | cons r3 r4 => cases r4; exact ⟨_, _, rfl, r1, r3⟩
theorem call_abs : CallR X (.builtin "abs") (fun xs H Q => ∃ i, xs = [.int i] ∧ Q (.int (if i < 0 then -i else i)) H) := by
  intro pins s σ H xs us Q I r h
  obtain ⟨i, rfl, q⟩ := h
  obtain ⟨u, rfl, t, rfl⟩ := vals1 r
  exact call_abs_int fun u tk => ⟨.int (if i < 0 then -i else i), H, I.tok _, ⟨_, rfl⟩, q⟩
theorem call_max2 (hc : X.calm = true) : CallR X (.builtin "max") (fun xs H Q => ∃ i j, xs = [.int i, .int j] ∧ Q (.int (if j > i then j else i)) H) := by
  intro pins s σ H xs us Q I r h
  obtain ⟨i, j, rfl, q⟩ := h
  obtain ⟨u, w', rfl, ⟨t, rfl⟩, ⟨t', rfl⟩⟩ := vals2 r
  refine max_two_ints (I.ok.hd hc) fun h' tk k => ⟨_, H, I.kept k, ?_, q⟩
  by_cases hj : j > i
  · rw [if_pos hj, if_pos hj]; exact ⟨_, rfl⟩
  · rw [if_neg hj, if_neg hj]; exact ⟨_, rfl⟩
theorem call_min2 (hc : X.calm = true) : CallR X (.builtin "min") (fun xs H Q => ∃ i j, xs = [.int i, .int j] ∧ Q (.int (if j < i then j else i)) H) := by
  intro pins s σ H xs us Q I r h
  obtain ⟨i, j, rfl, q⟩ := h
  obtain ⟨u, w', rfl, ⟨t, rfl⟩, ⟨t', rfl⟩⟩ := vals2 r
  refine min_two_ints (I.ok.hd hc) fun h' tk k => ⟨_, H, I.kept k, ?_, q⟩
  by_cases hj : j < i
  · rw [if_pos hj, if_pos hj]; exact ⟨_, rfl⟩
  · rw [if_neg hj, if_neg hj]; exact ⟨_, rfl⟩
end
end L2
namespace L2
open PySem PySem.Spec PyProof.Rows
structure ObjM (h : Heap) (x dx C : Addr) (mA : Str → Option Value) : Prop where
  obj : h.get? x = some (PySem.W.instObj C dx)
  ns : h.Ns1 dx mA
  ne : dx ≠ x
theorem lookIn_ns {h : Heap} {dx : Addr} {mA : Str → Option Value} (n : h.Ns1 dx mA) : ∃ od, h.get? dx = some od ∧ ∀ name, PySem.W.lookIn name od = some (mA name) := by
  obtain ⟨o, es, ep, ho, hd, hk, _, hm⟩ := n
  refine ⟨o, ho, fun name => ?_⟩
  have e := hm name
  unfold nsFind findBy at e
  rw [← Array.find?_toList] at e
  unfold PySem.W.lookIn
  rw [hd]
  dsimp only
  split
  · rename_i y q
    rw [q] at e
    exact congrArg some e
  · rename_i q
    rw [q] at e
    have a : es.toList.any (·.refKey) = false := by
      rw [List.any_eq_false]
      intro y hy
      obtain ⟨z, t, hkey⟩ := hk y (Array.mem_toList_iff.mp hy)
      simp [DictEntry.refKey, hkey]
    have a' : ¬ es.toList.any (·.refKey) = true := by rw [a]; exact Bool.false_ne_true
    rw [if_neg a']
    exact congrArg some e
theorem ObjM.look {h : Heap} {x dx C : Addr} {mA : Str → Option Value} (I : ObjM h x dx C mA) : ∃ od, PySem.W.InstAt h x (PySem.W.instObj C dx) C (some od) ∧ ∀ name, PySem.W.lookIn name od = some (mA name) :=
  let ⟨od, ho, hl⟩ := lookIn_ns I.ns
  ⟨od, ⟨I.obj, rfl, rfl, ho⟩, hl⟩
section
variable {prog : Program} {w : World} {A : Around} {E : Value → Shared → Prop} {s : Shared} {K : PySem.W.Frag} {x dx C f : Addr} {mA : Str → Option Value} {name : Str} {v : Value}
theorem get_map {expr : Bool} {Q : Value → Shared → Prop} (X : K.In s.heap) (I : ObjM s.heap x dx C mA) (hg : PySem.W.plainGet K C name = true) (hh : PySem.W.hasDictIn K C = true)
    (ha : PySem.W.findIn K (.ref C) name = some none) (hv : mA name = some v) (hv' : PySem.W.handedIn v = true) (h : Q v { s with toks := s.toks + 1 }) :
    wpAny (model prog w) A (getAttr (.ref x) name expr) Q E s := by
  obtain ⟨od, J, hl⟩ := I.look
  exact PySem.W.get_value X J (PySem.W.plainGet_of hg).1 (PySem.W.findObj_own hh ha rfl (by rw [hl, hv])) hv' h
theorem get_meth {pl : Sem Bool} {Q : Value × List Value → Shared → Prop} (X : K.In s.heap) (I : ObjM s.heap x dx C mA) (hg : PySem.W.plainGet K C name = true)
    (hf : PySem.W.findIn K (.ref C) name = some (some (.ref f))) (ht : PySem.W.isFn K (.ref f) = true) (hv : mA name = none) (h : Q (.ref f, [.ref x]) s) :
    wpAny (model prog w) A (getMethod (.ref x) name pl) Q E s := by
  obtain ⟨od, J, hl⟩ := I.look
  exact PySem.W.method_fn X J (PySem.W.plainGet_of hg).1 (PySem.W.plainGet_of hg).2 hf (beq_iff_eq.mp ht) (by show (PySem.W.lookIn name od).map (·.isSome) = some false; rw [hl, hv]; rfl) h
theorem set_map {ns : List Str} {Q : Unit → Shared → Prop} (X : K.In s.heap) (I : ObjM s.heap x dx C mA)
    (hs : PySem.W.findIn K (.ref C) "__setattr__" = some (some (.builtin "object.__setattr__"))) (hp : PySem.W.plainOver K C = true) (ht : PySem.W.takerIn K C name = some none) (hh : PySem.W.hasDictIn K C = true)
    (hw : PySem.Within mA ns) (hsz : ns.length ≤ sizeLine)
    (h : ∀ h', ObjM h' x dx C (fun y => if y = name then some v else mA y) → Heap.SameBut dx s.heap h' → Q () { s with heap := h', toks := s.toks + 2 }) :
    wpAny (model prog w) A (setAttr (.ref x) name v) Q E s := by
  obtain ⟨od, J, hl⟩ := I.look
  refine PySem.W.set_plain X J hs (PySem.W.osa_open (s := { s with toks := s.toks + 1 }) (r := none) X J hp ht fun b => ?_)
  obtain ⟨cd, hc, hd'⟩ := PySem.W.any_some hh
  have hx : s.heap.get? x = some ⟨.ref C, some dx, .plain, #[]⟩ := I.obj
  refine wpAny_bind (wpAny_pure (wpAny_bind (wpAny_bind (wpAny_loadPart hx (wpAny_bind (PySem.W.Looks.here (s := { s with toks := s.toks + 1 }) (PySem.W.looks_clsIn X hc) ?_))))))
  rw [hd']
  refine wpAny_pure (a := some dx) (wpAny_bind (wpAny_pure (wpAny_bind ?_)))
  refine wpAny_nsSet1 (s := { s with toks := s.toks + 1 }) I.ns fun h' hn2 hs2 => ?_
  obtain ⟨oD, esD, epD, hoD, hdD, hcD⟩ := hn2.count (PySem.Within.cons name v hw)
  refine wpAny_bind (wpAny_lookBehind hoD (by rw [hdD]; exact pastItsLine_dict (Nat.le_trans hcD (by rw [List.length_cons]; omega))) ?_)
  exact wpAny_pure (h _ ⟨(hs2.2 _ (Ne.symm I.ne)).trans I.obj, hn2, I.ne⟩ hs2)
theorem make_map {R : Result → Shared → Prop} {vs : List Value} {kw : List (Str × Value)} (X : K.In s.heap) (hm : PySem.W.makesIn K C = true)
    (hi : PySem.W.findIn K (.ref C) "__init__" = some (some (.ref f))) (hf : PySem.W.typeIn K (.ref f) = some (.type "function"))
    (h : codeAny (model prog w) (A.under (.builtin "type.__call__" ⟨.ref C :: vs, kw⟩)) (.call (.ref f) ⟨.ref (s.heap.objs.size + 1) :: vs, kw⟩) (PySem.W.InitBack (s.heap.objs.size + 1) R)
      { s with heap := (s.heap.push PySem.W.emptyDict).push (PySem.W.instObj C s.heap.objs.size) }) :
    codeAny (model prog w) A (.call (.ref C) ⟨vs, kw⟩) R s := by
  obtain ⟨hh, g, d, t, os⟩ := s
  exact PySem.W.make_core (PySem.W.makes_of X hm) (PySem.W.looks_findIn X hi) (fun self => PySem.W.bind_fn X self hf) (.inl rfl) h
end
def putF (f : Str) (v : V) : List (Str × V) → List (Str × V)
  | [] => [(f, v)]
  | (g, x) :: r => if g = f then (g, v) :: r else (g, x) :: putF f v r
theorem lookup_putF (f g : Str) (v : V) : ∀ fs : List (Str × V), (putF f v fs).lookup g = if g = f then some v else fs.lookup g
  | [] => by
    show List.lookup g [(f, v)] = _
    by_cases h : g = f
    · have hb : (g == f) = true := beq_iff_eq.mpr h
      simp only [List.lookup, hb, if_pos h]
    · have hb : (g == f) = false := beq_eq_false_iff_ne.mpr h
      simp only [List.lookup, hb, if_neg h]
  | (k, x) :: r => by
    have ih := lookup_putF f g v r
    rw [show putF f v ((k, x) :: r) = (if k = f then (k, v) :: r else (k, x) :: putF f v r) from rfl]
    by_cases hk : k = f
    · rw [if_pos hk]
      by_cases h : g = k
      · have hb : (g == k) = true := beq_iff_eq.mpr h
        simp only [List.lookup, hb, if_pos (h.trans hk)]
      · have hb : (g == k) = false := beq_eq_false_iff_ne.mpr h
        simp only [List.lookup, hb, if_neg (fun e : g = f => h (e.trans hk.symm))]
    · rw [if_neg hk]
      by_cases h : g = k
      · have hb : (g == k) = true := beq_iff_eq.mpr h
        simp only [List.lookup, hb, if_neg (fun e : g = f => hk (h.symm.trans e))]
      · have hb : (g == k) = false := beq_eq_false_iff_ne.mpr h
        simp only [List.lookup, hb]
        exact ih
theorem keys_putF (f : Str) (v : V) : ∀ fs : List (Str × V), f ∈ (putF f v fs).map (·.1) ∧ ∀ g, g ∈ fs.map (·.1) → g ∈ (putF f v fs).map (·.1)
  | [] => ⟨by simp [putF], fun g h => by simp at h⟩
  | (k, x) :: r => by
    obtain ⟨i1, i2⟩ := keys_putF f v r
    rw [show putF f v ((k, x) :: r) = (if k = f then (k, v) :: r else (k, x) :: putF f v r) from rfl]
    by_cases hk : k = f
    · rw [if_pos hk]
      subst hk
      exact ⟨by simp, fun g h => by simpa using h⟩
    · rw [if_neg hk]
      refine ⟨?_, fun g h => ?_⟩
      · rw [List.map_cons]
        exact List.mem_cons_of_mem _ i1
      · rw [List.map_cons] at h ⊢
        rcases List.mem_cons.mp h with e | e
        · exact List.mem_cons.mpr (.inl e)
        · exact List.mem_cons_of_mem _ (i2 g e)
theorem length_putF (f : Str) (v : V) : ∀ fs : List (Str × V), (putF f v fs).length ≤ fs.length + 1
  | [] => by simp [putF]
  | (k, x) :: r => by
    have ih := length_putF f v r
    rw [show putF f v ((k, x) :: r) = (if k = f then (k, v) :: r else (k, x) :: putF f v r) from rfl]
    by_cases hk : k = f
    · rw [if_pos hk, List.length_cons, List.length_cons]; omega
    · rw [if_neg hk, List.length_cons, List.length_cons]; omega
theorem RelO.some_of {v : V} {o : Option Value} (r : RelO (some v) o) : ∃ u, o = some u ∧ RelV v u := by
  cases o with
  | none => exact (show False from r).elim
  | some u => exact ⟨u, rfl, r⟩
theorem RelO.none_of {o : Option Value} (r : RelO none o) : o = none := by
  cases o with
  | none => rfl
  | some u => exact (show False from r).elim
theorem handed_of {v : V} {u : Value} (r : RelV v u) : PySem.W.handedIn u = true := by
  cases v with
  | non => cases (show u = Value.none from r); rfl
  | bl b => cases (show u = Value.bool b from r); rfl
  | int i => obtain ⟨t, e⟩ := (show ∃ t, u = Value.int i t from r); cases e; rfl
  | str x => obtain ⟨t, e⟩ := (show ∃ t, u = Value.str x t from r); cases e; rfl
  | byt b => obtain ⟨t, e⟩ := (show ∃ t, u = Value.bytes b t from r); cases e; rfl
  | flt b => obtain ⟨t, e⟩ := (show ∃ t, u = Value.float b t from r); cases e; rfl
  | ref a => cases (show u = Value.ref a from r); rfl
  | ty n => cases (show u = Value.type n from r); rfl
section
variable {P : Program} {w : World} {H H' : Hp} {h h' : Heap} {a C dx : Addr} {fs fs' : List (Str × V)}
theorem ins_get (hok : HOk P w H h) (e : H a = some (.ins C dx fs)) : ∃ mA, ObjM h a dx C mA ∧ (∀ f, RelO (fs.lookup f) (mA f)) ∧ PySem.Within mA (fs.map (·.1)) ∧ fs.length ≤ 1000 ∧ H dx = some (.own a) := by
  obtain ⟨d, z, ne, ob, mA, n, r, q⟩ := (show ObjOk P w H h a (.ins C dx fs) from hok a _ e)
  exact ⟨mA, ⟨ob, n, ne⟩, r, q, z, d⟩
end
structure Cls (K : PySem.W.Frag) (C : Addr) : Prop where
  pg : PySem.W.plainGet K C Str.empty = true
  hd : PySem.W.hasDictIn K C = true
  po : PySem.W.plainOver K C = true
  sa : PySem.W.findIn K (.ref C) "__setattr__" = some (some (.builtin "object.__setattr__"))
theorem Cls.get {K : PySem.W.Frag} {C : Addr} (c : Cls K C) (f : Str) : PySem.W.plainGet K C f = true := c.pg
def NoAttr (K : PySem.W.Frag) (C : Addr) (f : Str) : Prop := PySem.W.findIn K (.ref C) f = some none
theorem NoAttr.taker {K : PySem.W.Frag} {C : Addr} {f : Str} (n : NoAttr K C f) : PySem.W.takerIn K C f = some none := by
  unfold PySem.W.takerIn
  rw [show PySem.W.findIn K (.ref C) f = some none from n]
  rfl
structure Con (K : PySem.W.Frag) (C : Addr) (f : Str) (v : V) (u : Value) : Prop where
  at_ : PySem.W.findIn K (.ref C) f = some (some u)
  rel : RelV v u
  get : PySem.W.specialIn K u "__get__" = some none
  cp : PySem.W.copiedNames.contains f = false
structure Meth (K : PySem.W.Frag) (C : Addr) (m : Str) (f : Addr) : Prop where
  at_ : PySem.W.findIn K (.ref C) m = some (some (.ref f))
  fn : PySem.W.isFn K (.ref f) = true
  kp : PySem.W.keepIn K (.ref f) = true
section
variable {X : Cx} {pins : List (Addr × Obj)} {σ : St} {H : Hp} {s : Shared} {a C dx : Addr} {fs : List (Str × V)} {f : Str} {v : V} {A : Around} {E : Value → Shared → Prop}
theorem getattr_ok {b : Bool} {Q : Value → Shared → Prop} (I : Inv X pins σ H s) (e : H a = some (.ins C dx fs)) (c : Cls X.K C) (n : NoAttr X.K C f) (l : fs.lookup f = some v)
    (h : ∀ u s', Inv X pins σ H s' → RelV v u → Q u s') : wpAny (model X.prog X.w) A (getAttr (.ref a) f b) Q E s := by
  obtain ⟨mA, O, r, _, _, _⟩ := ins_get I.hok e
  obtain ⟨u, hu, ru⟩ := RelO.some_of (v := v) (o := mA f) (by rw [← l]; exact r f)
  exact get_map I.kIn O (c.get f) c.hd n hu (handed_of ru) (h u _ (I.tok _) ru)
theorem getmeth_ok {m : Str} {g : Addr} {pl : Sem Bool} {Q : Value × List Value → Shared → Prop} (I : Inv X pins σ H s) (e : H a = some (.ins C dx fs)) (c : Cls X.K C) (k : Meth X.K C m g) (l : fs.lookup m = none)
    (h : Q (.ref g, [.ref a]) s) : wpAny (model X.prog X.w) A (getMethod (.ref a) m pl) Q E s := by
  obtain ⟨mA, O, r, _, _, _⟩ := ins_get I.hok e
  have hn : mA m = none := RelO.none_of (by rw [← l]; exact r m)
  exact get_meth I.kIn O (c.get m) k.at_ k.fn hn h
theorem setattr_ok {y : V} {u : Value} {Q : Unit → Shared → Prop} (I : Inv X pins σ H s) (e : H a = some (.ins C dx fs)) (c : Cls X.K C) (n : NoAttr X.K C f) (hl : fs.length < 1000) (ry : RelV y u)
    (h : ∀ s', Inv X pins σ (upd H a (.ins C dx (putF f y fs))) s' → Q () s') : wpAny (model X.prog X.w) A (setAttr (.ref a) f u) Q E s := by
  obtain ⟨mA, O, r, wi, _, ho⟩ := ins_get I.hok e
  have hz : (fs.map (·.1)).length ≤ sizeLine := by rw [List.length_map, sizeLine_eq]; omega
  refine set_map I.kIn O c.sa c.po n.taker c.hd wi hz fun h' O' sb => h _ ?_
  have hd : ∃ o, h'.get? dx = some o := let ⟨o, _, _, e', _⟩ := O'.ns; ⟨o, e'⟩
  refine I.write (x := a) (e := dx) (by rw [e]; exact True.intro) (.inr ho) (fun b q hb z => (sb.2 b hb).trans z) hd ?_
  refine ⟨by rw [upd_ne O.ne]; exact ho, ?_, O.ne, O'.obj, _, O'.ns, fun g => ?_, fun g hg => ?_⟩
  · have := length_putF f y fs; omega
  · show RelO ((putF f y fs).lookup g) (if g = f then some u else mA g)
    rw [lookup_putF]
    by_cases q : g = f
    · rw [if_pos q, if_pos q]; exact ry
    · rw [if_neg q, if_neg q]; exact r g
  · by_cases q : g = f
    · rw [q]; exact (keys_putF f y fs).1
    · refine (keys_putF f y fs).2 g (wi g fun z => hg ?_)
      show (if g = f then some u else mA g) = none
      rw [if_neg q]; exact z
theorem Inv.made (I : Inv X pins σ H s) : Inv X pins σ (upd (upd H s.heap.objs.size (.own (s.heap.objs.size + 1))) (s.heap.objs.size + 1) (.ins C s.heap.objs.size []))
    { s with heap := (s.heap.push PySem.W.emptyDict).push (PySem.W.instObj C s.heap.objs.size) } := by
  have e1 : (s.heap.push PySem.W.emptyDict).get? s.heap.objs.size = some PySem.W.emptyDict := Heap.get?_push_size s.heap rfl
  have e2 : ((s.heap.push PySem.W.emptyDict).push (PySem.W.instObj C s.heap.objs.size)).get? (s.heap.objs.size + 1) = some (PySem.W.instObj C s.heap.objs.size) := by
    have := Heap.get?_push_size (s.heap.push PySem.W.emptyDict) (o := PySem.W.instObj C s.heap.objs.size) rfl
    rwa [Heap.size_push] at this
  have e3 : (s.heap.push PySem.W.emptyDict).Ns s.heap.objs.size (fun _ => none) := ⟨PySem.W.emptyDict, #[], _, e1, rfl, (fun e he => absurd he (by simp)), fun _ => rfl⟩
  have I1 := I.laid (a := s.heap.objs.size) (o := .own (s.heap.objs.size + 1)) (h' := s.heap.push PySem.W.emptyDict) (t' := s.toks) (fun b u q => Heap.get?_push_of_some _ q) (Nat.le_refl _) ⟨_, e1⟩
  refine I1.laid (a := s.heap.objs.size + 1) (o := .ins C s.heap.objs.size []) (t' := s.toks) (fun b u q => Heap.get?_push_of_some _ q) (Nat.le_of_eq (Heap.size_push _ _)) ?_
  have ne : s.heap.objs.size ≠ s.heap.objs.size + 1 := Nat.ne_of_lt (Nat.lt_succ_self _)
  refine ⟨by rw [upd_ne ne, upd_same], Nat.zero_le _, ne, e2, fun _ => none, (Heap.Ns1.of_empty e3).at fun o q => Heap.get?_push_of_some _ q, fun _ => True.intro, fun y hy => absurd rfl hy⟩
theorem attr_of {prog : Program} {w : World} {env : Env} {e : Expr} {f : Str} {pos : Pos} {s : Shared} {Q : Value → Shared → Prop} (hb : attributeBase e f env (eval e env) = eval e env)
    (h : wpAny (model prog w) A (eval e env) (fun o s₁ => wpAny (model prog w) A (getAttr o f true) Q E s₁) E s) : wpAny (model prog w) A (eval (.Attribute e f pos) env) Q E s :=
  Attribute_any_ h (by rw [arm_eval_Attribute, hb])
end
def tFld (K : PySem.W.Frag) (ta : TE) (f : Str) : TE := fun σ H Q => ta σ H fun x H1 => ∃ a C dx fs v, x = .ref a ∧ H1 a = some (.ins C dx fs) ∧ Cls K C ∧ NoAttr K C f ∧ fs.lookup f = some v ∧ Q v H1
def sFld (K : PySem.W.Frag) (ta tv : TE) (f : Str) : TS := fun D σ H => tv σ H fun y H1 => ta σ H1 fun x H2 => ∃ a C dx fs, x = .ref a ∧ H2 a = some (.ins C dx fs) ∧ Cls K C ∧ NoAttr K C f ∧ fs.length < 1000 ∧
  D.nx σ (upd H2 a (.ins C dx (putF f y fs)))
def InOp (X : Cx) (op : Operator) (rd : V → V → Hp → VK → Prop) : Prop :=
  ∀ (pins : List (Addr × Obj)) (s : Shared) (σ : St) (H : Hp) (x y : V) (u v : Value) (Q : VK), Inv X pins σ H s → RelV x u → RelV y v → rd x y H Q → wpAny (model X.prog X.w) X.A (inplaceOp op u v) (EP X pins σ Q) X.xe s
def sFldAug (K : PySem.W.Frag) (ta tv : TE) (rd : V → V → Hp → VK → Prop) (f : Str) : TS := fun D σ H => ta σ H fun x H1 => ∃ a C dx fs v, x = .ref a ∧ H1 a = some (.ins C dx fs) ∧ Cls K C ∧ NoAttr K C f ∧ fs.lookup f = some v ∧
  tv σ H1 fun y H2 => rd v y H2 fun z H3 => ∃ dx' fs', H3 a = some (.ins C dx' fs') ∧ fs'.length < 1000 ∧ D.nx σ (upd H3 a (.ins C dx' (putF f z fs')))
section
variable {X : Cx} {o e value : Expr} {f : Str} {pos pos' tpos : Pos} {ta tv : TE}
theorem pe_fld (he : PE X e ta) (hb : attributeBase e f X.env (eval e X.env) = eval e X.env) : PE X (.Attribute e f pos) (tFld X.K ta f) := by
  intro pins s σ H Q I h
  refine attr_of hb (thn (he pins s σ H _ I h) fun u s1 ⟨x, H1, I1, rx, a, C, dx, fs, v, ex, ea, c, n, l, q⟩ => ?_)
  subst ex
  obtain rfl : u = Value.ref a := rx
  exact getattr_ok I1 ea c n l fun u' s2 I2 ru => ⟨v, H1, I2, ru, q⟩
theorem ps_fld (ha : PE X o ta) (hv : PE X value tv) (hs : swapsWith value (some (.Attribute o f pos')) pos.line X.env = pure false) : PS X (.Assign [.Attribute o f pos'] value pos) (sFld X.K ta tv f) := by
  intro pins s σ H D I h
  refine plainObj_wpAny_Assign_Attribute (thn (hv pins s σ H _ I h) fun u s1 ⟨y, H1, I1, ry, q⟩ => thn (ha pins s1 σ H1 _ I1 q) fun ov s2 ⟨x, H2, I2, rx, a, C, dx, fs, ex, ea, c, n, l, q2⟩ => ?_) hs
  subst ex
  obtain rfl : ov = Value.ref a := rx
  exact setattr_ok I2 ea c n l ry fun s3 I3 => ⟨σ, _, I3, q2⟩
theorem ps_fldaug {op : Operator} {rd : V → V → Hp → VK → Prop} (ha : PE X o ta) (hv : PE X value tv) (hop : InOp X op rd) : PS X (.AugAssign (.Attribute o f tpos) op value pos) (sFldAug X.K ta tv rd f) := by
  intro pins s σ H D I h
  refine wpAny_AugAssign_AttributeAny (thn (ha pins s σ H _ I h) fun ov s1 ⟨x, H1, I1, rx, a, C, dx, fs, v, ex, ea, c, n, l, q⟩ => ?_)
  subst ex
  obtain rfl : ov = Value.ref a := rx
  refine getattr_ok I1 ea c n l fun u s2 I2 ru => thn (hv pins s2 σ H1 _ I2 q) fun w3 s3 ⟨y, H2, I3, ry, q3⟩ => thn (hop pins s3 σ H2 v y u w3 _ I3 ru ry q3) fun w4 s4 ⟨z, H3, I4, rz, dx', fs', ea', l', q4⟩ => ?_
  exact setattr_ok I4 ea' c n l' rz fun s5 I5 => ⟨σ, _, I5, q4⟩
def rAdd : V → V → Hp → VK → Prop := fun x y H Q => ∃ i j, x = .int i ∧ y = .int j ∧ Q (.int (i + j)) H
def rSub : V → V → Hp → VK → Prop := fun x y H Q => ∃ i j, x = .int i ∧ y = .int j ∧ Q (.int (i - j)) H
theorem in_add : InOp X .Add rAdd := by
  rintro pins s σ H x y u v Q I rx ry ⟨i, j, rfl, rfl, q⟩
  obtain ⟨t, rfl⟩ := (show ∃ t, u = Value.int i t from rx)
  obtain ⟨t', rfl⟩ := (show ∃ t', v = Value.int j t' from ry)
  exact PyProof.Rows.iadd_int ⟨.int (i + j), H, I.tok _, ⟨_, rfl⟩, q⟩
theorem in_sub : InOp X .Sub rSub := by
  rintro pins s σ H x y u v Q I rx ry ⟨i, j, rfl, rfl, q⟩
  obtain ⟨t, rfl⟩ := (show ∃ t, u = Value.int i t from rx)
  obtain ⟨t', rfl⟩ := (show ∃ t', v = Value.int j t' from ry)
  exact PyProof.Rows.isub_int ⟨.int (i - j), H, I.tok _, ⟨_, rfl⟩, q⟩
theorem methcall_of {pl : Sem Bool} {m : Str} {apos : Pos} {args : List Expr} {pins : List (Addr × Obj)} {s : Shared} {σ : St} {H : Hp} {Q : Value → Shared → Prop} {te : TE} (he : PE X e te) (I : Inv X pins σ H s)
    (h : te σ H fun x H1 => ∃ a C dx fs g, x = .ref a ∧ H1 a = some (.ins C dx fs) ∧ Cls X.K C ∧ Meth X.K C m g ∧ fs.lookup m = none ∧
      ∀ s1, Inv X pins σ H1 s1 → wpAny (model X.prog X.w) X.A (callWith pos (.ref g) [.ref a] (backTo pos (starEach args X.env)) (backToKw pos (keywordEach [] X.env))) Q X.xe s1)
    (ht : eval (.Call (.Attribute e m apos) args [] pos) X.env = (do
      let ov ← eval e X.env
      standAt apos.atName
      let (f, first) ← holding [ov] (getMethod ov m pl)
      callWith pos f first (backTo pos (starEach args X.env)) (backToKw pos (keywordEach [] X.env)))) :
    wpAny (model X.prog X.w) X.A (eval (.Call (.Attribute e m apos) args [] pos) X.env) Q X.xe s := by
  refine PySem.W.methodCall_KW (pl := pl) (thn (he pins s σ H _ I h) fun u s1 ⟨x, H1, I1, rx, a, C, dx, fs, g, ex, ea, c, k, l, q⟩ => ?_) ht
  subst ex
  obtain rfl : u = Value.ref a := rx
  exact getmeth_ok I1 ea c k l (q s1 I1)
end
section
variable {X : Cx} {pins : List (Addr × Obj)} {σ : St} {H : Hp} {s : Shared} {A : Around} {E : Value → Shared → Prop} {Q : Value → Shared → Prop} {c : Value} {b : Bool}
inductive TyOf (K : PySem.W.Frag) (H : Hp) : V → Value → Prop where
  | non : TyOf K H .non (.type "NoneType")
  | bl (x : Bool) : TyOf K H (.bl x) (.type "bool")
  | int (i : Int) : TyOf K H (.int i) (.type "int")
  | str (x : Str) : TyOf K H (.str x) (.type "str")
  | flt (x : UInt64) : TyOf K H (.flt x) (.type "float")
  | lst {a : Addr} {xs : List V} (e : H a = some (.lst xs)) : TyOf K H (.ref a) (.type "list")
  | frz {a : Addr} {o : Obj} {xs : List V} (e : H a = some (.frz o (.lst xs))) : TyOf K H (.ref a) (.type "list")
  | tup {a : Addr} {xs : List V} (e : H a = some (.tup xs)) : TyOf K H (.ref a) (.type "tuple")
  | dK {a : Addr} {kvs : List (Key × V)} (e : H a = some (.dK kvs)) : TyOf K H (.ref a) (.type "dict")
  | dT {a : Addr} {kvs : List (List Key × V)} (e : H a = some (.dT kvs)) : TyOf K H (.ref a) (.type "dict")
  | ins {a C dx : Addr} {fs : List (Str × V)} (e : H a = some (.ins C dx fs)) (cl : Cls K C) (ha : PySem.W.findIn K (.ref C) "__class__" = some (some (.builtin "object.__class__")))
      (hn : PySem.W.specialIn K (.builtin "object.__class__") "__get__" = some (some (.builtin "getset_descriptor.__get__"))) (htk : PySem.W.takesIn K (.builtin "object.__class__") = some true)
      (hm : PySem.W.mroIn K C (.type "object") = some true) : TyOf K H (.ref a) (.ref C)
end
end L2
namespace L2
open PySem PySem.Spec PyProof.Rows
structure Room (k : Nat) (A : Around) : Prop where
  hd : A.handled = none
  dp : A.depth + 3 * k + 5 < recursionLimit
  un : A.units + 16 * k + 200 < cLine
theorem Room.mono {j k : Nat} {A : Around} (r : Room k A) (h : j ≤ k) : Room j A := ⟨r.hd, by have := r.dp; omega, by have := r.un; omega⟩
theorem Room.deeper {k : Nat} {A : Around} (r : Room (k + 1) A) (env : Env) : Room k (A.deeper env) :=
  ⟨r.hd, by have := r.dp; show A.depth + 1 + 3 * k + 5 < _; omega, by have := r.un; show A.units + 3 + 16 * k + 200 < _; omega⟩
theorem make_depth {A : Around} {C : Addr} {us : List Value} {kw : List (Str × Value)} : (A.under (.builtin "type.__call__" ⟨.ref C :: us, kw⟩)).depth = A.depth + 1 := by
  first | rfl | simp [Around.under, Code.weight, Code.isCreation, Code.isGuard, Code.isCaller, Code.frames, Code.isFrame, guardIds]
theorem make_units {A : Around} {C : Addr} {us : List Value} {kw : List (Str × Value)} : (A.under (.builtin "type.__call__" ⟨.ref C :: us, kw⟩)).units = A.units + 1 := by
  first | rfl | simp [Around.under, Code.cUnits, Code.frames, Code.isFrame]
theorem Room.make {k : Nat} {A : Around} (r : Room (k + 1) A) (C : Addr) (us : List Value) (kw : List (Str × Value)) : Room k (A.under (.builtin "type.__call__" ⟨.ref C :: us, kw⟩)) :=
  ⟨r.hd, by have := r.dp; rw [make_depth]; omega, by have := r.un; rw [make_units]; omega⟩
theorem Room.depth {k : Nat} {A : Around} (r : Room k A) : A.depth < recursionLimit := by have := r.dp; omega
theorem Room.units {k : Nat} {A : Around} (r : Room k A) : A.units + 64 < cLine := by have := r.un; omega
def tNil : TA := fun _ H Q => Q [] H
def tCons (ta : TE) (tr : TA) : TA := fun σ H Q => ta σ H fun x H1 => tr σ H1 fun xs H2 => Q (x :: xs) H2
section
variable {X : Cx} {e : Expr} {es : List Expr} {te : TE} {t : TA} {pos : Pos}
theorem pa_nil : PA X [] tNil := fun _ _ _ _ H Q I h => Calls.spliced_nil ⟨[], H, I, .nil, h⟩
theorem pa_cons (ha : PE X e te) (hr : PA X es t) (hs : starEach (e :: es) X.env = (false, eval e X.env) :: starEach es X.env := by rfl) : PA X (e :: es) (tCons te t) := by
  intro pos pins s σ H Q I h
  rw [hs]
  show wpAny _ _ (spliced ((false, eval e X.env) :: backTo pos (starEach es X.env))) _ _ s
  refine Calls.spliced_cons (thn (ha pins s σ H _ I h) fun u s1 ⟨x, H1, I1, r1, q1⟩ => ?_)
  exact thn (hr pos pins s1 σ H1 _ I1 q1) fun us s2 ⟨xs, H2, I2, r2, q2⟩ => ⟨x :: xs, H2, I2, .cons r1 r2, q2⟩
def tTup (t : TA) : TE := fun σ H Q => t σ H fun xs H1 => xs.length ≤ sizeLine ∧ ∀ p, H1 p = none → Q (.ref p) (upd H1 p (.tup xs))
def tLst (t : TA) : TE := fun σ H Q => t σ H fun xs H1 => xs.length ≤ sizeLine ∧ ∀ p, H1 p = none → Q (.ref p) (upd H1 p (.lst xs))
theorem pe_tup {x1} (h : PA X es t) : PE X (.Tuple es x1 pos) (tTup t) := by
  intro pins s σ H Q I hq
  refine wpAny_Tuple_spliced (thn (h pos pins s σ H _ I hq) fun us s1 ⟨xs, H1, I1, r, z, q⟩ => ⟨by rw [← r.length]; exact z, ?_⟩)
  have hf : H1 s1.heap.objs.size = none := I1.hok.fresh (Nat.le_refl _)
  refine ⟨.ref s1.heap.objs.size, upd H1 s1.heap.objs.size (.tup xs), I1.laid (t' := s1.toks) (fun b u e => Heap.get?_push_of_some _ e) (Nat.le_refl _) ?_, rfl, q _ hf⟩
  exact ⟨z, us, r, ⟨_, Heap.get?_push_size _ rfl, rfl, _, rfl⟩⟩
theorem pe_lst (h : PA X es t) : PE X (.List es pos) (tLst t) := by
  intro pins s σ H Q I hq
  refine wpAny_List_spliced (thn (h pos pins s σ H _ I hq) fun us s1 ⟨xs, H1, I1, r, z, q⟩ => ⟨by rw [← r.length]; exact z, ?_⟩)
  have hf : H1 s1.heap.objs.size = none := I1.hok.fresh (Nat.le_refl _)
  refine ⟨.ref s1.heap.objs.size, upd H1 s1.heap.objs.size (.lst xs), I1.laid (t' := s1.toks) (fun b u e => Heap.get?_push_of_some _ e) (Nat.le_refl _) ?_, rfl, q _ hf⟩
  exact ⟨z, us, 0, r, Heap.get?_push_size _ rfl⟩
end
abbrev Sp := List V → Hp → VK → XK → Prop
abbrev CXT := List Env → Hp → Shared → XK → Value → Shared → Prop
structure Env0 (P : Program) (w : World) (K : PySem.W.Frag) (mg : Str → Option Value) (base : Heap) (A : Around) (outer : List Env) (s : Shared) (H : Hp) : Prop where
  frames : A.frames = some outer
  mod : Mod K mg base
  bs : ∀ b o, base.get? b = some o → s.heap.get? b = some o ∧ H b = none
  bsz : base.objs.size ≤ s.heap.objs.size
  funs : s.heap.FunFrames base outer
  frf : ∀ b ∈ frs outer, H b = none
  hok : HOk P w H s.heap
  bare : AllBare s.gens
def CE (outer : List Env) (P : Program) (w : World) (H : Hp) (s : Shared) (Q : VK) (u : Value) (s' : Shared) : Prop :=
  ∃ v H', s'.os = s.os ∧ AllBare s'.gens ∧ Un (frs outer) [] H H' s.heap s'.heap ∧ HOk P w H' s'.heap ∧ RelV v u ∧ Q v H'
def CR (CX : CXT) (outer : List Env) (P : Program) (w : World) (H : Hp) (s : Shared) (Q : VK) (E : XK) (r : Result) (s' : Shared) : Prop :=
  match r with
  | .ok (.ret u) => CE outer P w H s Q u s'
  | .ok _ => False
  | .error e => CX outer H s E e s'
structure FnOk (P : Program) (w : World) (K : PySem.W.Frag) (mg : Str → Option Value) (base : Heap) (CX : CXT) (k : Nat) (f : Addr) (fd : FuncData) (ps : List Str) (sp : Sp) : Prop where
  len : ∀ vs H Q E, sp vs H Q E → vs.length = ps.length
  run : ∀ (A : Around) (outer : List Env) (s : Shared) (H : Hp) (args : Args) (us : List Value) (vs : List V) (Q : VK) (E : XK), Room k A → Env0 P w K mg base A outer s H → BindsTo s fd args (ps.zip us) → Vals vs us → sp vs H Q E →
    codeAny (model P w) A (.call (.ref f) args) (CR CX outer P w H s Q E) s
theorem Env0.make {P : Program} {w : World} {K : PySem.W.Frag} {mg : Str → Option Value} {base : Heap} {A : Around} {outer : List Env} {s : Shared} {H : Hp} (e : Env0 P w K mg base A outer s H) (C : Addr) (us : List Value) (kw : List (Str × Value)) :
    Env0 P w K mg base (A.under (.builtin "type.__call__" ⟨.ref C :: us, kw⟩)) outer s H := ⟨by first | exact e.frames | (simpa [Around.under, Code.envs, Code.isFrame, pushEnvs] using e.frames), e.mod, e.bs, e.bsz, e.funs, e.frf, e.hok, e.bare⟩
section
variable {X : Cx} {pins : List (Addr × Obj)} {σ : St} {H : Hp} {s s' : Shared}
theorem Inv.env0 (I : Inv X pins σ H s) : Env0 X.prog X.w X.K X.mg X.base X.A X.stack s H :=
  ⟨I.ok.frames, I.ok.mod, I.bs, Nat.le_trans I.ok.bsz I.sz, I.stack, I.stkFree, I.hok, I.bare⟩
theorem Inv.after {Q : VK} {u : Value} (I : Inv X pins σ H s) (h : CE X.stack X.prog X.w H s Q u s') : EP X pins σ Q u s' := by
  obtain ⟨v, H', os, bare, un, hok, r, q⟩ := h
  obtain ⟨hh, g, d, t, os'⟩ := s'
  obtain rfl : os' = s.os := os
  exact ⟨v, H', I.call (h' := hh) (g' := g) (d' := d) (t' := t) (ch := []) un hok bare (fun b z => absurd z (by simp)), r, q⟩
end
def tCall (sp : Sp) (dvs : List V) (E : XK) (t : TA) : TE := fun σ H Q => t σ H fun vs H1 => sp (vs ++ dvs) H1 Q E
def tMeth (C : Addr) (m : Str) (sp : Sp) (dvs : List V) (E : XK) (ta : TE) (t : TA) : TE := fun σ H Q => ta σ H fun x H1 => ∃ a dx fs, x = .ref a ∧ H1 a = some (.ins C dx fs) ∧ fs.lookup m = none ∧
  t σ H1 fun vs H2 => sp (x :: (vs ++ dvs)) H2 Q E
def tMake (C : Addr) (sp : Sp) (dvs : List V) (E : XK) (t : TA) : TE := fun σ H Q => t σ H fun vs H1 => ∀ x dx, H1 x = none → H1 dx = none → dx ≠ x →
  sp (.ref x :: (vs ++ dvs)) (upd (upd H1 dx (.own x)) x (.ins C dx [])) (fun v H2 => v = .non ∧ Q (.ref x) H2) E
def Binds (K : PySem.W.Frag) (fd : FuncData) (ps : List Str) (ds : List Value) : Prop :=
  ∀ (s : Shared) (us : List Value), K.In s.heap → (us ++ ds).length = ps.length → BindsTo s fd ⟨us, []⟩ (ps.zip (us ++ ds))
theorem Binds.all {K : PySem.W.Frag} {fd : FuncData} {ps : List Str} (h : ∀ us : List Value, us.length = ps.length → bindArgs fd ⟨us, []⟩ = pure (ps.zip us)) : Binds K fd ps [] := fun s us _ hl => by
  rw [List.append_nil] at hl ⊢
  exact .of_eq (h us hl)
def Passes (CX : CXT) (X : Cx) (E : XK) : Prop := ∀ (pins : List (Addr × Obj)) (σ : St) (H : Hp) (s : Shared) (e : Value) (s' : Shared), Inv X pins σ H s → CX X.stack H s E e s' → X.xe e s'
section
variable {X : Cx} {CX : CXT} {k : Nat} {f C : Addr} {fd : FuncData} {ps : List Str} {sp : Sp} {dvs : List V} {ds : List Value} {E : XK} {x m : Str} {p pos apos : Pos} {e o : Expr} {es : List Expr} {ta : TE} {t : TA}
theorem run_fn {pins : List (Addr × Obj)} {σ : St} {H : Hp} {s : Shared} {Q : VK} {us : List Value} {vs : List V} (F : FnOk X.prog X.w X.K X.mg X.base CX k f fd ps sp) (hr : Room k X.A) (hb : Binds X.K fd ps ds) (hd : Vals dvs ds) (hx : Passes CX X E)
    (I : Inv X pins σ H s) (r : Vals vs us) (h : sp (vs ++ dvs) H Q E) : wpAny (model X.prog X.w) X.A (call (.ref f) us) (EP X pins σ Q) X.xe s := by
  have r2 : Vals (vs ++ dvs) (us ++ ds) := r.append hd
  have hl : (us ++ ds).length = ps.length := by rw [← r2.length]; exact F.len _ _ _ _ h
  refine wpAny_call (codeAny_mono (F.run X.A X.stack s H ⟨us, []⟩ (us ++ ds) (vs ++ dvs) Q E hr I.env0 (hb s us I.kIn hl) r2 h) fun r s' hq => ?_)
  cases r with
  | error e => exact hx pins σ H s e s' I hq
  | ok fl =>
    cases fl with
    | ret u => exact I.after hq
    | next => exact False.elim hq
    | brk => exact False.elim hq
    | cont => exact False.elim hq
theorem pe_call (F : FnOk X.prog X.w X.K X.mg X.base CX k f fd ps sp) (hr : Room k X.A) (hg : Gl X x) (hm : X.mg x = some (.ref f)) (hk : PySem.W.keepIn X.K (.ref f) = true) (hb : Binds X.K fd ps ds) (hd : Vals dvs ds) (hx : Passes CX X E)
    (ha : PA X (e :: es) t) (hdb : (x == ("__debug__" : Str)) = false := by decide) (he : starEach (e :: es) X.env = (false, eval e X.env) :: starEach es X.env := by rfl) (hpl : (backTo pos (starEach es X.env)).any (·.1) = false := by rfl) :
    PE X (.Call (.Name x p) (e :: es) [] pos) (tCall sp dvs E t) := by
  intro pins s σ H Q I h
  refine wpAny_Call_Name_kw (ld_glob I hg hm ?_ hdb)
  refine PySem.W.callWith_K (h₀ := X.base) I.ok.mod.kin hk (thn (ha pos pins s σ H _ I h) fun us s1 ⟨vs, H1, I1, r, q⟩ => ⟨I1.kIn, ?_⟩) he hpl
  exact run_fn F hr hb hd hx I1 r q
theorem pe_meth {pl : Sem Bool} (he : PE X o ta) (c : Cls X.K C) (hm : Meth X.K C m f) (F : FnOk X.prog X.w X.K X.mg X.base CX k f fd ps sp) (hr : Room k X.A) (hb : Binds X.K fd ps ds) (hd : Vals dvs ds) (hx : Passes CX X E) (ha : PA X (e :: es) t)
    (hst : starEach (e :: es) X.env = (false, eval e X.env) :: starEach es X.env := by rfl) (hpl : (backTo pos (starEach es X.env)).any (·.1) = false := by rfl)
    (ht : eval (.Call (.Attribute o m apos) (e :: es) [] pos) X.env = (do
      let ov ← eval o X.env
      standAt apos.atName
      let (f, first) ← holding [ov] (getMethod ov m pl)
      callWith pos f first (backTo pos (starEach (e :: es) X.env)) (backToKw pos (keywordEach [] X.env))) := by rfl) :
    PE X (.Call (.Attribute o m apos) (e :: es) [] pos) (tMeth C m sp dvs E ta t) := by
  intro pins s σ H Q I h
  refine PySem.W.methodCall_KW (pl := pl) (thn (he pins s σ H _ I h) fun u s1 ⟨x, H1, I1, rx, a, dx, fs, ex, ea, l, q⟩ => ?_) ht
  subst ex
  obtain rfl : u = Value.ref a := rx
  refine getmeth_ok I1 ea c hm l ?_
  refine PySem.W.callWith_K (first := [.ref a]) (h₀ := X.base) I.ok.mod.kin hm.kp (thn (ha pos pins s1 σ H1 _ I1 q) fun us s2 ⟨vs, H2, I2, r, q2⟩ => ⟨I2.kIn, ?_⟩) hst hpl
  exact run_fn (us := .ref a :: us) (vs := .ref a :: vs) F hr hb hd hx I2 (.cons rfl r) q2
theorem pe_meth0 {pl : Sem Bool} (he : PE X o ta) (c : Cls X.K C) (hm : Meth X.K C m f) (F : FnOk X.prog X.w X.K X.mg X.base CX k f fd ps sp) (hr : Room k X.A) (hb : Binds X.K fd ps ds) (hd : Vals dvs ds) (hx : Passes CX X E)
    (ht : eval (.Call (.Attribute o m apos) [] [] pos) X.env = (do
      let ov ← eval o X.env
      standAt apos.atName
      let (f, first) ← holding [ov] (getMethod ov m pl)
      callWith pos f first (backTo pos (starEach [] X.env)) (backToKw pos (keywordEach [] X.env))) := by rfl) :
    PE X (.Call (.Attribute o m apos) [] [] pos) (tMeth C m sp dvs E ta tNil) := by
  intro pins s σ H Q I h
  refine PySem.W.methodCall_KW (pl := pl) (thn (he pins s σ H _ I h) fun u s1 ⟨x, H1, I1, rx, a, dx, fs, ex, ea, l, q⟩ => ?_) ht
  subst ex
  obtain rfl : u = Value.ref a := rx
  refine getmeth_ok I1 ea c hm l ?_
  exact PySem.W.callWith_K0 (first := [.ref a]) I1.kIn hm.kp (run_fn (us := [.ref a]) (vs := [.ref a]) F hr hb hd hx I1 (.cons rfl .nil) q)
structure Mk (K : PySem.W.Frag) (C f : Addr) : Prop where
  makes : PySem.W.makesIn K C = true
  init : PySem.W.findIn K (.ref C) "__init__" = some (some (.ref f))
  fn : PySem.W.isFn K (.ref f) = true
  kp : PySem.W.keepIn K (.ref C) = true
theorem run_make {pins : List (Addr × Obj)} {σ : St} {H : Hp} {s : Shared} {Q : VK} {us : List Value} {vs : List V} (M : Mk X.K C f) (F : FnOk X.prog X.w X.K X.mg X.base CX k f fd ps sp) (hr : Room (k + 1) X.A) (hb : Binds X.K fd ps ds) (hd : Vals dvs ds)
    (hx : Passes CX X E) (I : Inv X pins σ H s) (r : Vals vs us)
    (h : ∀ x dx, H x = none → H dx = none → dx ≠ x → sp (.ref x :: (vs ++ dvs)) (upd (upd H dx (.own x)) x (.ins C dx [])) (fun v H2 => v = .non ∧ Q (.ref x) H2) E) :
    wpAny (model X.prog X.w) X.A (call (.ref C) us) (EP X pins σ Q) X.xe s := by
  have hq := h (s.heap.objs.size + 1) s.heap.objs.size (I.hok.fresh (Nat.le_succ _)) (I.hok.fresh (Nat.le_refl _)) (Nat.ne_of_lt (Nat.lt_succ_self _))
  have I2 := Inv.made (C := C) I
  have r2 : Vals (V.ref (s.heap.objs.size + 1) :: (vs ++ dvs)) (Value.ref (s.heap.objs.size + 1) :: (us ++ ds)) := .cons rfl (r.append hd)
  have hl : (Value.ref (s.heap.objs.size + 1) :: us ++ ds).length = ps.length := by
    have e := r2.length
    rw [F.len _ _ _ _ hq] at e
    exact e.symm
  refine wpAny_call (make_map (f := f) I.kIn M.makes M.init (beq_iff_eq.mp M.fn) (codeAny_mono (F.run _ X.stack _ _ ⟨Value.ref (s.heap.objs.size + 1) :: us, []⟩ (Value.ref (s.heap.objs.size + 1) :: (us ++ ds)) _ _ E (hr.make C us [])
    (I2.env0.make C us []) (hb _ (Value.ref (s.heap.objs.size + 1) :: us) I2.kIn hl) r2 hq) fun r s' hq' => ?_))
  cases r with
  | error e => exact hx pins σ _ _ e s' I2 hq'
  | ok fl =>
    cases fl with
    | ret u =>
      obtain ⟨v, H', I3, rv, ev, q3⟩ := I2.after hq'
      subst ev
      exact ⟨rv, ⟨V.ref (s.heap.objs.size + 1), H', I3, rfl, q3⟩⟩
    | next => exact False.elim hq'
    | brk => exact False.elim hq'
    | cont => exact False.elim hq'
theorem pe_make (M : Mk X.K C f) (F : FnOk X.prog X.w X.K X.mg X.base CX k f fd ps sp) (hr : Room (k + 1) X.A) (hg : Gl X x) (hm : X.mg x = some (.ref C)) (hb : Binds X.K fd ps ds) (hd : Vals dvs ds) (hx : Passes CX X E)
    (ha : PA X (e :: es) t) (hdb : (x == ("__debug__" : Str)) = false := by decide) (he : starEach (e :: es) X.env = (false, eval e X.env) :: starEach es X.env := by rfl) (hpl : (backTo pos (starEach es X.env)).any (·.1) = false := by rfl) :
    PE X (.Call (.Name x p) (e :: es) [] pos) (tMake C sp dvs E t) := by
  intro pins s σ H Q I h
  refine wpAny_Call_Name_kw (ld_glob I hg hm ?_ hdb)
  refine PySem.W.callWith_K (h₀ := X.base) I.ok.mod.kin M.kp (thn (ha pos pins s σ H _ I h) fun us s1 ⟨vs, H1, I1, r, q⟩ => ⟨I1.kIn, ?_⟩) he hpl
  exact run_make M F hr hb hd hx I1 r q
theorem pe_make0 (M : Mk X.K C f) (F : FnOk X.prog X.w X.K X.mg X.base CX k f fd ps sp) (hr : Room (k + 1) X.A) (hg : Gl X x) (hm : X.mg x = some (.ref C)) (hb : Binds X.K fd ps ds) (hd : Vals dvs ds) (hx : Passes CX X E)
    (hdb : (x == ("__debug__" : Str)) = false := by decide) : PE X (.Call (.Name x p) [] [] pos) (tMake C sp dvs E tNil) := by
  intro pins s σ H Q I h
  refine wpAny_Call_Name_kw (ld_glob I hg hm ?_ hdb)
  exact PySem.W.callWith_K0 I.kIn M.kp (run_make (us := []) M F hr hb hd hx I .nil h)
end
section
variable {X : Cx} {CX : CXT} {k : Nat} {f C : Addr} {fd : FuncData} {ps ks : List Str} {sp : Sp} {E : XK} {x m : Str} {p pos apos kpos : Pos} {e o : Expr} {es : List Expr} {kws : List Keyword} {te ta : TE} {t tk : TA} {nm : Option Str}
variable {g : List Value → List Value → List Value} {gV : List V → List V → List V}
end
structure FnScope (N P : List Str) (sc : Scope) : Prop where
  kind : sc.kind = .function
  co : sc.isCoroutine = false
  gen : sc.isGenerator = false
  nd : N.Nodup
  pre : N.take P.length = P
  par : ∀ x ∈ P, sc.names.lookup x = some .local ∨ sc.names.lookup x = some .cell
  nofree : ∀ y ∈ sc.names, y.2 ≠ .free
theorem bindL_out {kindOf : Str → Option NameKind} {x : Str} : ∀ {binds : List (Str × Value)} {m : Str → Option Value}, (∀ v, (x, v) ∉ binds) → bindL kindOf binds m x = m x
  | [], _, _ => rfl
  | (n, v) :: r, m, h => by
    unfold bindL
    rw [bindL_out fun w hw => h w (List.mem_cons_of_mem _ hw)]
    split
    · have : x ≠ n := by rintro rfl; exact h v List.mem_cons_self
      simp [this]
    · rfl
theorem bindC_out {kindOf : Str → Option NameKind} {x : Str} : ∀ {binds : List (Str × Value)} {m : Str → Option Value}, (∀ v, (x, v) ∉ binds) → bindC kindOf binds m x = m x
  | [], _, _ => rfl
  | (n, v) :: r, m, h => by
    unfold bindC
    rw [bindC_out fun w hw => h w (List.mem_cons_of_mem _ hw)]
    split
    · rfl
    · have : x ≠ n := by rintro rfl; exact h v List.mem_cons_self
      simp [this]
theorem bindL_get {kindOf : Str → Option NameKind} {x : Str} {v : Value} : ∀ {P : List Str} {vs : List Value} {i : Nat} {m : Str → Option Value}, P.Nodup → P[i]? = some x → vs[i]? = some v → kindOf x = some .local →
    bindL kindOf (P.zip vs) m x = some v
  | [], _, _, _, _, h, _, _ => by simp at h
  | _ :: _, [], _, _, _, _, h, _ => by simp at h
  | p :: P, w :: vs, 0, m, nd, h1, h2, hk => by
    simp at h1 h2; subst h1; subst h2
    show bindL kindOf ((p, w) :: P.zip vs) m p = _
    unfold bindL
    rw [bindL_out fun v hv => (List.nodup_cons.mp nd).1 (List.of_mem_zip hv).1, if_pos hk]
    simp
  | p :: P, w :: vs, i + 1, m, nd, h1, h2, hk => by
    show bindL kindOf ((p, w) :: P.zip vs) m x = _
    unfold bindL
    exact bindL_get (i := i) (List.nodup_cons.mp nd).2 (by simpa using h1) (by simpa using h2) hk
theorem bindC_get {kindOf : Str → Option NameKind} {x : Str} {v : Value} : ∀ {P : List Str} {vs : List Value} {i : Nat} {m : Str → Option Value}, P.Nodup → P[i]? = some x → vs[i]? = some v → kindOf x ≠ some .local →
    bindC kindOf (P.zip vs) m x = some v
  | [], _, _, _, _, h, _, _ => by simp at h
  | _ :: _, [], _, _, _, _, h, _ => by simp at h
  | p :: P, w :: vs, 0, m, nd, h1, h2, hk => by
    simp at h1 h2; subst h1; subst h2
    show bindC kindOf ((p, w) :: P.zip vs) m p = _
    unfold bindC
    rw [bindC_out fun v hv => (List.nodup_cons.mp nd).1 (List.of_mem_zip hv).1, if_neg hk]
    simp
  | p :: P, w :: vs, i + 1, m, nd, h1, h2, hk => by
    show bindC kindOf ((p, w) :: P.zip vs) m x = _
    unfold bindC
    exact bindC_get (i := i) (List.nodup_cons.mp nd).2 (by simpa using h1) (by simpa using h2) hk
def start (N : List Str) (vs : List V) : St := vs.map some ++ List.replicate (N.length - vs.length) none
def cxOf (CX : CXT) (P : Program) (w : World) (K : PySem.W.Frag) (mg : Str → Option Value) (base : Heap) (N : List Str) (qual : Str) (scope : Scope) (f : Addr) (cd : Value) (A : Around) (outer : List Env) (s : Shared) (H : Hp) (E : XK) : Cx where
  prog := P
  w := w
  K := K
  mg := mg
  base := base
  A := A.deeper (envOfC qual scope s.heap.objs.size f cd)
  N := N
  s₀ := s
  H₀ := H
  env := envOfC qual scope s.heap.objs.size f cd
  outer := outer
  stack := envOfC qual scope s.heap.objs.size f cd :: outer
  ex := []
  calm := true
  fn := fun _ => true
  pn := []
  xe := fun e s' => wpAny (model P w) (A.deeper (envOfC qual scope s.heap.objs.size f cd)) (leaving (envOfC qual scope s.heap.objs.size f cd) e) (fun _ s'' => CX outer H s E e s'') (fun e' s'' => CX outer H s E e' s'') s'
theorem cell_has {sc : Scope} {n : Nat} {x : Str} (h : sc.names.lookup x = some .cell) : ∃ c, (cellsFrom n sc.names []).lookup x = some c := by
  have q := PySem.W.cellsFrom_some sc.names n [] (.inl h)
  exact Option.isSome_iff_exists.mp q
theorem inv_start {CX : CXT} {P : Program} {w : World} {K : PySem.W.Frag} {mg : Str → Option Value} {base : Heap} {N ps : List Str} {qual : Str} {scope : Scope} {f : Addr} {cd : Value} {A : Around} {outer : List Env} {s s1 : Shared} {H : Hp} {E : XK} {us : List Value} {vs : List V}
    (S : FnScope N ps scope) (hd : A.handled = none) (e0 : Env0 P w K mg base A outer s H) (hl : vs.length = ps.length) (r : Vals vs us)
    (x : InCallC s s.heap.objs.size (bindL (envOfC qual scope s.heap.objs.size f cd).kindOf (ps.zip us) fun _ => none) (cellsFrom (s.heap.objs.size + 1) scope.names []) (bindC (envOfC qual scope s.heap.objs.size f cd).kindOf (ps.zip us) fun _ => none) s1) :
    Inv (cxOf CX P w K mg base N qual scope f cd A outer s H E) [] (start N vs) H s1 := by
  have hpl : ps.length ≤ N.length := by have := congrArg List.length S.pre; rw [List.length_take] at this; omega
  obtain ⟨h1, tk, rfl, hk⟩ := x.done
  have noA : ∀ b : Addr, b ∉ (cxOf CX P w K mg base N qual scope f cd A outer s H E).ex := fun b z => absurd (show b ∈ ([] : List Addr) from z) (by simp)
  refine ⟨⟨e0.mod, S.kind, rfl, rfl, Nat.le_refl _, fun y z c h1 h2 => ?_, fun y hy => ?_, fun y c _ h => ?_, fun _ => hd, Around.frames_deeper e0.frames, .inr ⟨rfl, rfl⟩, fun b z => absurd z (noA b), e0.bs, e0.bsz, fun b _ _ => noA b, fun b z => absurd z (noA b), e0.funs, e0.frf⟩,
    rfl, e0.bare, Un.kept hk, ⟨_, x.toInCall.ns, fun i y v h1 h2 h3 => ?_⟩, fun y c h => ⟨_, x.cell y c h⟩, e0.hok.fresh (Nat.le_refl _), fun y c h => ?_, fun p hp => absurd (show p ∈ ([] : List (Addr × Obj)) from hp) (by simp), e0.hok.kept hk, ?_⟩
  · exact name_of_addr x.apart (PySem.mem_of_lookup h1) (PySem.mem_of_lookup h2)
  · have hy : scope.names.lookup y = some .cell ∨ scope.names.lookup y = some .free := hy
    rcases hy with hy | hy
    · exact cell_has hy
    · exact absurd rfl (S.nofree _ (PySem.mem_of_lookup hy))
  · exact Nat.le_of_lt (x.above y c (PySem.mem_of_lookup h))
  · have hi : i < vs.length := by
      unfold start at h2
      by_cases hi : i < vs.length
      · exact hi
      · rw [List.getElem?_append_right (by simpa using hi)] at h2
        rw [List.getElem?_replicate] at h2
        split at h2 <;> cases h2
    have ha : vs[i]? = some v := by
      unfold start at h2
      rw [List.getElem?_append_left (by simpa using hi), List.getElem?_map] at h2
      cases e : vs[i]? with
      | none => rw [e] at h2; cases h2
      | some a => rw [e] at h2; cases h2; rfl
    obtain ⟨u, hu, rv⟩ := r.get ha
    have hp : ps[i]? = some y := by
      rw [← S.pre, List.getElem?_take_of_lt (by omega)]; exact h1
    have ndP : ps.Nodup := by rw [← S.pre]; exact S.nd.sublist (List.take_sublist _ _)
    refine ⟨u, rv, ?_⟩
    rcases S.par y (List.mem_of_getElem? hp) with k | k
    · exact .inl ⟨k, bindL_get ndP hp hu k⟩
    · obtain ⟨c, e⟩ := cell_has (n := s.heap.objs.size + 1) k
      refine .inr ⟨.inl k, c, e, ?_⟩
      have q := x.cell y c e
      rw [bindC_get ndP hp hu (by show scope.names.lookup y ≠ _; rw [k]; decide)] at q
      exact q
  · exact e0.hok.fresh (Nat.le_of_lt (x.above y c (PySem.mem_of_lookup h)))
  · unfold start
    show _ = N.length
    rw [List.length_append, List.length_map, List.length_replicate]
    omega
theorem fn_of {CX : CXT} {P : Program} {w : World} {K : PySem.W.Frag} {mg : Str → Option Value} {base : Heap} {k : Nat} {f : Addr} {name qual : Str} {params : Arguments} {body : List Stmt} {scope : Scope} {dV kV doc pm cdv ct oc : Value} {an od : Option Addr}
    {osl : Array (Option Value)} {N ps : List Str} {sp : Sp} (lk : K.lookup f = some ⟨oc, od, .func (PySem.W.fnOf name qual params body scope dV kV doc pm an cdv ct), osl⟩) (hcd : PySem.W.codeIn K cdv qual = true) (S : FnScope N ps scope)
    (len : ∀ vs H Q E, sp vs H Q E → vs.length = ps.length)
    (hbody : ∀ (A : Around) (outer : List Env) (s : Shared) (H : Hp) (vs : List V) (Q : VK) (E : XK), Room k (A.deeper (envOfC qual scope s.heap.objs.size f cdv)) → sp vs H Q E →
      ∃ t, PSs (cxOf CX P w K mg base N qual scope f cdv A outer s H E) body t ∧ t { nx := fun _ H' => Q .non H', rt := Q } (start N vs) H) :
    FnOk P w K mg base CX (k + 1) f (PySem.W.fnOf name qual params body scope dV kV doc pm an cdv ct) ps sp := by
  refine ⟨len, fun A outer s H args us vs Q E hr e0 hb r hsp => ?_⟩
  have hl := len _ _ _ _ hsp
  have KX : K.In s.heap := e0.mod.kin.keeps fun b o e => (e0.bs b o e).1
  have lim : s.heap.NoLimit := e0.mod.nolimit.keeps fun b o e => (e0.bs b o e).1
  have hkind : ∀ y ∈ ps.zip us, scope.names.lookup y.1 = some .local ∨ (scope.names.lookup y.1 = some .cell ∧ ((cellsFrom (s.heap.objs.size + 1) scope.names []).lookup y.1).isSome = true) := fun ⟨n, v⟩ hy => by
    rcases S.par n (List.of_mem_zip hy).1 with q | q
    · exact .inl q
    · exact .inr ⟨q, PySem.W.cellsFrom_some _ _ _ (.inl q)⟩
  refine codeAny_call_function hr.depth (KX _ _ lk) rfl S.co S.gen rfl (PySem.W.codeRec_of KX hcd) (hb _ _ _ _ ?_)
  refine wpAny_newFunctionEnv_cells S.kind hkind fun env he s1 x => ?_
  subst he
  refine ⟨lim.keeps x.toInCall.keep, codeAny_func ?_⟩
  obtain ⟨t, ht, hq⟩ := hbody A outer s H vs Q E (hr.deeper _) hsp
  have I : Inv (cxOf CX P w K mg base N qual scope f cdv A outer s H E) [] (start N vs) H s1 := inv_start S hr.hd e0 hl r x
  refine wpAny_mono (ht [] s1 (start N vs) H _ I hq) (fun fl s' hs => ?_) fun e s' hs => hs
  have fin : ∀ {σ' : St} {H' : Hp} {v : V} {u : Value}, Inv (cxOf CX P w K mg base N qual scope f cdv A outer s H E) [] σ' H' s' → RelV v u → Q v H' → CE outer P w H s Q u s' :=
    fun {σ' H' v u} J rv q => ⟨v, H', J.os, J.bare, J.base, J.hok, rv, q⟩
  cases fl with
  | ret u =>
    obtain ⟨v, σ', H', J, rv, q⟩ := hs
    exact fin J rv q
  | next =>
    obtain ⟨σ', H', J, q⟩ := hs
    exact fin (v := V.non) (u := Value.none) J rfl q
  | brk =>
    obtain ⟨_, _, _, q⟩ := hs
    exact False.elim q
  | cont =>
    obtain ⟨_, _, _, q⟩ := hs
    exact False.elim q
end L2
namespace L2
open PySem PySem.Spec PyProof.Rows
section
variable {X : Cx} {x : Str} {p pos : Pos} {e : Expr} {es : List Expr} {t : TA} {id T : String} {r : List V → Hp → VK → Prop}
def tCB (r : List V → Hp → VK → Prop) (t : TA) : TE := fun σ H Q => t σ H fun vs H1 => r vs H1 Q
theorem pe_callB (hc : CallR X (.builtin id) r) (hg : Gl X x) (hm : X.mg x = none) (hv : bootBuiltins x = some (.builtin id)) (ha : PA X (e :: es) t) (hn : x ≠ "__name__" := by decide) (hdb : (x == ("__debug__" : Str)) = false := by decide)
    (he : starEach (e :: es) X.env = (false, eval e X.env) :: starEach es X.env := by rfl) (hpl : (backTo pos (starEach es X.env)).any (·.1) = false := by rfl) : PE X (.Call (.Name x p) (e :: es) [] pos) (tCB r t) := by
  intro pins s σ H Q I h
  refine wpAny_Call_Name_kw (ld_blt I hg hm hv ?_ hn hdb)
  exact PyProof.Rows.callWith_builtin1 (thn (ha pos pins s σ H _ I h) fun us s1 ⟨vs, H1, I1, r1, q1⟩ => hc pins s1 σ H1 vs us Q I1 r1 q1) he hpl
theorem pe_callTy (hc : CallR X (.type T) r) (hg : Gl X x) (hm : X.mg x = none) (hv : bootBuiltins x = some (.type T)) (ha : PA X (e :: es) t) (hn : x ≠ "__name__" := by decide) (hdb : (x == ("__debug__" : Str)) = false := by decide)
    (he : starEach (e :: es) X.env = (false, eval e X.env) :: starEach es X.env := by rfl) (hpl : (backTo pos (starEach es X.env)).any (·.1) = false := by rfl) : PE X (.Call (.Name x p) (e :: es) [] pos) (tCB r t) := by
  intro pins s σ H Q I h
  refine wpAny_Call_Name_kw (ld_blt I hg hm hv ?_ hn hdb)
  exact PyProof.Rows.callWith_type1 (thn (ha pos pins s σ H _ I h) fun us s1 ⟨vs, H1, I1, r1, q1⟩ => hc pins s1 σ H1 vs us Q I1 r1 q1) he hpl
end
end L2
namespace HT
open PySem PyProof.Rows
section
open PySem.SeqAt
open PySem.AutoSeq1 (wpAny_loadPart')
open PySem.MeetsSeq PySem.MeetsSeq2 PySem.MeetsSeq3
end
section
variable {prog : Program} {w : World} {A : Around} {E : Value → Shared → Prop} {s : Shared}
def sIx (n d : Nat) : Option Int → Nat
  | none => d
  | some v => if v < 0 then (v + (n : Int)).toNat else min v.toNat n
end
end HT
namespace L2
open PySem PySem.Spec PyProof.Rows
abbrev TO := St → Hp → (Option Int → Hp → Prop) → Prop
def PO (X : Cx) (e : Option Expr) (t : TO) : Prop :=
  ∀ (pins : List (Addr × Obj)) (s : Shared) (σ : St) (H : Hp) (Q : Option Int → Hp → Prop), Inv X pins σ H s → t σ H Q →
    wpAny (model X.prog X.w) X.A (evalPart e X.env) (fun u s' => ∃ o H', Inv X pins σ H' s' ∧ IsPart u o ∧ Q o H') X.xe s
def tNoPart : TO := fun _ H Q => Q none H
def tPart (t : TE) : TO := fun σ H Q => t σ H fun x H1 => ∃ i, x = .int i ∧ Q (some i) H1
section
variable {X : Cx} {e : Expr} {te : TE} {lo hi : Option Expr} {tl th : TO} {pos p2 : Pos}
theorem po_none : PO X none tNoPart := by
  intro pins s σ H Q I h
  rw [evalPart_none]
  exact wpAny_pure ⟨none, H, I, .none, h⟩
theorem po_some (h : PE X e te) : PO X (some e) (tPart te) := by
  intro pins s σ H Q I hw
  rw [evalPart_some]
  refine thn (h pins s σ H _ I hw) fun u s1 ⟨x, H1, I1, r1, q1⟩ => ?_
  obtain ⟨i, rfl, q⟩ := q1
  obtain ⟨t, rfl⟩ := r1
  exact ⟨some i, H1, I1, .int i t, q⟩
def SlR (X : Cx) (r : V → Option Int → Option Int → Hp → VK → Prop) : Prop :=
  ∀ (pins : List (Addr × Obj)) (s : Shared) (σ : St) (H : Hp) (x : V) (v vl vu : Value) (lo hi : Option Int) (sl : Addr) (Q : VK), Inv X pins σ H s → RelV x v → s.heap.IsSliceOf sl vl vu .none → IsPart vl lo → IsPart vu hi → r x lo hi H Q →
    ∃ T id, typeLookup (.type T) "__getitem__" = pure (some (.builtin id)) ∧ s.TypeIs v T ∧ wpAny (model X.prog X.w) X.A (getItem v (.ref sl)) (EP X pins σ Q) X.xe s
def tSl (r : V → Option Int → Option Int → Hp → VK → Prop) (te : TE) (tl th : TO) : TE := fun σ H Q => te σ H fun x H1 => tl σ H1 fun l H2 => th σ H2 fun u H3 => r x l u H3 Q
theorem pe_slice {r : V → Option Int → Option Int → Hp → VK → Prop} (hr : SlR X r) (he : PE X e te) (hl : PO X lo tl) (hu : PO X hi th) : PE X (.Subscript e (.Slice lo hi none p2) pos) (tSl r te tl th) := by
  intro pins s σ H Q I h
  refine Subscript_ (thn (he pins s σ H _ I h) fun v s1 ⟨x, H1, I1, r1, q1⟩ => ?_)
  refine wpAny_Slice (thn (hl pins s1 σ H1 _ I1 q1) fun vl s2 ⟨l, H2, I2, pl, q2⟩ => thn (hu pins s2 σ H2 _ I2 q2) fun vu s3 ⟨u, H3, I3, pu, q3⟩ => ?_)
  rw [evalPart_none]
  refine wpAny_pure ?_
  have I4 : Inv X pins σ H3 { s3 with heap := s3.heap.push { cls := .type "slice", data := .fields #[vl, vu, .none] } } := I3.kept (t' := s3.toks) fun b ob q => Heap.get?_push_of_some _ q
  obtain ⟨T, id, hT, ht, hg⟩ := hr pins { s3 with heap := s3.heap.push { cls := .type "slice", data := .fields #[vl, vu, .none] } } σ H3 x v vl vu l u s3.heap.objs.size Q I4 r1 (Heap.IsSliceOf.new ..) pl pu q3
  show wpAny (model X.prog X.w) X.A (subscriptTail e (.Slice lo hi none p2) v (.ref s3.heap.objs.size)) (EP X pins σ Q) X.xe { s3 with heap := s3.heap.push { cls := .type "slice", data := .fields #[vl, vu, .none] } }
  exact tail_any (ops := [.ref s3.heap.objs.size, v]) ht hT hg (by with_unfolding_all rfl)
def cutV (xs : List V) (lo hi : Option Int) : List V := (xs.drop (HT.sIx xs.length 0 lo)).take (HT.sIx xs.length xs.length hi - HT.sIx xs.length 0 lo)
theorem cutV_length (xs : List V) (lo hi : Option Int) : (cutV xs lo hi).length ≤ xs.length := by
  unfold cutV
  rw [List.length_take, List.length_drop]
  omega
end
end L2
namespace L2
open PySem PySem.Spec PyProof.Rows
def ixN (n : Nat) (i : Int) : Option Nat := if 0 ≤ i then (if i < n then some i.toNat else none) else if -(n : Int) ≤ i then some (i + n).toNat else none
def atI {α : Type} (xs : List α) (i : Int) : Option α := (ixN xs.length i).bind fun j => xs[j]?
theorem ixN_seq {n : Nat} {i : Int} {j : Nat} (h : ixN n i = some j) : seqIndex? i n = some j ∧ j < n ∧ -(n : Int) ≤ i ∧ i < n := by
  unfold ixN at h
  by_cases h0 : 0 ≤ i
  · rw [if_pos h0] at h
    by_cases h1 : i < n
    · rw [if_pos h1] at h
      have e : i.toNat = j := Option.some.inj h
      exact ⟨by rw [seqIndex_of h0 h1, e], by omega, by omega, h1⟩
    · rw [if_neg h1] at h; cases h
  · rw [if_neg h0] at h
    by_cases h1 : -(n : Int) ≤ i
    · rw [if_pos h1] at h
      have e : (i + n).toNat = j := Option.some.inj h
      exact ⟨by rw [seqIndex_neg (by omega) h1, e], by omega, h1, by omega⟩
    · rw [if_neg h1] at h; cases h
theorem atI_get {α : Type} {xs : List α} {i : Int} {v : α} (h : atI xs i = some v) : ∃ j, seqIndex? i xs.length = some j ∧ xs[j]? = some v ∧ j < xs.length ∧ -(xs.length : Int) ≤ i ∧ i < xs.length := by
  unfold atI at h
  cases e : ixN xs.length i with
  | none => rw [e] at h; cases h
  | some j =>
    rw [e] at h
    obtain ⟨h1, h2, h3, h4⟩ := ixN_seq e
    exact ⟨j, h1, h, h2, h3, h4⟩
theorem atI_nat {α : Type} {xs : List α} {j : Nat} {v : α} (h : xs[j]? = some v) : atI xs (j : Int) = some v := by
  have hj : j < xs.length := (List.getElem?_eq_some_iff.mp h).1
  have e : ixN xs.length (j : Int) = some j := by
    unfold ixN
    rw [if_pos (by omega), if_pos (by omega)]; simp
  unfold atI; rw [e]; exact h
def PlainIx (b : Expr) : Prop := ∀ o i, subscripted b false o i = operate [o, i] (getItem o i)
def IxR (X : Cx) (r : R2) : Prop :=
  ∀ (value slice : Expr) (pins : List (Addr × Obj)) (s : Shared) (σ : St) (H : Hp) (x y : V) (v u : Value) (Q : VK), Inv X pins σ H s → RelV x v → RelV y u → r x y H Q →
    subscripted slice false v u = operate [v, u] (getItem v u) → wpAny (model X.prog X.w) X.A (subscriptTail value slice v u) (EP X pins σ Q) X.xe s
def MtR (X : Cx) (id : String) (r : V → List V → Hp → VK → Prop) : Prop :=
  ∀ (pins : List (Addr × Obj)) (s : Shared) (σ : St) (H : Hp) (x : V) (xs : List V) (v : Value) (us : List Value) (Q : VK), Inv X pins σ H s → RelV x v → Vals xs us → r x xs H Q →
    wpAny (model X.prog X.w) X.A (call (.builtin id) (v :: us)) (EP X pins σ Q) X.xe s
section
variable {X : Cx} {a b : Expr} {ta tb : TE} {pos : Pos}
theorem pe_ix {r : R2} (hr : IxR X r) (ha : PE X a ta) (hb : PE X b tb) (hs : PlainIx b) : PE X (.Subscript a b pos) (tOp r ta tb) := by
  intro pins s σ H Q I h
  exact Subscript_ (binT ha hb I h fun v u s2 x y H2 I2 rx ry q => hr a b pins s2 σ H2 x y v u Q I2 rx ry q (hs _ _))
def rIxL (K : PySem.W.Frag) : R2 := fun x y H Q => ∃ p xs i v, x = .ref p ∧ y = .int i ∧ SqL K H p xs ∧ atI xs i = some v ∧ Q v H
def rIxT (K : PySem.W.Frag) : R2 := fun x y H Q => ∃ p xs i v, x = .ref p ∧ y = .int i ∧ SqT K H p xs ∧ atI xs i = some v ∧ Q v H
theorem ix_list : IxR X (rIxL X.K) := by
  intro value slice pins s σ H x y v u Q I rx ry h hs
  obtain ⟨p, xs, i, z, rfl, rfl, hq, he, q⟩ := h
  cases rx
  obtain ⟨t, rfl⟩ := ry
  obtain ⟨its, r, pl, hz⟩ := I.list hq
  obtain ⟨j, h1, h2, h3, h4, h5⟩ := atI_get he
  obtain ⟨w, ew, rw'⟩ := r.get h2
  have hl := r.length
  have hn := line63
  have fin : EP X pins σ Q w s := ⟨z, H, I, rw', q⟩
  by_cases h0 : 0 ≤ i
  · have hj : i.toNat = j := by
      rw [seqIndex_of h0 h5] at h1
      exact Option.some.inj h1
    exact item_listR pl.isList h0 (by omega) (by rw [hj]; simpa using ew) fin hs
  · have hj : (i + (its.toArray.size : Int)).toNat = j := by
      rw [seqIndex_neg (by omega) h4] at h1
      rw [List.size_toArray, ← hl]
      exact Option.some.inj h1
    exact subscriptTail_builtinR (x := w) pl.isList.typeIs slot_list_getitem.lookup
      (wpAny_getItem_list_neg (Q := fun r s' => r = w ∧ EP X pins σ Q r s') pl.isList (by omega) (by rw [List.size_toArray] <;> omega) (by omega) (by rw [hj]; simpa using ew) ⟨rfl, fin⟩) hs
theorem ix_tup : IxR X (rIxT X.K) := by
  intro value slice pins s σ H x y v u Q I rx ry h hs
  obtain ⟨p, xs, i, z, rfl, rfl, hq, he, q⟩ := h
  cases rx
  obtain ⟨t, rfl⟩ := ry
  obtain ⟨its, r, pl, hz⟩ := I.tuple hq
  obtain ⟨j, h1, h2, h3, h4, h5⟩ := atI_get he
  obtain ⟨w, ew, rw'⟩ := r.get h2
  have hl := r.length
  have hn := line63
  have fin : EP X pins σ Q w s := ⟨z, H, I, rw', q⟩
  exact subscriptTail_builtinR (x := w) pl.typeIs slot_tuple_getitem.lookup
    (getItem_tuple (j := j) (Q := fun r s' => r = w ∧ EP X pins σ Q r s') pl (by omega) (by omega) (by rw [List.size_toArray, ← hl]; exact h1) (by simpa using ew) ⟨rfl, fin⟩) hs
theorem mapSeq_set (its : List Value) (n j : Nat) (u : Value) : Obj.mapSeq (·.setIfInBounds j u) { cls := .type "list", data := .seq its.toArray n } = { cls := .type "list", data := .seq (its.set j u).toArray n } := by
  simp [Obj.mapSeq]
theorem Inv.lst {pins : List (Addr × Obj)} {σ : St} {H : Hp} {s : Shared} {p : Addr} {xs : List V} (I : Inv X pins σ H s) (h : H p = some (.lst xs)) :
    ∃ (its : List Value) (n : Nat), Vals xs its ∧ s.heap.get? p = some { cls := .type "list", data := .seq its.toArray n } ∧ xs.length ≤ sizeLine := by
  obtain ⟨z, its, n, r, e⟩ := I.hok p _ h
  exact ⟨its, n, r, e, z⟩
theorem Inv.lstUpd {pins : List (Addr × Obj)} {σ : St} {H : Hp} {s : Shared} {p : Addr} {xs ys : List V} {its its' : List Value} {n n' : Nat} {f : Obj → Obj} (I : Inv X pins σ H s) (h : H p = some (.lst xs))
    (ho : s.heap.get? p = some { cls := .type "list", data := .seq its.toArray n }) (hf : f { cls := .type "list", data := .seq its.toArray n } = { cls := .type "list", data := .seq its'.toArray n' }) (r : Vals ys its') (hz : ys.length ≤ sizeLine) (t : Nat) :
    Inv X pins σ (upd H p (.lst ys)) { s with heap := s.heap.update p f, toks := t } := by
  have e : (s.heap.update p f).get? p = some { cls := .type "list", data := .seq its'.toArray n' } := by
    rw [Heap.get?_update_self f ho (by rw [hf] <;> rfl), hf]
  refine I.write (x := p) (e := p) (by rw [h]; trivial) (.inl rfl) (fun b u hb q => (Heap.get?_update_other _ _ (Ne.symm hb)).trans q) ⟨_, e⟩ ?_
  exact ⟨hz, its', n', r, e⟩
def rSetL : V → V → V → Hp → (Hp → Prop) → Prop := fun o i v H Q => ∃ p xs k j, o = .ref p ∧ i = .int k ∧ H p = some (.lst xs) ∧ ixN xs.length k = some j ∧ Q (upd H p (.lst (xs.set j v)))
theorem set_list : PSet X rSetL := by
  intro pins s σ H o i v ov iv u Q I ro ri rv h
  obtain ⟨p, xs, k, j, rfl, rfl, hp, hj, q⟩ := h
  cases ro
  obtain ⟨t, rfl⟩ := ri
  obtain ⟨its, n, r, ho, hz⟩ := I.lst hp
  obtain ⟨h1, h2, h3, h4⟩ := ixN_seq hj
  have hl := r.length
  have hn := line63
  have I' : Inv X pins σ (upd H p (.lst (xs.set j v))) { s with heap := s.heap.update p (Obj.mapSeq (·.setIfInBounds j u)) } :=
    I.lstUpd hp ho (mapSeq_set its n j u) (r.set rv j) (by rw [List.length_set]; exact hz) s.toks
  by_cases h0 : 0 ≤ k
  · have hk : k.toNat = j := by
      rw [seqIndex_of h0 h4] at h1
      exact Option.some.inj h1
    exact PySem.W.ki_setAt ho h0 (by omega) (by rw [List.size_toArray, ← hl]; exact h4) (by rw [hk]; exact ⟨_, I', q⟩)
  · have hk : (k + (its.toArray.size : Int)).toNat = j := by
      rw [seqIndex_neg (by omega) h3] at h1
      rw [List.size_toArray, ← hl]
      exact Option.some.inj h1
    exact PySem.W.ki_setBack ho (by omega) (by rw [List.size_toArray, ← hl]; exact h3) (by omega) (by rw [hk]; exact ⟨_, I', q⟩)
theorem slice_bounds (lo hi : Option Int) (n : Nat) : (sliceBounds lo hi none n).1 = ((HT.sIx n 0 lo : Nat) : Int) ∧ (sliceBounds lo hi none n).2.1 = ((HT.sIx n n hi : Nat) : Int) ∧ (sliceBounds lo hi none n).2.2 = 1 := by
  refine ⟨?_, ?_, rfl⟩
  · cases lo with
    | none => simp [sliceBounds, HT.sIx]
    | some i =>
      simp only [sliceBounds, HT.sIx, Option.getD_none, show (1 : Int) > 0 by decide, if_true]
      by_cases h : i < 0
      · simp only [h, if_true] <;> omega
      · simp only [h, if_false] <;> omega
  · cases hi with
    | none => simp [sliceBounds, HT.sIx]
    | some i =>
      simp only [sliceBounds, HT.sIx, Option.getD_none, show (1 : Int) > 0 by decide, if_true]
      by_cases h : i < 0
      · simp only [h, if_true] <;> omega
      · simp only [h, if_false] <;> omega
theorem slicePick_cut (its : List Value) (lo hi : Option Int) : slicePick its.toArray lo hi none = ((its.drop (HT.sIx its.length 0 lo)).take (HT.sIx its.length its.length hi - HT.sIx its.length 0 lo)).toArray := by
  obtain ⟨h1, h2, h3⟩ := slice_bounds lo hi its.toArray.size
  unfold slicePick
  rw [h1, h2, h3]
  simp only [sliceRange_one, pick_run, List.size_toArray] <;> rfl
def rSlL (K : PySem.W.Frag) : V → Option Int → Option Int → Hp → VK → Prop := fun x lo hi H Q => ∃ a xs, x = .ref a ∧ SqL K H a xs ∧ ∀ p, H p = none → Q (.ref p) (upd H p (.lst (cutV xs lo hi)))
theorem sl_list : SlR X (rSlL X.K) := by
  intro pins s σ H x v vl vu lo hi sl Q I rx hs pl pu h
  obtain ⟨a, xs, rfl, hx, q⟩ := h
  cases rx
  obtain ⟨its, r, ht, hz⟩ := I.list hx
  have hlen := r.length
  refine ⟨"list", _, slot_list_getitem.lookup, ht.isList.typeIs, ?_⟩
  refine wpAny_getItem_list_slice ht.isList hs pl pu .none (by simp) ?_ (by rw [List.size_toArray] <;> omega)
  rw [slicePick_cut, ← hlen]
  refine ⟨.ref s.heap.objs.size, _, I.laid (t' := s.toks) (o := .lst (cutV xs lo hi)) (fun b ob q => Heap.get?_push_of_some _ q) (Nat.le_refl _) ?_, rfl, q _ (I.hok.fresh (Nat.le_refl _))⟩
  exact ⟨Nat.le_trans (cutV_length xs lo hi) hz, _, 0, (r.drop (HT.sIx xs.length 0 lo)).take (HT.sIx xs.length xs.length hi - HT.sIx xs.length 0 lo), Heap.get?_push_size _ rfl⟩
theorem call_len_seq : CallR X (.builtin "len") (fun xs H Q => ∃ p ys, xs = [.ref p] ∧ (SqL X.K H p ys ∨ SqT X.K H p ys) ∧ Q (.int ys.length) H) := by
  intro pins s σ H xs us Q I r h
  obtain ⟨p, ys, rfl, hq, q⟩ := h
  obtain ⟨u, rfl, rx⟩ := vals1 r
  cases rx
  have hn := line63
  rcases hq with hq | hq
  · obtain ⟨its, r', pl, hz⟩ := I.list hq
    have hlen := r'.length
    exact Calls.call_len_list pl.isList (by simp only [List.size_toArray] <;> omega) ⟨.int ys.length, H, I.tok _, ⟨s.toks + 1, by rw [List.size_toArray, hlen]⟩, q⟩
  · obtain ⟨its, r', pl, hz⟩ := I.tuple hq
    have hlen := r'.length
    exact len_tuple pl (by simp only [List.size_toArray] <;> omega) ⟨.int ys.length, H, I.tok _, ⟨s.toks + 1, by rw [List.size_toArray, hlen]⟩, q⟩
theorem call_list_of : CallR X (.type "list") (fun xs H Q => ∃ p ys, xs = [.ref p] ∧ (SqL X.K H p ys ∨ SqT X.K H p ys) ∧ ∀ l, H l = none → Q (.ref l) (upd H l (.lst ys))) := by
  intro pins s σ H xs us Q I r h
  obtain ⟨p, ys, rfl, hq, q⟩ := h
  obtain ⟨u, rfl, rx⟩ := vals1 r
  cases rx
  have fin : ∀ (its : List Value), Vals ys its → ys.length ≤ sizeLine → ∀ (h' : Heap) (c' : Nat), (∀ b o', s.heap.get? b = some o' → h'.get? b = some o') →
      h'.get? s.heap.objs.size = some { cls := .type "list", dict := none, data := .seq its.toArray c', slots := #[] } → EP X pins σ Q (.ref s.heap.objs.size) { s with heap := h' } := fun its r' hz h' c' kp e =>
    ⟨.ref s.heap.objs.size, _, I.laid (t' := s.toks) kp (Nat.le_refl _) (show ObjOk X.prog X.w _ h' _ (.lst ys) from ⟨hz, its, c', r', e⟩), rfl, q _ (I.hok.fresh (Nat.le_refl _))⟩
  rcases hq with hq | hq
  · obtain ⟨its, r', pl, hz⟩ := I.list hq
    have hlen := r'.length
    obtain ⟨o, ho, hc, n, hd⟩ := pl.isList
    exact call_list_seq p (.inl rfl) ho hc hd (fun h' c' kp e => fin its r' hz h' c' kp e) (by simp only [List.size_toArray] <;> omega)
  · obtain ⟨its, r', pl, hz⟩ := I.tuple hq
    have hlen := r'.length
    obtain ⟨o, ho, hc, n, hd⟩ := pl
    exact call_list_seq p (.inr rfl) ho hc hd (fun h' c' kp e => fin its r' hz h' c' kp e) (by simp only [List.size_toArray] <;> omega)
def tyV (K : PySem.W.Frag) (T : String) (x : V) (H : Hp) : Prop := match x with
  | .str _ => T = "str"
  | .int _ => T = "int"
  | .ref p => (T = "list" ∧ ∃ xs, SqL K H p xs) ∨ (T = "tuple" ∧ ∃ o, K.lookup p = some o ∧ o.cls = .type "tuple" ∧ o.dict = none) ∨
      (T = "dict" ∧ ((∃ kvs, H p = some (.dK kvs)) ∨ ∃ kvs, H p = some (.dT kvs))) ∨ (T = "set" ∧ ∃ S n, H p = some (.set S n))
  | _ => False
theorem tyV_is {pins : List (Addr × Obj)} {σ : St} {H : Hp} {s : Shared} {T : String} {x : V} {v : Value} (I : Inv X pins σ H s) (r : RelV x v) (ty : tyV X.K T x H) :
    s.TypeIs v T ∧ ∀ a, v = .ref a → ∃ ob, s.heap.get? a = some ob ∧ ob.dict = none := by
  cases x with
  | str z =>
    obtain ⟨t, rfl⟩ := r
    cases (show T = "str" from ty)
    exact ⟨typeIs_str s z t, fun _ e => nomatch e⟩
  | int i =>
    obtain ⟨t, rfl⟩ := r
    cases (show T = "int" from ty)
    exact ⟨typeIs_int s i t, fun _ e => nomatch e⟩
  | ref p =>
    cases r
    rcases ty with ⟨rfl, xs, hq⟩ | ⟨rfl, o, hk, hc, hd⟩ | ⟨rfl, hk⟩ | ⟨rfl, S, n, hk⟩
    · obtain ⟨its, _, pl, _⟩ := I.list hq
      refine ⟨pl.isList.typeIs, fun a e => ?_⟩
      cases e
      obtain ⟨o, n, e, c, hd, _⟩ := pl
      exact ⟨o, e, hd⟩
    · refine ⟨⟨o, I.kIn p o hk, hc⟩, fun a e => ?_⟩
      cases e
      exact ⟨o, I.kIn _ o hk, hd⟩
    · have z : ∃ o, s.heap.get? p = some o ∧ o.ExactDict := by
        rcases hk with ⟨kvs, hk⟩ | ⟨kvs, hk⟩
        · obtain ⟨_, _, _, _, o, _, _, e, ex, _⟩ := I.hok p _ hk
          exact ⟨o, e, ex⟩
        · obtain ⟨_, _, _, _, o, _, _, e, ex, _⟩ := I.hok p _ hk
          exact ⟨o, e, ex⟩
      obtain ⟨o, e, ex⟩ := z
      refine ⟨⟨o, e, ex.1⟩, fun a e2 => ?_⟩
      cases e2
      exact ⟨o, e, ex.2.1⟩
    · obtain ⟨o, _, _, _, e, ex, _⟩ := I.hok p _ hk
      refine ⟨⟨o, e, ex.1⟩, fun a e2 => ?_⟩
      cases e2
      exact ⟨o, e, ex.2.1⟩
  | _ => exact False.elim ty
def tBM0 (K : PySem.W.Frag) (T : String) (r : V → List V → Hp → VK → Prop) (to : TE) : TE := fun σ H Q => to σ H fun x H1 => tyV K T x H1 ∧ r x [] H1 Q
def tBM (K : PySem.W.Frag) (T : String) (r : V → List V → Hp → VK → Prop) (to : TE) (t : TA) : TE := fun σ H Q => to σ H fun x H1 => tyV K T x H1 ∧ t σ H1 fun xs H2 => r x xs H2 Q
variable {o e : Expr} {es : List Expr} {to : TE} {t : TA} {name : Str} {apos cpos : Pos} {T id : String} {r : V → List V → Hp → VK → Prop}
theorem pe_bm0 (pa : PlainAttrs T) (slot : Slot T name id) (hty : typeOf (.builtin id) = pure (.type "method_descriptor")) (hm : MtR X id r) (ho : PE X o to)
    (hbase : attributeBase o name X.env (eval o X.env) = eval o X.env := by rfl) (hline : (apos.endLine == cpos.line) = true := by rfl) : PE X (.Call (.Attribute o name apos) [] [] cpos) (tBM0 X.K T r to) := by
  intro pins s σ H Q I h
  refine wpAny_Call_method0_late hbase hline (thn (ho pins s σ H _ I h) fun v s1 ⟨x, H1, I1, r1, ty, q1⟩ => ?_)
  obtain ⟨h1, h2⟩ := tyV_is I1 r1 ty
  exact ⟨T, id, pa, slot, hty, h1, h2, Calls.callWith_builtin rfl (PySem.evalArgs_none (hm pins s1 σ H1 x [] v [] Q I1 r1 .nil q1))⟩
theorem pe_bm (pa : PlainAttrs T) (slot : Slot T name id) (hty : typeOf (.builtin id) = pure (.type "method_descriptor")) (hm : MtR X id r) (ho : PE X o to) (ha : PA X (e :: es) t)
    (hbase : attributeBase o name X.env (eval o X.env) = eval o X.env := by rfl)
    (hfew : ((backTo cpos (starEach (e :: es) X.env)).all (fun x => !x.1) && (backToKw cpos (keywordEach [] X.env)).all (fun x => x.1.isSome)
      && decide ((e :: es).length + ([] : List Keyword).length + (if ([] : List Keyword).isEmpty then 0 else 1) < 30)) = true := by rfl)
    (hline : (apos.endLine == cpos.line) = true := by rfl) (hs : starEach (e :: es) X.env = (false, eval e X.env) :: starEach es X.env := by rfl) (hplain : (backTo cpos (starEach es X.env)).any (·.1) = false := by rfl) :
    PE X (.Call (.Attribute o name apos) (e :: es) [] cpos) (tBM X.K T r to t) := by
  intro pins s σ H Q I h
  refine wpAny_Call_method_late hbase hfew hline rfl (thn (ho pins s σ H _ I h) fun v s1 ⟨x, H1, I1, r1, ty, q1⟩ => ?_)
  obtain ⟨h1, h2⟩ := tyV_is I1 r1 ty
  refine ⟨T, id, pa, slot, hty, h1, h2, ?_⟩
  have hA := ha cpos pins s1 σ H1 _ I1 q1
  rw [hs] at hA ⊢
  refine Calls.callWith_builtin (by show (false || (backTo cpos (starEach es X.env)).any (·.1)) = false; rw [hplain] <;> rfl) (Calls.evalArgs_plain ?_)
  exact thn hA fun us s2 ⟨vs, H2, I2, r2, q2⟩ => hm pins s2 σ H2 x vs v us Q I2 r1 r2 q2
end
end L2
namespace L2
open PySem PySem.Spec PyProof.Rows
def MtM (X : Cx) (id : String) (r : V → List V → Hp → VK → Prop) : Prop :=
  ∀ (pins : List (Addr × Obj)) (s : Shared) (σ : St) (H : Hp) (x : V) (xs : List V) (v : Value) (us : List Value) (Q : VK), Inv X pins σ H s → RelV x v → Vals xs us → r x xs H Q →
    wpAny (model X.prog X.w) X.A (call (.builtin id) (v :: us)) (EP X pins σ Q) X.xe s
theorem Vals.one : ∀ {x : V} {us : List Value}, Vals [x] us → ∃ u, us = [u] ∧ RelV x u
  | _, _, .cons r .nil => ⟨_, rfl, r⟩
theorem Vals.eraseIdx : ∀ {xs : List V} {us : List Value} (i : Nat), Vals xs us → Vals (xs.eraseIdx i) (us.eraseIdx i)
  | _, _, _, .nil => .nil
  | _, _, 0, .cons _ t => t
  | _, _, i + 1, .cons r t => .cons r (Vals.eraseIdx i t)
theorem Vals.rep {xs : List V} {us : List Value} (h : Vals xs us) : ∀ k : Nat, Vals (List.replicate k xs).flatten (List.replicate k us).flatten
  | 0 => .nil
  | k + 1 => by
    rw [List.replicate_succ, List.replicate_succ, List.flatten_cons, List.flatten_cons]
    exact Vals.append h (Vals.rep h k)
theorem len_erase {α : Type} : ∀ (l : List α) (i : Nat), (l.eraseIdx i).length ≤ l.length
  | [], _ => Nat.le_refl _
  | _ :: _, 0 => Nat.le_succ _
  | _ :: r, i + 1 => Nat.succ_le_succ (len_erase r i)
theorem foldl_rep (its : List Value) : ∀ (k : Nat) (acc : List Value),
    List.foldl (fun x1 x2 => x1 ++ x2) acc.toArray (List.replicate k its.toArray) = (acc ++ (List.replicate k its).flatten).toArray
  | 0, acc => by simp
  | k + 1, acc => by
    have e : acc.toArray ++ its.toArray = (acc ++ its).toArray := by simp
    have e2 : (acc ++ its) ++ (List.replicate k its).flatten = acc ++ (List.replicate (k + 1) its).flatten := by
      rw [List.replicate_succ, List.flatten_cons, List.append_assoc]
    rw [← e2, ← foldl_rep its k (acc ++ its), ← e, List.replicate_succ, List.foldl_cons]
section
variable {X : Cx} {pins : List (Addr × Obj)} {σ : St} {H : Hp} {s : Shared} {l b : Addr} {xs ys zs : List V}
theorem Inv.lset {its its' : List Value} {n : Nat} {f : Array Value → Array Value} {t' : Nat} (I : Inv X pins σ H s) (hH : H l = some (.lst xs))
    (e : s.heap.get? l = some { cls := .type "list", data := .seq its.toArray n }) (hf : f its.toArray = its'.toArray) (hv : Vals ys its') (hz : ys.length ≤ sizeLine) :
    Inv X pins σ (upd H l (.lst ys)) { s with heap := s.heap.update l (Obj.mapSeq f), toks := t' } := by
  have q := PySem.IsL.update e f
  rw [hf] at q
  refine I.write (x := l) (e := l) (by rw [hH]; exact trivial) (.inl rfl) (fun b' u hb hu => (Heap.get?_update_other s.heap (Obj.mapSeq f) (Ne.symm hb)).trans hu) ⟨_, q⟩ ?_
  exact ⟨hz, its', _, hv, q⟩
theorem Inv.lnew {its : List Value} {t' : Nat} (I : Inv X pins σ H s) (hv : Vals ys its) (hz : ys.length ≤ sizeLine) :
    Inv X pins σ (upd H s.heap.objs.size (.lst ys)) { s with heap := s.heap.push { cls := .type "list", data := .seq its.toArray }, toks := t' } :=
  I.laid (fun _ _ q => Heap.get?_push_of_some _ q) (Nat.le_refl _) ⟨hz, its, 0, hv, Heap.get?_push_size _ rfl⟩
theorem Inv.fresh (I : Inv X pins σ H s) : H s.heap.objs.size = none := I.hok.fresh (Nat.le_refl _)
theorem Inv.lstM (I : Inv X pins σ H s) (hH : H l = some (.lst xs)) : xs.length ≤ sizeLine ∧ ∃ (its : List Value) (n : Nat), Vals xs its ∧ xs.length = its.length ∧ s.heap.get? l = some { cls := .type "list", data := .seq its.toArray n } := by
  obtain ⟨z, its, n, r, e⟩ := I.hok l _ hH
  exact ⟨z, its, n, r, r.length, e⟩
theorem notLongL {n : Nat} (h : n ≤ sizeLine) : Builtin.List.listTooLong n = false := by
  unfold Builtin.List.listTooLong
  exact decide_eq_false (by omega)
end
section
variable {X : Cx}
def rAppend : V → List V → Hp → VK → Prop := fun x vs H Q => ∃ l xs y, x = .ref l ∧ vs = [y] ∧ H l = some (.lst xs) ∧ xs.length < sizeLine ∧ Q .non (upd H l (.lst (xs ++ [y])))
theorem mt_append : MtM X "list.append" rAppend := by
  intro pins s σ H x vs v us Q I rx rv h
  obtain ⟨l, xs, y, rfl, rfl, hH, hz, q⟩ := h
  cases rx
  obtain ⟨u, rfl, ru⟩ := rv.one
  obtain ⟨z, its, n, r, hl, e⟩ := I.lstM hH
  refine call_meets F.slot_list_append ⟨_, e, rfl⟩ F.entry_list_append (F.args_list_append_2 _ _) (PySem.list_append l its.toArray n u (by rw [List.size_toArray]; omega)) ⟨e, ?_⟩
  refine ⟨.non, _, I.lset (its' := its ++ [u]) hH e (by simp) (r.append (.cons ru .nil)) ?_, rfl, q⟩
  rw [List.length_append, List.length_singleton]
  omega
def rExtend : V → List V → Hp → VK → Prop := fun x vs H Q => ∃ l b xs zs, x = .ref l ∧ vs = [.ref b] ∧ H l = some (.lst xs) ∧ H b = some (.lst zs) ∧ xs.length + zs.length ≤ sizeLine ∧ Q .non (upd H l (.lst (xs ++ zs)))
theorem mt_extend : MtM X "list.extend" rExtend := by
  intro pins s σ H x vs v us Q I rx rv h
  obtain ⟨l, b, xs, zs, rfl, rfl, hH, hB, hz, q⟩ := h
  cases rx
  obtain ⟨u, rfl, ru⟩ := rv.one
  cases ru
  obtain ⟨z, its, n, r, hl, e⟩ := I.lstM hH
  obtain ⟨z2, its2, n2, r2, hl2, e2⟩ := I.lstM hB
  have hsz : its.toArray.size + its2.toArray.size ≤ sizeLine := by rw [List.size_toArray, List.size_toArray]; omega
  have hlong : ¬ (!its.toArray.isEmpty && Builtin.List.listTooLong (its.toArray.size + its2.toArray.size)) = true := by
    rw [notLongL hsz, Bool.and_false]
    exact Bool.false_ne_true
  refine call_meets F.slot_list_extend ⟨_, e, rfl⟩ F.entry_list_extend (F.args_list_extend_2 _ _)
    (AutoSeq1.list_extend_list_list_0 l its.toArray n b its2.toArray n2 hlong (by rw [List.size_toArray]; omega) (by omega)) ⟨e, e2, ?_⟩
  refine ⟨.non, _, I.lset (its' := its ++ its2) hH e (by simp) (r.append r2) ?_, rfl, q⟩
  rw [List.length_append]
  omega
def rPopAt : V → List V → Hp → VK → Prop := fun x vs H Q => ∃ l xs i k y, x = .ref l ∧ vs = [.int i] ∧ H l = some (.lst xs) ∧ -(2 ^ 63) ≤ i ∧ i < 2 ^ 63 ∧ seqIndex? i xs.length = some k ∧ xs[k]? = some y ∧ Q y (upd H l (.lst (xs.eraseIdx k)))
theorem mt_popAt : MtM X "list.pop" rPopAt := by
  intro pins s σ H x vs v us Q I rx rv h
  obtain ⟨l, xs, i, k, y, rfl, rfl, hH, h1, h2, hk, hy, q⟩ := h
  cases rx
  obtain ⟨u, rfl, ru⟩ := rv.one
  obtain ⟨t, rfl⟩ := ru
  obtain ⟨z, its, n, r, hl, e⟩ := I.lstM hH
  obtain ⟨w, hw, rw'⟩ := r.get hy
  refine call_meets F.slot_list_pop ⟨_, e, rfl⟩ F.entry_list_pop (F.args_list_pop_2 _ _)
    (MeetsSeq.list_pop_at l its.toArray n i t k w (fitsIndex_both h1 h2) (by rw [List.size_toArray, ← hl]; exact hk) (by rw [← Array.getElem?_toList]; exact hw) (by rw [List.size_toArray]; omega)) ⟨e, ?_⟩
  refine ⟨y, _, I.lset (its' := its.eraseIdx k) hH e ?_ (r.eraseIdx k) ?_, rw', q⟩
  · show its.toArray.eraseIdxIfInBounds k = (its.eraseIdx k).toArray
    rw [List.eraseIdxIfInBounds_toArray]
  · have := len_erase xs k
    omega
def rCat : R2 := fun x y H Q => ∃ l b xs zs, x = .ref l ∧ y = .ref b ∧ H l = some (.lst xs) ∧ H b = some (.lst zs) ∧ xs.length + zs.length ≤ sizeLine ∧ ∀ p, H p = none → Q (.ref p) (upd H p (.lst (xs ++ zs)))
theorem op_cat : OpR X (binaryOp .Add) rCat := by
  intro pins s σ H x y v u Q I rx ry h
  obtain ⟨l, b, xs, zs, rfl, rfl, hH, hB, hz, q⟩ := h
  cases rx
  cases ry
  obtain ⟨z, its, n, r, hl, e⟩ := I.lstM hH
  obtain ⟨z2, its2, n2, r2, hl2, e2⟩ := I.lstM hB
  refine PySem.P.add_list e e2 ?_ (by rw [List.size_toArray, List.size_toArray]; omega)
  have ea : its.toArray ++ its2.toArray = (its ++ its2).toArray := by simp
  rw [ea]
  exact ⟨.ref _, _, I.lnew (t' := s.toks) (r.append r2) (by rw [List.length_append]; omega), rfl, q _ I.fresh⟩
def rRep : R2 := fun x y H Q => ∃ l k xs, x = .ref l ∧ y = .int k ∧ H l = some (.lst xs) ∧ -(2 ^ 63) ≤ k ∧ k < 2 ^ 63 ∧ xs.length * k.toNat ≤ sizeLine ∧
  ∀ p, H p = none → Q (.ref p) (upd H p (.lst (List.replicate k.toNat xs).flatten))
theorem len_rep {α : Type} (xs : List α) (k : Nat) : (List.replicate k xs).flatten.length = k * xs.length := by
  induction k with
  | zero => simp
  | succ k ih => rw [List.replicate_succ, List.flatten_cons, List.length_append, ih, Nat.succ_mul, Nat.add_comm]
theorem op_rep : OpR X (binaryOp .Mult) rRep := by
  intro pins s σ H x y v u Q I rx ry h
  obtain ⟨l, k, xs, rfl, rfl, hH, h1, h2, hz, q⟩ := h
  cases rx
  obtain ⟨t, rfl⟩ := ry
  obtain ⟨z, its, n, r, hl, e⟩ := I.lstM hH
  have hlen : its.toArray.size * k.toNat ≤ sizeLine := by rw [List.size_toArray, ← hl]; exact hz
  have hcap : ¬ its.toArray.size * k.toNat > (2 ^ 63 - 1) / 8 := by
    have : (sizeLine : Nat) ≤ (2 ^ 63 - 1) / 8 := by decide
    omega
  have hfit : ¬ (!Builtin.List.listFitsIndex k) = true := by
    rw [fitsIndex_both h1 h2]
    exact Bool.false_ne_true
  have hlong : ¬ Builtin.List.listTooLong (its.toArray.size * k.toNat) = true := by
    rw [notLongL hlen]
    exact Bool.false_ne_true
  have hnew : List.foldl (fun x1 x2 => x1 ++ x2) #[] (List.replicate (if its.toArray.isEmpty = true then 0 else k.toNat) its.toArray) = (List.replicate k.toNat its).flatten.toArray := by
    have f0 : ∀ m : Nat, List.foldl (fun x1 x2 => x1 ++ x2) #[] (List.replicate m its.toArray) = (List.replicate m its).flatten.toArray := fun m => by
      have := foldl_rep its m []
      rw [List.nil_append] at this
      exact this
    rw [f0]
    cases its with
    | nil => simp
    | cons a r' => rw [if_neg (by simp)]
  refine wpAny_binaryOp_repeat_ref (T := "list") (U := "int") (by decide) ⟨_, e, rfl⟩ (fun s' => typeIs_int s' k t) noFill_list_mul F.fills_int_mul F.slot_int_rmul repeat_list F.slot_int_index.lookup
    (call_meets F.slot_int_rmul (typeIs_int s k t) F.entry_int_rmul (F.args_int_rmul_2 _ _) (int___rmul___int_list k t l its.toArray n)
      ⟨e, rfl, ⟨_, e, rfl⟩, call_meets F.slot_list_mul ⟨_, e, rfl⟩ F.entry_list_mul (F.args_list_mul_2 _ _) (AutoListH.list___mul___list_int_3 l its.toArray n k t hfit hcap hlong) ⟨e, ?_⟩⟩)
  rw [hnew]
  exact ⟨.ref _, _, I.lnew (t' := s.toks) (r.rep k.toNat) (by rw [len_rep, Nat.mul_comm]; exact hz), rfl, q _ I.fresh⟩
end
section
variable {prog : Program} {w : World} {A : Around} {E : Value → Shared → Prop} {s : Shared}
set_option maxRecDepth 100000 in
end
section
variable {X : Cx}
end
end L2
namespace L2
open PySem PySem.Spec PyProof.Rows
theorem Vals.ints : ∀ {ns : List Int} {us : List Value}, Vals (ns.map V.int) us → IntsAre us ns
  | [], us, h => by
    rw [List.map_nil] at h
    cases h
    exact IntsAre.nil
  | n :: ns, us, h => by
    rw [List.map_cons] at h
    cases h with
    | cons r t =>
      obtain ⟨k, rfl⟩ := r
      exact IntsAre.cons n k (Vals.ints t)
theorem vals_of_ints : ∀ {us : List Value} {ns : List Int}, IntsAre us ns → Vals (ns.map V.int) us
  | _, _, .nil => by rw [List.map_nil]; exact Paired.nil
  | _, _, .cons n t h => by rw [List.map_cons]; exact Paired.cons (show RelV (V.int n) (Value.int n t) from ⟨t, rfl⟩) (vals_of_ints h)
theorem Vals.bls : ∀ {bs : List Bool} {us : List Value}, Vals (bs.map V.bl) us → us = bs.map Value.bool
  | [], us, h => by
    rw [List.map_nil] at h
    cases h
    rfl
  | b :: bs, us, h => by
    rw [List.map_cons] at h
    cases h with
    | cons r t =>
      cases r
      rw [Vals.bls t, List.map_cons]
theorem Vals.ref1 {a : Addr} {us : List Value} (r : Vals [V.ref a] us) : us = [Value.ref a] := by
  cases r with
  | cons r t =>
    cases t
    cases r
    rfl
section
variable {prog : Program} {w : World} {A : Around} {E : Value → Shared → Prop} {s : Shared} {l : Addr} {its : List Value} {ns : List Int} {Q : Value → Shared → Prop}
theorem sum_raw (hh : A.handled = none) (hl : s.heap.IsList l its.toArray) (hi : IntsAre its ns)
    (h : ∀ h' tk t', (∀ b o, s.heap.get? b = some o → h'.get? b = some o) → Q (.int ns.sum t') { s with heap := h', toks := tk }) : wpAny (model prog w) A (call (.builtin "sum") [.ref l]) Q E s := by
  obtain ⟨xs, e⟩ := hi.allInts.items
  have hn : numsOf (intItems xs).toList = ns := by rw [← e]; exact hi.numsOf
  rw [nums_intItems] at hn
  rw [e] at hl
  refine PySem.sum_intListG hh hl fun h' tk t' hk => ?_
  have := h h' tk t' hk
  rw [preSum_eq, List.take_of_length_le (by simp), hn]; exact this
theorem max_raw (hh : A.handled = none) (hl : s.heap.IsList l its.toArray) (hi : IntsAre its ns) (hne : 0 < ns.length)
    (h : ∀ h' tk M t', (∀ b o, s.heap.get? b = some o → h'.get? b = some o) → M ∈ ns → (∀ a, a ∈ ns → a ≤ M) → Q (.int M t') { s with heap := h', toks := tk }) : wpAny (model prog w) A (call (.builtin "max") [.ref l]) Q E s := by
  obtain ⟨xs, e⟩ := hi.allInts.items
  have hn : numsOf (intItems xs).toList = ns := by rw [← e]; exact hi.numsOf
  rw [nums_intItems] at hn
  subst hn
  rw [e] at hl
  have hsz : 0 < xs.size := by simpa using hne
  refine PySem.max_intList hh hl hsz fun v h' tk hv hk => ?_
  obtain ⟨t, rfl⟩ := intItems_at hv
  obtain ⟨h1, h2⟩ := argBest_gt (numAt xs) (xs.size - 1)
  refine h h' tk _ t hk ?_ fun a ha => ?_
  · rw [numAt_eq]; exact PySem.getD_mem (by rw [List.length_map, Array.length_toList]; omega)
  · obtain ⟨j, hj, rfl⟩ := mem_getD ha
    rw [List.length_map, Array.length_toList] at hj
    rw [← numAt_eq]; exact h2 j (by omega)
theorem min_raw (hh : A.handled = none) (hl : s.heap.IsList l its.toArray) (hi : IntsAre its ns) (hne : 0 < ns.length)
    (h : ∀ h' tk M t', (∀ b o, s.heap.get? b = some o → h'.get? b = some o) → M ∈ ns → (∀ a, a ∈ ns → M ≤ a) → Q (.int M t') { s with heap := h', toks := tk }) : wpAny (model prog w) A (call (.builtin "min") [.ref l]) Q E s := by
  obtain ⟨xs, e⟩ := hi.allInts.items
  have hn : numsOf (intItems xs).toList = ns := by rw [← e]; exact hi.numsOf
  rw [nums_intItems] at hn
  subst hn
  rw [e] at hl
  have hsz : 0 < xs.size := by simpa using hne
  refine PySem.min_intList hh hl hsz fun v h' tk hv hk => ?_
  obtain ⟨t, rfl⟩ := intItems_at hv
  obtain ⟨h1, h2⟩ := argBest_lt (numAt xs) (xs.size - 1)
  refine h h' tk _ t hk ?_ fun a ha => ?_
  · rw [numAt_eq]; exact PySem.getD_mem (by rw [List.length_map, Array.length_toList]; omega)
  · obtain ⟨j, hj, rfl⟩ := mem_getD ha
    rw [List.length_map, Array.length_toList] at hj
    rw [← numAt_eq]; exact h2 j (by omega)
end
section
variable {X : Cx}
def rSum (K : PySem.W.Frag) : List V → Hp → VK → Prop := fun vs H Q => ∃ (a : Addr) (ns : List Int), vs = [V.ref a] ∧ SqL K H a (ns.map V.int) ∧ Q (.int ns.sum) H
def rMax (K : PySem.W.Frag) : List V → Hp → VK → Prop := fun vs H Q => ∃ (a : Addr) (ns : List Int), vs = [V.ref a] ∧ SqL K H a (ns.map V.int) ∧ 0 < ns.length ∧ ∀ m, m ∈ ns → (∀ y, y ∈ ns → y ≤ m) → Q (.int m) H
def rMin (K : PySem.W.Frag) : List V → Hp → VK → Prop := fun vs H Q => ∃ (a : Addr) (ns : List Int), vs = [V.ref a] ∧ SqL K H a (ns.map V.int) ∧ 0 < ns.length ∧ ∀ m, m ∈ ns → (∀ y, y ∈ ns → m ≤ y) → Q (.int m) H
theorem cr_sum (hc : X.calm = true) : CallR X (.builtin "sum") (rSum X.K) := by
  intro pins s σ H vs us Q I r h
  obtain ⟨a, ns, rfl, hs, q⟩ := h
  obtain ⟨its, rv, hl, _⟩ := I.list hs
  rw [Vals.ref1 r]
  exact sum_raw (I.ok.hd hc) hl.isList rv.ints fun h' tk t' hk => ⟨.int _, H, I.kept hk, ⟨_, rfl⟩, q⟩
theorem cr_max (hc : X.calm = true) : CallR X (.builtin "max") (rMax X.K) := by
  intro pins s σ H vs us Q I r h
  obtain ⟨a, ns, rfl, hs, hne, q⟩ := h
  obtain ⟨its, rv, hl, _⟩ := I.list hs
  rw [Vals.ref1 r]
  exact max_raw (I.ok.hd hc) hl.isList rv.ints hne fun h' tk m t' hk h1 h2 => ⟨.int _, H, I.kept hk, ⟨_, rfl⟩, q m h1 h2⟩
theorem cr_min (hc : X.calm = true) : CallR X (.builtin "min") (rMin X.K) := by
  intro pins s σ H vs us Q I r h
  obtain ⟨a, ns, rfl, hs, hne, q⟩ := h
  obtain ⟨its, rv, hl, _⟩ := I.list hs
  rw [Vals.ref1 r]
  exact min_raw (I.ok.hd hc) hl.isList rv.ints hne fun h' tk m t' hk h1 h2 => ⟨.int _, H, I.kept hk, ⟨_, rfl⟩, q m h1 h2⟩
end
section
variable {X : Cx}
end
section
variable {X : Cx}
end
theorem iter_any {prog : Program} {w : World} {A : Around} {E : Value → Shared → Prop} {s : Shared} {l : Addr} {items : Array Value} {Q : Value → Shared → Prop} (hl : s.heap.IsList l items)
    (h : ∀ s₂ : Shared, s₂ = { s with heap := s.heap.push { cls := .type "list_iterator", data := .fields #[.ref l, .int 0 0] } } →
      (s₂.heap.IsListIter s.heap.objs.size l 0 ∧ s₂.heap.IsList l items) → l ≠ s.heap.objs.size → Q (.ref s.heap.objs.size) s₂) : wpAny (model prog w) A (pyIter (.ref l)) Q E s := by
  have hlt : l < s.heap.objs.size := by obtain ⟨_, e, _⟩ := hl; exact Heap.lt_size e
  exact wpAny_pyIter_list hl (h _ rfl ⟨⟨_, Heap.get?_push_size _ rfl, rfl, rfl⟩, hl.push _⟩ (Nat.ne_of_lt hlt))
theorem truth_bools {prog : Program} {w : World} {A : Around} {bs : List Bool} {its : List Value} (e : its = bs.map Value.bool) :
    TruthOf prog w A (fun i v => its.toArray[i]? = some v) (fun i => bs.getD i false) := fun i v s Q E hv hq => by
  have hv' : its[i]? = some v := by simpa using hv
  rw [e, List.getElem?_map] at hv'
  obtain ⟨b, hb, rfl⟩ := Option.map_eq_some_iff.mp hv'
  have hg : bs.getD i false = b := by rw [List.getD_eq_getElem?_getD, hb] <;> rfl
  have hq' : Q (bs.getD i false) s := hq
  rw [hg] at hq'
  exact wpAny_truthy_bool hq'
theorem any_range : ∀ bs : List Bool, (List.range bs.length).any (fun i => bs.getD i false) = bs.any id
  | [] => rfl
  | b :: bs => by
    rw [List.length_cons, List.range_succ_eq_map, List.any_cons, List.any_map, List.any_cons, ← any_range bs]
    all_goals rfl
theorem all_range : ∀ bs : List Bool, (List.range bs.length).all (fun i => bs.getD i false) = bs.all id
  | [] => rfl
  | b :: bs => by
    rw [List.length_cons, List.range_succ_eq_map, List.all_cons, List.all_map, List.all_cons, ← all_range bs]
    all_goals rfl
section
variable {X : Cx}
def rAll (K : PySem.W.Frag) : List V → Hp → VK → Prop := fun vs H Q => ∃ (a : Addr) (bs : List Bool), vs = [V.ref a] ∧ SqL K H a (bs.map V.bl) ∧ Q (.bl (bs.all id)) H
theorem cr_all (hc : X.calm = true) : CallR X (.builtin "all") (rAll X.K) := by
  intro pins s σ H vs us Q I r h
  obtain ⟨a, bs, rfl, hs, q⟩ := h
  obtain ⟨its, rv, hl, _⟩ := I.list hs
  rw [Vals.ref1 r]
  have hb := rv.bls
  refine call_all_walk (iter_any hl.isList fun s₂ e2 st hne => ?_)
  subst e2
  refine ⟨_, _, _, _, _, _, _, rfl, Walks.list (A := X.A.in1) (I.ok.hd hc) _ a hne its.toArray, st, truth_bools hb, fun h' tk hk => ?_⟩
  refine ⟨.bl _, H, I.kept fun b o eo => hk b o (fun hmem => ?_) (Heap.get?_push_of_some _ eo), ?_, q⟩
  · rcases List.mem_cons.mp hmem with e1 | hmem
    · exact absurd (e1 ▸ Heap.lt_size eo) (Nat.lt_irrefl _)
    · cases hmem
  · show Value.bool _ = Value.bool _
    rw [← all_range, hb, List.size_toArray, List.length_map]
end
section
variable {X : Cx} {pins : List (Addr × Obj)} {σ : St} {H : Hp} {s : Shared}
end
section
variable {X : Cx}
end
end L2
namespace L2
open PySem PySem.Spec PyProof.Rows
abbrev CellAt (h : Heap) (c : Addr) (v : Option Value) : Prop := h.IsCell c v
def relS (scope sc : Scope) : Scope :=
  { scope with names := scope.names.map fun (n, k) => if (k == .free && sc.kind == .function && sc.names.lookup n == some .cell) then (n, .cell) else (n, k) }
def cloFrom (cells : List (Str × Addr)) : List (Str × NameKind) → List (Str × Addr) → List (Str × Addr)
  | [], acc => acc
  | (n, k) :: r, acc => if k == .free then cloFrom cells r ((n, (cells.lookup n).getD 0) :: acc) else cloFrom cells r acc
theorem closure_loop (env : Env) (f : Str × NameKind → List (Str × Addr) → Sem (ForInStep (List (Str × Addr))))
    (hf : ∀ n k c, f (n, k) c = if k == .free then (do let a ← cellOf env n; pure (.yield ((n, a) :: c))) else pure (.yield c)) :
    ∀ (names : List (Str × NameKind)) (acc : List (Str × Addr)), (∀ y ∈ names, y.2 = .free → ∃ c, env.cells.lookup y.1 = some c) → forIn names acc f = pure (cloFrom env.cells names acc)
  | [], acc, _ => by rw [List.forIn_nil]; rfl
  | (n, k) :: r, acc, h => by
    rw [List.forIn_cons, hf]
    have ih := fun acc => closure_loop env f hf r acc fun y hy => h y (List.mem_cons_of_mem _ hy)
    unfold cloFrom
    by_cases hk : (k == NameKind.free) = true
    · rw [if_pos hk, if_pos hk]
      obtain ⟨c, hc⟩ := h (n, k) List.mem_cons_self (by simpa using hk)
      have e : cellOf env n = pure c := by unfold cellOf; rw [hc]
      rw [e]
      have e2 : (env.cells.lookup n).getD 0 = c := by rw [hc]; rfl
      rw [e2]
      exact ih _
    · rw [if_neg hk, if_neg hk]
      exact ih _
theorem closure_ok {scope : Scope} {env : Env} (h : ∀ y ∈ scope.names, y.2 = .free → ∃ c, env.cells.lookup y.1 = some c) : closureFor scope env = pure (cloFrom env.cells scope.names []) := by
  simp only [closureFor]
  rw [closure_loop env _ (fun n k c => rfl) scope.names [] h]
  rfl
theorem mem_lookup {α : Type} : ∀ {l : List (Str × α)} {n : Str} {c : α}, (n, c) ∈ l → ∃ c', l.lookup n = some c'
  | (k, v) :: r, n, c, h => by
    rw [List.lookup_cons]
    cases hb : n == k with
    | true => exact ⟨_, rfl⟩
    | false =>
      rcases List.mem_cons.mp h with e | h
      · cases e; simp at hb
      · exact mem_lookup h
theorem cloFrom_mem {cells : List (Str × Addr)} : ∀ {names : List (Str × NameKind)} {acc : List (Str × Addr)} {n : Str} {c : Addr}, (n, c) ∈ cloFrom cells names acc → (n, c) ∈ acc ∨ ((n, .free) ∈ names ∧ c = (cells.lookup n).getD 0)
  | [], _, _, _, h => .inl h
  | (m, k) :: r, acc, n, c, h => by
    unfold cloFrom at h
    split at h
    · rename_i hk
      have hk : k = .free := by simpa using hk
      rcases cloFrom_mem h with h | ⟨h1, h2⟩
      · rcases List.mem_cons.mp h with e | h
        · cases e; exact .inr ⟨hk ▸ List.mem_cons_self, rfl⟩
        · exact .inl h
      · exact .inr ⟨List.mem_cons_of_mem _ h1, h2⟩
    · rcases cloFrom_mem h with h | ⟨h1, h2⟩
      · exact .inl h
      · exact .inr ⟨List.mem_cons_of_mem _ h1, h2⟩
theorem cloFrom_acc {cells : List (Str × Addr)} : ∀ {names : List (Str × NameKind)} {acc : List (Str × Addr)} {p : Str × Addr}, p ∈ acc → p ∈ cloFrom cells names acc
  | [], _, _, h => h
  | (m, k) :: r, acc, p, h => by
    unfold cloFrom
    split
    · exact cloFrom_acc (List.mem_cons_of_mem _ h)
    · exact cloFrom_acc h
theorem cloFrom_has {cells : List (Str × Addr)} : ∀ {names : List (Str × NameKind)} {acc : List (Str × Addr)} {n : Str}, (n, .free) ∈ names → (n, (cells.lookup n).getD 0) ∈ cloFrom cells names acc
  | (m, k) :: r, acc, n, h => by
    unfold cloFrom
    rcases List.mem_cons.mp h with e | h
    · cases e
      exact cloFrom_acc List.mem_cons_self
    · split
      · exact cloFrom_has h
      · exact cloFrom_has h
theorem cells_mem : ∀ {names : List (Str × NameKind)} {h : Heap} {acc : List (Str × Addr)} {x : Str} {c : Addr}, (x, c) ∈ cellsFrom h.objs.size names acc →
    (x, c) ∈ acc ∨ ((x, .cell) ∈ names ∧ h.objs.size ≤ c ∧ CellAt (pushCells h names) c none)
  | [], _, _, _, _, h => .inl h
  | (n, k) :: r, h, acc, x, c, hm => by
    unfold cellsFrom at hm
    unfold pushCells
    split at hm
    · rename_i hk
      rw [if_pos hk]
      have hk : k = .cell := by simpa using hk
      rw [← Heap.size_push h { cls := .type "cell", data := .cell none }] at hm
      rcases cells_mem hm with hm | ⟨h1, h2, h3⟩
      · rcases List.mem_cons.mp hm with e | hm
        · cases e
          exact .inr ⟨hk ▸ List.mem_cons_self, Nat.le_refl _, _, pushCells_keeps r _ _ _ (Heap.get?_push_size _ rfl), rfl⟩
        · exact .inl hm
      · rw [Heap.size_push] at h2
        exact .inr ⟨List.mem_cons_of_mem _ h1, Nat.le_of_succ_le h2, h3⟩
    · rename_i hk
      rw [if_neg hk]
      rcases cells_mem hm with hm | ⟨h1, h2, h3⟩
      · exact .inl hm
      · exact .inr ⟨List.mem_cons_of_mem _ h1, h2, h3⟩
theorem cells_acc : ∀ {names : List (Str × NameKind)} {n : Nat} {acc : List (Str × Addr)} {p : Str × Addr}, p ∈ acc → p ∈ cellsFrom n names acc
  | [], _, _, _, h => h
  | (m, k) :: r, n, acc, p, h => by
    unfold cellsFrom
    split
    · exact cells_acc (List.mem_cons_of_mem _ h)
    · exact cells_acc h
theorem cells_has : ∀ {names : List (Str × NameKind)} {n : Nat} {acc : List (Str × Addr)} {x : Str}, (x, .cell) ∈ names → ∃ c, (x, c) ∈ cellsFrom n names acc
  | (m, k) :: r, n, acc, x, h => by
    unfold cellsFrom
    rcases List.mem_cons.mp h with e | h
    · cases e
      exact ⟨n, cells_acc List.mem_cons_self⟩
    · split
      · exact cells_has h
      · exact cells_has h
theorem cells_inj : ∀ {names : List (Str × NameKind)} {h : Heap} {acc : List (Str × Addr)} {x y : Str} {c : Addr}, (∀ p ∈ acc, p.2 < h.objs.size) → (∀ x y c, (x, c) ∈ acc → (y, c) ∈ acc → x = y) →
    (x, c) ∈ cellsFrom h.objs.size names acc → (y, c) ∈ cellsFrom h.objs.size names acc → x = y
  | [], _, _, _, _, _, _, hi, h1, h2 => hi _ _ _ h1 h2
  | (n, k) :: r, h, acc, x, y, c, hl, hi, h1, h2 => by
    unfold cellsFrom at h1 h2
    split at h1
    · rename_i hk
      rw [if_pos hk] at h2
      rw [← Heap.size_push h { cls := .type "cell", data := .cell none }] at h1 h2
      refine cells_inj (h := h.push _) (fun p hp => ?_) (fun x y c a b => ?_) h1 h2
      · rw [Heap.size_push]
        rcases List.mem_cons.mp hp with rfl | hp
        · exact Nat.lt_succ_self _
        · exact Nat.lt_succ_of_lt (hl p hp)
      · rcases List.mem_cons.mp a with e | a <;> rcases List.mem_cons.mp b with e' | b
        · cases e; cases e'; rfl
        · cases e; exact absurd (hl _ b) (Nat.lt_irrefl _)
        · cases e'; exact absurd (hl _ a) (Nat.lt_irrefl _)
        · exact hi _ _ _ a b
    · rename_i hk
      rw [if_neg hk] at h2
      exact cells_inj hl hi h1 h2
theorem newEnv_comp {M : Model} {A : Around} {E : Value → Shared → Prop} {s : Shared} {scope : Scope} {globals : Addr} {closure : List (Str × Addr)} {qual : Str} {func : Option Addr} {code : Value} {around : Env} {builtins : Addr} {Q : Env → Shared → Prop}
    (h : Q (newEnv scope s.heap.objs.size globals (cellsFrom (s.heap.objs.size + 1) scope.names closure) qual func code (some around) builtins)
      { s with heap := pushCells (s.heap.push { cls := .type "dict", data := .dict #[] }) scope.names }) :
    wpAny M A (newFunctionEnv scope globals closure [] qual func code (some around) builtins) Q E s := by
  simp only [newFunctionEnv, Option.isSome_some, if_true]
  refine wpAny_bind (wpAny_alloc ?_)
  refine wpAny_bind (wpAny_layCells _ (fun n k c => rfl) scope.names closure _ _ ?_)
  rw [show ({ s with heap := s.heap.push { cls := .type "dict", data := .dict #[] } } : Shared).heap.objs.size = s.heap.objs.size + 1 from Heap.size_push ..]
  rw [List.forIn_nil]
  exact wpAny_bind (wpAny_pure (wpAny_pure h))
theorem lookup_relS {sc : Scope} : ∀ {names : List (Str × NameKind)} {x : Str} {k : NameKind},
    (names.map fun (n, k) => if (k == NameKind.free && sc.kind == .function && sc.names.lookup n == some .cell) then (n, NameKind.cell) else (n, k)).lookup x = some k →
    ∃ k', names.lookup x = some k' ∧ (k = k' ∨ (k' = .free ∧ k = .cell))
  | [], _, _, h => by simp at h
  | (n, k₀) :: r, x, k, h => by
    have ih := @lookup_relS sc r x k
    have h' : List.lookup x ((if (k₀ == NameKind.free && sc.kind == .function && sc.names.lookup n == some .cell) = true then (n, NameKind.cell) else (n, k₀)) :: (r.map _)) = some k := h
    cases hx : x == n with
    | true =>
      simp only [List.lookup_cons, hx]
      by_cases hc : (k₀ == NameKind.free && sc.kind == .function && sc.names.lookup n == some .cell) = true
      · rw [if_pos hc] at h'
        simp only [List.lookup_cons, hx] at h'
        cases h'
        simp only [Bool.and_eq_true, beq_iff_eq] at hc
        exact ⟨k₀, rfl, .inr ⟨hc.1.1, rfl⟩⟩
      · rw [if_neg hc] at h'
        simp only [List.lookup_cons, hx] at h'
        cases h'
        exact ⟨_, rfl, .inl rfl⟩
    | false =>
      simp only [List.lookup_cons, hx]
      by_cases hc : (k₀ == NameKind.free && sc.kind == .function && sc.names.lookup n == some .cell) = true
      · rw [if_pos hc] at h'
        simp only [List.lookup_cons, hx] at h'
        exact ih h'
      · rw [if_neg hc] at h'
        simp only [List.lookup_cons, hx] at h'
        exact ih h'
structure BlkOk (N : List Str) (sc scope : Scope) (own : List (Str × Nat)) : Prop where
  kind : scope.kind = .function
  uniq : ∀ y ∈ scope.names, scope.names.lookup y.1 = some y.2
  ix : ∀ p ∈ own, N[p.2]? = some p.1
  free : ∀ y ∈ scope.names, y.2 = .free → sc.names.lookup y.1 = some .cell ∨ sc.names.lookup y.1 = some .free
  own : ∀ y ∈ scope.names, y.2 = .local ∨ y.2 = .cell → y.1 ∈ own.map (·.1) ∨ y.1 ∉ N
def wipe (σ : St) : List Nat → St
  | [] => σ
  | v :: vs => (wipe σ vs).set v none
theorem wipe_length (σ : St) : ∀ vs : List Nat, (wipe σ vs).length = σ.length
  | [] => rfl
  | v :: vs => by unfold wipe; rw [List.length_set, wipe_length σ vs]
theorem wipe_some {σ : St} {i : Nat} {x : V} : ∀ {vs : List Nat}, (wipe σ vs)[i]? = some (some x) → σ[i]? = some (some x) ∧ i ∉ vs
  | [], h => ⟨h, by simp⟩
  | v :: vs, h => by
    unfold wipe at h
    by_cases hi : v = i
    · subst hi
      by_cases hv : v < (wipe σ vs).length
      · rw [List.getElem?_set_self hv] at h; cases h
      · rw [List.getElem?_eq_none (by simpa using hv)] at h; cases h
    · rw [List.getElem?_set_ne hi] at h
      obtain ⟨h1, h2⟩ := wipe_some h
      exact ⟨h1, by simp only [List.mem_cons, not_or]; exact ⟨fun e => hi e.symm, h2⟩⟩
abbrev Cx.blk (X : Cx) (s : Shared) (H : Hp) (scope : Scope) (cenv : Env) (fp : List Addr) : Cx := { X with s₀ := s, H₀ := H, env := cenv, outer := X.stack, ex := fp, fn := fun x => scope.names.lookup x == some .cell, pn := [], xe := fun _ _ => False }
section
variable {X : Cx} {pins : List (Addr × Obj)} {σ : St} {H : Hp} {s : Shared}
theorem block_start {scope : Scope} {own : List (Str × Nat)} {fp : List Addr} (I : Inv X pins σ H s) (ok : BlkOk X.N X.env.scope scope own) (hN : X.N.Nodup) (hfp : ∀ b ∈ fp, FpOk X pins H b ∧ b < s.heap.objs.size) :
    Inv (X.blk s H scope (compEnvC scope (cellsFrom (s.heap.objs.size + 1) scope.names (cloFrom X.env.cells scope.names [])) s.heap.objs.size X.env) fp) [] (wipe σ (own.map (·.2))) H { s with heap := pushCells (s.heap.push { cls := .type "dict", data := .dict #[] }) scope.names } := by
  have hfree : ∀ y ∈ scope.names, y.2 = .free → ∃ c, X.env.cells.lookup y.1 = some c := fun y hy e => by
    rcases ok.free y hy e with k | k
    · exact I.ok.has _ (.inl k)
    · exact I.ok.has _ (.inr k)
  generalize hcenv : compEnvC scope (cellsFrom (s.heap.objs.size + 1) scope.names (cloFrom X.env.cells scope.names [])) s.heap.objs.size X.env = cenv
  have kp : ∀ b o, s.heap.get? b = some o → (pushCells (s.heap.push { cls := .type "dict", data := .dict #[] }) scope.names).get? b = some o := fun b o e => pushCells_keeps _ _ _ _ (Heap.get?_push_of_some _ e)
  have hL : cenv.locals = s.heap.objs.size := by rw [← hcenv]; rfl
  have hcl : cenv.cells = cellsFrom (s.heap.objs.size + 1) scope.names (cloFrom X.env.cells scope.names []) := by rw [← hcenv]; rfl
  have hsc : cenv.scope = relS scope X.env.scope := by rw [← hcenv]; rfl
  rw [← Heap.size_push s.heap { cls := .type "dict", data := .dict #[] }] at hcl
  have cm : ∀ {y c}, (y, c) ∈ cloFrom X.env.cells scope.names [] → X.env.cells.lookup y = some c ∧ c < s.heap.objs.size := fun {y c} hm => by
    rcases cloFrom_mem hm with hm | ⟨h1, rfl⟩
    · cases hm
    · obtain ⟨c, hc⟩ := hfree _ h1 rfl
      rw [hc]
      obtain ⟨w, z⟩ := I.cell _ _ hc
      exact ⟨rfl, z.lt⟩
  have mem : ∀ {y c}, cenv.cells.lookup y = some c → (X.env.cells.lookup y = some c ∧ c < s.heap.objs.size) ∨ (s.heap.objs.size + 1 ≤ c ∧ CellAt (pushCells (s.heap.push { cls := .type "dict", data := .dict #[] }) scope.names) c none) := fun {y c} e => by
    rw [hcl] at e
    rcases cells_mem (PySem.mem_of_lookup e) with hm | ⟨_, h2, h3⟩
    · exact .inl (cm hm)
    · rw [Heap.size_push] at h2; exact .inr ⟨h2, h3⟩
  have look : ∀ {y}, scope.names.lookup y = some .free → ∃ c, cenv.cells.lookup y = some c ∧ X.env.cells.lookup y = some c := fun {y} hl => by
    have hy : (y, NameKind.free) ∈ scope.names := PySem.mem_of_lookup hl
    obtain ⟨c', e'⟩ := mem_lookup (cells_acc (names := scope.names) (n := (s.heap.push { cls := .type "dict", data := .dict #[] }).objs.size) (cloFrom_has (cells := X.env.cells) (acc := []) hy))
    rw [← hcl] at e'
    refine ⟨c', e', ?_⟩
    rw [hcl] at e'
    rcases cells_mem (PySem.mem_of_lookup e') with hm | ⟨h1, _, _⟩
    · exact (cm hm).1
    · have := ok.uniq _ h1
      rw [hl] at this; cases this
  have okB : (X.blk s H scope cenv fp).Ok := by
    refine ⟨I.ok.mod, by show cenv.scope.kind = _; rw [hsc]; exact ok.kind, by show cenv.globals = _; rw [← hcenv]; exact I.ok.glob, by show cenv.builtins = _; rw [← hcenv]; exact I.ok.blt, by show s.heap.objs.size ≤ cenv.locals; rw [hL]; exact Nat.le_refl _,
      fun y z c e1 e2 => ?_, fun y hy => ?_, fun y c z e => ?_, I.ok.hd, I.ok.frames, .inl rfl, fun b hb => ⟨?_, fun y c e z => ?_⟩, I.bs, Nat.le_trans I.ok.bsz I.sz, fun b o e hb => ?_, fun b hb z => ?_, I.stack, I.stkFree⟩
    · have e1 : cenv.cells.lookup y = some c := e1
      have e2 : cenv.cells.lookup z = some c := e2
      rw [hcl] at e1 e2
      refine cells_inj (fun p hp => ?_) (fun y z c a b => I.ok.inj y z c (cm a).1 (cm b).1) (PySem.mem_of_lookup e1) (PySem.mem_of_lookup e2)
      rw [Heap.size_push]
      exact Nat.lt_succ_of_lt (cm (y := p.1) (c := p.2) hp).2
    · show ∃ c, cenv.cells.lookup y = some c
      have key : ∀ k, cenv.kindOf y = some k → (k = .cell ∨ k = .free) → ∃ c, cenv.cells.lookup y = some c := fun k hk hk' => by
        unfold Env.kindOf at hk
        rw [hsc] at hk
        obtain ⟨k', e, r⟩ := lookup_relS hk
        have : k' = .cell ∨ k' = .free := by
          rcases r with rfl | ⟨rfl, _⟩
          · exact hk'
          · exact .inr rfl
        rcases this with rfl | rfl
        · obtain ⟨c, hm⟩ := cells_has (n := (s.heap.push { cls := .type "dict", data := .dict #[] }).objs.size) (acc := cloFrom X.env.cells scope.names []) (PySem.mem_of_lookup e)
          obtain ⟨c', e'⟩ := mem_lookup hm
          exact ⟨c', by rw [hcl]; exact e'⟩
        · obtain ⟨c, h1, _⟩ := look e
          exact ⟨c, h1⟩
      rcases hy with hy | hy
      · exact key _ hy (.inl rfl)
      · exact key _ hy (.inr rfl)
    · have z : (scope.names.lookup y == some NameKind.cell) = true := z
      have z : scope.names.lookup y = some .cell := by simpa using z
      have e : cenv.cells.lookup y = some c := e
      rw [hcl] at e
      rcases cells_mem (PySem.mem_of_lookup e) with hm | ⟨_, h2, _⟩
      · rcases cloFrom_mem hm with hm | ⟨h1, _⟩
        · cases hm
        · have q := ok.uniq _ h1
          rw [z] at q; cases q
      · rw [Heap.size_push] at h2
        exact Nat.le_of_succ_le h2
    · show b ≠ cenv.locals
      rw [hL]; exact Nat.ne_of_lt (hfp b hb).2
    · have e : cenv.cells.lookup y = some c := e
      rcases mem e with ⟨h1, _⟩ | ⟨h1, _⟩
      · exact (hfp b hb).1.2.2.2.2.1 y c h1 z
      · have h2 : s.heap.objs.size + 1 ≤ b := by rw [← z]; exact h1
        exact absurd (Nat.lt_of_lt_of_le (hfp b hb).2 (Nat.le_of_succ_le h2)) (Nat.lt_irrefl _)
    · rcases (hfp b hb).1.2.2.2.1 with z | z
      · exact I.ok.noex b o e z
      · exact absurd (Nat.lt_of_lt_of_le (Heap.lt_size e) (Nat.le_trans I.ok.bsz z)) (Nat.lt_irrefl _)
    · rcases List.mem_cons.mp (I.stkSub b z) with z | z
      · exact (hfp b hb).1.2.1 z
      · exact (hfp b hb).1.2.2.1 z
  refine ⟨okB, rfl, I.bare, Un.kept kp, ⟨fun _ => none, ?_, fun i y av e1 e2 e3 => ?_⟩, fun y c e => ?_, ?_, fun y c e => ?_, fun p hp => ?_, I.hok.kept kp, by rw [wipe_length]; exact I.len⟩
  · show Heap.Ns _ cenv.locals _
    rw [hL]
    exact Heap.Ns.keeps (Heap.Ns.new ..) fun b o e => pushCells_keeps _ _ _ _ e
  · obtain ⟨e2, hne⟩ := wipe_some e2
    have hfr : scope.names.lookup y = some .free ∧ (cenv.kindOf y = some .cell ∨ cenv.kindOf y = some .free) := by
      have key : ∀ k, cenv.scope.names.lookup y = some k → k = .local ∨ k = .cell ∨ k = .free → scope.names.lookup y = some .free ∧ (cenv.kindOf y = some .cell ∨ cenv.kindOf y = some .free) := fun k hk hk' => by
        have hk0 := hk
        rw [hsc] at hk
        obtain ⟨k', e, r⟩ := lookup_relS hk
        have no : ¬ (k' = .local ∨ k' = .cell) := fun hh => by
          rcases ok.own _ (PySem.mem_of_lookup e) hh with e' | e'
          · obtain ⟨p, hp, hpy⟩ := List.mem_map.mp e'
            have e3 := ok.ix p hp
            have : p.1 = y := hpy
            rw [this] at e3
            exact hne (List.mem_map.mpr ⟨p, hp, nodup_ix hN e3 e1⟩)
          · exact e' (List.mem_of_getElem? e1)
        rcases r with rfl | ⟨rfl, rfl⟩
        · rcases hk' with rfl | rfl | rfl
          · exact absurd (.inl rfl) no
          · exact absurd (.inr rfl) no
          · exact ⟨e, .inr hk0⟩
        · exact ⟨e, .inl hk0⟩
      have e3 : Vis cenv.scope y := e3
      rcases e3 with e3 | e3 | e3
      · exact key _ e3 (.inl rfl)
      · exact key _ e3 (.inr (.inl rfl))
      · exact key _ e3 (.inr (.inr rfl))
    obtain ⟨m, hn, hl⟩ := I.loc
    have hvis : Vis X.env.scope y := (ok.free _ (PySem.mem_of_lookup hfr.1) rfl).elim (fun k => .inr (.inl k)) (fun k => .inr (.inr k))
    obtain ⟨w, r, q⟩ := hl i y av e1 e2 hvis
    refine ⟨w, r, .inr ⟨hfr.2, ?_⟩⟩
    obtain ⟨c, h1, h2⟩ := look hfr.1
    rcases q with ⟨k, _⟩ | ⟨_, c', e', z⟩
    · have k : X.env.scope.names.lookup y = some .local := k
      rcases ok.free _ (PySem.mem_of_lookup hfr.1) rfl with k' | k' <;> rw [show X.env.scope.names.lookup y = _ from k'] at k <;> cases k
    · rw [h2] at e'; cases e'
      exact ⟨c, h1, z.keeps kp⟩
  · have e : cenv.cells.lookup y = some c := e
    rcases mem e with ⟨h1, _⟩ | ⟨_, z⟩
    · obtain ⟨w, z⟩ := I.cell y c h1
      exact ⟨w, z.keeps kp⟩
    · exact ⟨_, z⟩
  · show H cenv.locals = none
    rw [hL]; exact I.hok.fresh (Nat.le_refl _)
  · have e : cenv.cells.lookup y = some c := e
    rcases mem e with ⟨h1, _⟩ | ⟨h1, _⟩
    · exact I.freeC y c h1
    · exact I.hok.fresh (Nat.le_of_succ_le h1)
  · exact absurd (show p ∈ ([] : List (Addr × Obj)) ++ [] from hp) (by simp)
theorem app_ok {E : Value → Shared → Prop} {D : Addr} {xs : List V} {y : V} {v : Value} {Q : Value → Shared → Prop} (I : Inv X pins σ H s) (hD : H D = some (.lst xs)) (hz : xs.length < sizeLine) (r : RelV y v)
    (h : ∀ s', Inv X pins σ (upd H D (.lst (xs ++ [y]))) s' → Q .none s') : wpAny (model X.prog X.w) X.A (call (.builtin "list.append") [.ref D, v]) Q E s := by
  obtain ⟨hz', its, n, ri, e⟩ := I.hok D _ hD
  have hl := ri.length
  refine append_at (hsz := by rw [List.size_toArray]; omega) e fun h' sb ho' => ?_
  refine h { s with heap := h' } (I.write (t' := s.toks) (by rw [hD]; trivial) (.inl rfl) (fun b u hb q => (sb.2 b hb).trans q) ⟨_, ho'⟩ ⟨by rw [List.length_append]; exact hz, its ++ [v], n + 1, ri.append (.cons r .nil), ?_⟩)
  rw [ho']
  simp
def PTs (X : Cx) (ifs : List Expr) (t : TT) : Prop :=
  ∀ (pins : List (Addr × Obj)) (s : Shared) (σ : St) (H : Hp) (Q : Bool → Hp → Prop), Inv X pins σ H s → t σ H Q →
    wpAny (model X.prog X.w) X.A (forIn ifs true fun c r => if r = true then do let ok ← isTrue c X.env (eval c X.env); pure (ForInStep.yield ok) else pure (ForInStep.yield r)) (TP X pins σ Q) X.xe s
def tYes : TT := fun _ H Q => Q true H
theorem pts_nil : PTs X [] tYes := fun _ _ _ H _ I h => wpAny_tests_nil ⟨H, I, h⟩
theorem pts_one {c : Expr} {t : TT} (h : PT X c t) : PTs X [c] t := fun pins s σ H Q I hw => wpAny_tests_one (h pins s σ H Q I hw)
end
theorem thnF {α : Type} {t : Sem α} {Q Q' : α → Shared → Prop} {M : Model} {A : Around} {E : Value → Shared → Prop} {s : Shared} (h : wpAny M A t Q (fun _ _ => False) s) (hQ : ∀ a s, Q a s → Q' a s) : wpAny M A t Q' E s := wpAny_mono h hQ fun _ _ z => False.elim z
theorem compLoop_any {prog : Program} {w : World} {A : Around} {R : Result → Shared → Prop} {s : Shared} {elt target iter : Expr} {ifs : List Expr} {scope : Scope} {pos : Pos} {it acc : Value} {env : Env} (I : Nat → Shared → Prop)
    (turn : ∀ n s, I n s → wpAny (model prog w) A (pyNext it) (fun r s₁ => match r with
      | none => R (.ok .next) s₁
      | some v => wpAny (model prog w) A (letOwnedTupleGo target it v) (fun _ s₁' => wpAny (model prog w) A (assign target env v) (fun _ s₂ =>
          wpAny (model prog w) A (forIn ifs true fun c r => if r = true then do let ok ← isTrue c env (eval c env); pure (ForInStep.yield ok) else pure (ForInStep.yield r)) (fun ok s₃ =>
            if ok = true then wpAny (model prog w) A (eval elt env) (fun x s₄ =>
              wpAny (model prog w) A (call (.builtin "list.append") [acc, x]) (fun _ s₅ => ∃ m, m < n ∧ I m s₅) (notedBy (model prog w) A env fun e s' => R (.error e) s') s₄) (notedBy (model prog w) A env fun e s' => R (.error e) s') s₃
            else ∃ m, m < n ∧ I m s₃) (notedBy (model prog w) A env fun e s' => R (.error e) s') s₂) (notedBy (model prog w) A env fun e s' => R (.error e) s') s₁') (notedBy (model prog w) A env fun e s' => R (.error e) s') s₁) (notedBy (model prog w) A env fun e s' => R (.error e) s') s)
    (n : Nat) (h : I n s) :
    codeAny (model prog w) A (.compLoop (.ListComp elt [⟨target, iter, ifs, 0⟩] scope pos) 0 it acc env) R s := by
  refine codeAny_loop rfl I (fun n s hI => ?_) n h
  show wpAny _ A ((compTurn (.ListComp elt [⟨target, iter, ifs, 0⟩] scope pos) 0 it acc env).onRaise (fun x => do noteFrame x env; theTreesLotGoes x)) _ _ s
  refine wpAny_noted ?_
  rw [compTurn_list]
  refine wpAny_bind (wpAny_standAt (wpAny_bind (wpAny_mono (turn n s hI) (fun r s₁ h₁ => ?_) fun _ _ h' => h')))
  cases r with
  | none => exact wpAny_pure h₁
  | some v =>
    refine wpAny_bind (wpAny_mono h₁ (fun _ s₁' h₁' => ?_) fun _ _ h' => h')
    refine wpAny_bind (wpAny_mono h₁' (fun _ s₂ h₂ => wpAny_bind (wpAny_mono h₂ (fun ok s₃ h₃ => ?_) fun _ _ h' => h')) fun _ _ h' => h')
    cases ok with
    | false => exact wpAny_pure ⟨rfl, h₃⟩
    | true =>
      exact wpAny_bind (wpAny_bind (wpAny_mono h₃ (fun x s₄ h₄ => wpAny_bind (wpAny_mono h₄ (fun _ s₅ h₅ => wpAny_pure (wpAny_pure ⟨rfl, h₅⟩)) fun _ _ h' => h')) fun _ _ h' => h'))
section
variable {X : Cx}
def tLc (wi : TI) (g : TG) (tt : TT) (te : TE) (vs : List Nat) : TE := fun σ H Q => wi σ H fun J H1 => ∀ D, H1 D = none → ∃ W : Nat → Nat → Hp → Prop, (∃ m, W 0 m (upd H1 D (.lst []))) ∧ ∀ i m H, W i m H →
  (J.stop i H ∧ Q (.ref D) H) ∨ (J.go i H ∧ ∃ Nx : Hp → Prop, (∀ H', Nx H' → ∃ m', m' < m ∧ W (i + 1) m' H') ∧ ∀ x H', J.yld i H x H' → g x (wipe σ vs) H' fun σ2 H2 => wipe σ2 vs = wipe σ vs ∧ tt σ2 H2 fun b H3 =>
    if b = true then te σ2 H3 fun y H4 => ∃ acc, H4 D = some (.lst acc) ∧ acc.length < sizeLine ∧ Nx (upd H4 D (.lst (acc ++ [y]))) else Nx H3)
theorem lc_core {pins : List (Addr × Obj)} {s : Shared} {σ : St} {H : Hp} {Q : VK} {elt tg iter : Expr} {ifs : List Expr} {scope : Scope} {own : List (Str × Nat)} {pos pos' : Pos} {wi : TI} {g : TG} {tt : TT} {te : TE} {use : Option (Value → Sem Unit)} {Qf : Value → Shared → Prop}
    (hc : X.calm = true) (hN : X.N.Nodup) (I : Inv X pins σ H s) (hi : PI X tg iter wi) (ok : BlkOk X.N X.env.scope scope own)
    (hg : ∀ (s : Shared) (H : Hp) (C : Addr) (cl : List (Str × Addr)) (fp : List Addr), PG (X.blk s H scope (compEnvC scope cl C X.env) fp) tg g) (ht : ∀ (s : Shared) (H : Hp) (C : Addr) (cl : List (Str × Addr)) (fp : List Addr), PTs (X.blk s H scope (compEnvC scope cl C X.env) fp) ifs tt)
    (he : ∀ (s : Shared) (H : Hp) (C : Addr) (cl : List (Str × Addr)) (fp : List Addr), PE (X.blk s H scope (compEnvC scope cl C X.env) fp) elt te) (hs : ∀ x, foldedSetIterable iter X.env x = pure x)
    (h : tLc wi g tt te (own.map (·.2)) σ H Q)
    (hRR : ∀ D C s' m H', Inv X pins σ H' s' → Q (.ref D) H' → s'.heap.Ns C m → FpOk X pins H' C → compPost (model X.prog X.w) X.A X.xe use Qf (.ref D) C (.ok .next) s') :
    wpAny (model X.prog X.w) X.A (comprehension (.ListComp elt [⟨tg, iter, ifs, 0⟩] scope pos) scope X.env pos' (newList []) false (eval iter X.env) use) Qf X.xe s := by
  have hfree : ∀ y ∈ scope.names, y.2 = .free → ∃ c, X.env.cells.lookup y.1 = some c := fun y hy e => by
    rcases ok.free y hy e with k | k
    · exact I.ok.has _ (.inl k)
    · exact I.ok.has _ (.inr k)
  refine wpAny_comprehension_free (use := use) rfl hs (closure_ok hfree) ok.kind (fun y hy e => by rw [ok.uniq y hy, e])
    (thn (hi pins s σ H _ I h) fun xv s1 hx => thn hx fun itv s2 h2 => ?_)
  obtain ⟨it, fp, tn, J, H2, e, I2, T, st2, f2, q⟩ := h2
  subst e
  refine wpAny_newObj_type (newEnv_comp ?_) (by show 0 ≤ sizeLine; decide)
  generalize hD : s2.heap.objs.size = D
  have hDn : H2 D = none := I2.hok.fresh (Nat.le_of_eq hD)
  obtain ⟨W, ⟨m0, w0⟩, turn⟩ := q D hDn
  generalize hs3 : ({ s2 with heap := s2.heap.push { cls := .type "list", data := .seq ([] : List Value).toArray } } : Shared) = s3
  have I3 : Inv X pins σ (upd H2 D (.lst [])) s3 := by
    rw [← hs3]
    refine I2.laid (t' := s2.toks) (fun b o e => Heap.get?_push_of_some _ e) (Nat.le_of_eq hD) ⟨Nat.zero_le _, [], 0, .nil, ?_⟩
    rw [← hD]
    exact Heap.get?_push_size _ rfl
  have h3 : s3.heap = s2.heap.push { cls := .type "list", data := .seq ([] : List Value).toArray } := by rw [← hs3]
  have sz : ∀ b ∈ fp, b < s2.heap.objs.size := fun b hb => by
    obtain ⟨o, e, _⟩ := T.obj _ _ st2 b hb
    exact Heap.lt_size e
  have f3 : ∀ b ∈ fp, FpOk X pins (upd H2 D (.lst [])) b ∧ b < s3.heap.objs.size := fun b hb => by
    have hlt := sz b hb
    refine ⟨⟨?_, (f2 b hb).2⟩, by rw [h3, Heap.size_push]; exact Nat.lt_succ_of_lt hlt⟩
    rw [upd_ne (by rw [← hD]; exact Nat.ne_of_lt hlt)]
    exact (f2 b hb).1
  have st3 : tn 0 s3.heap := T.keep _ _ _ st2 fun b _ o e => by rw [h3]; exact Heap.get?_push_of_some _ e
  have I4 := block_start I3 ok hN f3
  have pg := hg s3 (upd H2 D (.lst [])) s3.heap.objs.size (cellsFrom (s3.heap.objs.size + 1) scope.names (cloFrom X.env.cells scope.names [])) fp
  have pt := ht s3 (upd H2 D (.lst [])) s3.heap.objs.size (cellsFrom (s3.heap.objs.size + 1) scope.names (cloFrom X.env.cells scope.names [])) fp
  have pe := he s3 (upd H2 D (.lst [])) s3.heap.objs.size (cellsFrom (s3.heap.objs.size + 1) scope.names (cloFrom X.env.cells scope.names [])) fp
  show codeAny _ _ (.compStart (.ListComp elt [⟨tg, iter, ifs, 0⟩] scope pos) 0 (.ref it) (.ref D) (compEnvC scope (cellsFrom (s3.heap.objs.size + 1) scope.names (cloFrom X.env.cells scope.names [])) s3.heap.objs.size X.env)) (compPost (model X.prog X.w) X.A X.xe use Qf (.ref D) s3.heap.objs.size) { s3 with heap := pushCells (s3.heap.push { cls := .type "dict", data := .dict #[] }) scope.names }
  have nfp : ∀ b ∈ fp, (upd H2 D (.lst [])) b = none := fun b hb => (f3 b hb).1.1
  generalize hce : compEnvC scope (cellsFrom (s3.heap.objs.size + 1) scope.names (cloFrom X.env.cells scope.names [])) s3.heap.objs.size X.env = ce at I4 pg pt pe ⊢
  have cL : ce.locals = s3.heap.objs.size := by subst hce; rfl
  generalize hH3 : upd H2 D (.lst []) = H3 at I3 I4 pg pt pe w0 nfp f3
  generalize hs4 : ({ s3 with heap := pushCells (s3.heap.push { cls := .type "dict", data := .dict #[] }) scope.names } : Shared) = s4 at I4 ⊢
  have st4 : tn 0 s4.heap := T.keep _ _ _ st3 fun b _ o e => by rw [← hs4]; exact pushCells_keeps _ _ _ _ (Heap.get?_push_of_some _ e)
  have stat : ∀ {σ' : St} {H' : Hp} {s' : Shared}, Inv (X.blk s3 H3 scope ce fp) [] σ' H' s' → (∀ b ∈ fp, H' b = none) → ∀ b ∈ fp, FpOk (X.blk s3 H3 scope ce fp) [] H' b := fun {σ' H' s'} I' hn b hb =>
    ⟨hn b hb, (I'.ok.exf b hb).1, I'.ok.exfs b hb, .inl hb, fun x c e => (I'.ok.exf b hb).2 x c e, fun p hp => absurd (show p ∈ ([] : List (Addr × Obj)) ++ [] from hp) (by simp)⟩
  have loop : codeAny (model X.prog X.w) X.A (.compLoop (.ListComp elt [⟨tg, iter, ifs, 0⟩] scope pos) 0 (.ref it) (.ref D) ce) (compPost (model X.prog X.w) X.A X.xe use Qf (.ref D) s3.heap.objs.size) s4 := by
    refine compLoop_any (fun n s' => ∃ i H', Inv (X.blk s3 H3 scope ce fp) [] (wipe σ (own.map (·.2))) H' s' ∧ tn i s'.heap ∧ (∀ b ∈ fp, H' b = none) ∧ W i n H') ?_ m0 ⟨0, H3, I4, st4, nfp, w0⟩
    rintro n s5 ⟨i, H5, I5, st5, n5, w5⟩
    rcases turn i n H5 w5 with ⟨stop, qq⟩ | ⟨go, Nx, hNx, step⟩
    · have td := T.done (X.blk s3 H3 scope ce fp) rfl rfl rfl hc i [] s5 _ H5 (fun _ _ => False) I5 (stat I5 n5) st5 stop
      refine thnF td fun r s6 ⟨hr, I6⟩ => ?_
      subst hr
      have I7 : Inv X pins σ H5 s6 := I3.call' (ch := fp) I6.os I6.base I6.hok I6.bare fun b hb => ⟨(f3 b hb).1.2.2.2.1, (f3 b hb).1.2.1, (f3 b hb).1.2.2.2.2.1, (f3 b hb).1.2.2.2.2.2⟩
      have nC : H5 s3.heap.objs.size = none := by
        have z : H5 ce.locals = none := I6.free
        rw [cL] at z
        exact z
      obtain ⟨m, hn, _⟩ := I6.loc
      have hn : s6.heap.Ns ce.locals m := hn
      rw [cL] at hn
      exact hRR D s3.heap.objs.size s6 m H5 I7 qq hn (I3.fpOk (Nat.le_refl _) nC)
    · have ti := T.item (X.blk s3 H3 scope ce fp) rfl rfl rfl hc i [] s5 _ H5 (fun _ _ => False) I5 (stat I5 n5) st5 go
      refine thnF ti fun r s6 ⟨u, hr, h6⟩ => ?_
      subst hr
      refine thnF h6 fun _ s7 ⟨x, H7, I7, r7, y7, st7, n7⟩ => ?_
      have I7' := I7.pinned (stat I7 n7) (T.obj _ _ st7)
      refine thnF (pg _ s7 _ H7 x u _ I7' r7 (step x H7 y7)) fun _ s8 ⟨σ8, H8, I8, hw8, q8⟩ => ?_
      refine thnF (pt _ s8 σ8 H8 _ I8 q8) fun b s9 ⟨H9, I9, q9⟩ => ?_
      have fin : ∀ {s' : Shared} {H' : Hp}, Inv (X.blk s3 H3 scope ce fp) ([] ++ pinsAt fp s7.heap) σ8 H' s' → Nx H' → ∃ m, m < n ∧ ∃ i H', Inv (X.blk s3 H3 scope ce fp) [] (wipe σ (own.map (·.2))) H' s' ∧ tn i s'.heap ∧ (∀ b ∈ fp, H' b = none) ∧ W i m H' := fun {s' H'} I' nx => by
        obtain ⟨m', hm, w'⟩ := hNx H' nx
        have pin' : ∀ b ∈ fp, ∀ o, s7.heap.get? b = some o → s'.heap.get? b = some o ∧ H' b = none := fun b hb o e =>
          let z := I'.pin (b, o) (List.mem_append_right _ (List.mem_append_right _ (mem_pinsAt hb e)))
          ⟨z.1, z.2.1⟩
        have hl : (wipe σ (own.map (·.2))).length = σ8.length := by rw [← hw8, wipe_length]
        refine ⟨m', hm, i + 1, H', (I'.unpinned (pins := [])).weak hl (fun j v e => ?_), T.keep _ _ _ st7 fun b hb o e => (pin' b hb o e).1, fun b hb => ?_, w'⟩
        · rw [← hw8] at e
          exact (wipe_some e).1
        · obtain ⟨o, e, _⟩ := T.obj _ _ st7 b hb
          exact (pin' b hb o e).2
      cases b with
      | false =>
        simp only [Bool.false_eq_true, if_false] at q9 ⊢
        exact fin I9 q9
      | true =>
        simp only [if_true] at q9 ⊢
        refine thnF (pe _ s9 σ8 H9 _ I9 q9) fun z s10 ⟨yv, H10, I10, r10, acc, hD10, hz10, nx⟩ => ?_
        exact app_ok (X := X.blk s3 H3 scope ce fp) I10 hD10 hz10 r10 fun s11 I11 => fin I11 nx
  exact codeAny_compStart_list loop (T.self X.A 0 _ _ _ st4 loop)
theorem pe_lc {elt tg iter : Expr} {ifs : List Expr} {scope : Scope} {own : List (Str × Nat)} {pos : Pos} {wi : TI} {g : TG} {tt : TT} {te : TE} (hc : X.calm = true) (hN : X.N.Nodup) (hi : PI X tg iter wi) (ok : BlkOk X.N X.env.scope scope own)
    (hg : ∀ (s : Shared) (H : Hp) (C : Addr) (cl : List (Str × Addr)) (fp : List Addr), PG (X.blk s H scope (compEnvC scope cl C X.env) fp) tg g) (ht : ∀ (s : Shared) (H : Hp) (C : Addr) (cl : List (Str × Addr)) (fp : List Addr), PTs (X.blk s H scope (compEnvC scope cl C X.env) fp) ifs tt)
    (he : ∀ (s : Shared) (H : Hp) (C : Addr) (cl : List (Str × Addr)) (fp : List Addr), PE (X.blk s H scope (compEnvC scope cl C X.env) fp) elt te) (hs : ∀ x, foldedSetIterable iter X.env x = pure x := by intro _; rfl) :
    PE X (.ListComp elt [⟨tg, iter, ifs, 0⟩] scope pos) (tLc wi g tt te (own.map (·.2))) := by
  intro pins s σ H Q I h
  rw [eval_ListComp]
  refine lc_core hc hN I hi ok hg ht he hs h fun D C s' m H' I' q hn f => ⟨m, hn, fun h'' sb => ?_⟩
  obtain ⟨f0, f1, f2, f3, f4, f5⟩ := f
  exact ⟨.ref D, H', I'.turned (t' := s'.toks) (fun b o hb e => (sb.2 b hb).trans e) f0 f1 f3 f4 f5, rfl, q⟩
theorem ps_setLc {i : Nat} {y : Str} {py : Pos} {elt tg iter : Expr} {ifs : List Expr} {scope : Scope} {own : List (Str × Nat)} {pos spos : Pos} {wi : TI} {g : TG} {tt : TT} {te : TE} (hc : X.calm = true) (hN : X.N.Nodup) (hy : X.N[i]? = some y) (hyl : X.env.scope.names.lookup y = some .local)
    (hsw : swapsWith (.ListComp elt [⟨tg, iter, ifs, 0⟩] scope pos) (some (.Name y py)) spos.line X.env = pure true) (hi : PI X tg iter wi) (ok : BlkOk X.N X.env.scope scope own)
    (hg : ∀ (s : Shared) (H : Hp) (C : Addr) (cl : List (Str × Addr)) (fp : List Addr), PG (X.blk s H scope (compEnvC scope cl C X.env) fp) tg g) (ht : ∀ (s : Shared) (H : Hp) (C : Addr) (cl : List (Str × Addr)) (fp : List Addr), PTs (X.blk s H scope (compEnvC scope cl C X.env) fp) ifs tt)
    (he : ∀ (s : Shared) (H : Hp) (C : Addr) (cl : List (Str × Addr)) (fp : List Addr), PE (X.blk s H scope (compEnvC scope cl C X.env) fp) elt te) (hs : ∀ x, foldedSetIterable iter X.env x = pure x := by intro _; rfl) :
    PS X (.Assign [.Name y py] (.ListComp elt [⟨tg, iter, ifs, 0⟩] scope pos) spos) (tAsg (tLc wi g tt te (own.map (·.2))) (gName i)) := by
  intro pins s σ H D I h
  rw [exec_Assign_Name_used _ _ _ _ hsw]
  refine wpAny_bind (wpAny_standAt (wpAny_bind ?_))
  show wpAny _ X.A (do let _ ← comprehension (.ListComp elt [⟨tg, iter, ifs, 0⟩] scope pos) scope X.env (firstIterPos [⟨tg, iter, ifs, 0⟩] pos) (newList []) false (eval iter X.env) (some (assign (.Name y py) X.env))) _ _ s
  have h : tLc wi g tt te (own.map (·.2)) σ H (fun x H1 => gName i x σ H1 D.nx) := h
  refine wpAny_bind (thn (lc_core (Qf := fun _ s' => SP X pins D .next s') hc hN I hi ok hg ht he hs h fun L C s' m H' I' q hn f => ?_) fun _ s' hq => wpAny_pure (wpAny_pure hq))
  show wpAny _ _ (assign (.Name y py) X.env (.ref L)) _ _ _
  refine wpAny_assign_Name (store_ok2 (v := V.ref L) I' hN hy (.inl hyl) rfl (fun s2 I2 ⟨a, sb, ha⟩ => ?_) (.inr hyl))
  obtain ⟨f0, f1, f2, f3, f4, f5⟩ := f
  have haC : C ≠ a := by
    rcases ha with z | z
    · rw [z]; exact f1
    · exact fun e => f4 y a z e.symm
  refine ⟨m, hn.sameBut sb haC, fun h3 sb3 => ?_⟩
  exact ⟨_, H', I2.turned (t' := s2.toks) (fun b o hb e => (sb3.2 b hb).trans e) f0 f1 f3 f4 f5, q⟩
end
end L2
namespace L2
open PySem PySem.Spec PyProof.Rows
section
variable {prog : Program} {w : World} {A : Around} {R : Result → Shared → Prop} {s : Shared} {elt t0 i0 t1 i1 : Expr} {ifs0 ifs1 : List Expr} {scope : Scope} {pos : Pos} {it acc : Value} {env : Env}
end
section
variable {X : Cx}
end
end L2
namespace L2
open PySem PySem.Spec PyProof.Rows
section
variable {κ : Type} [DecidableEq κ]
def valV (kvs : List (κ × V)) (k : κ) : Option V := (kvs.find? fun kv => decide (kv.1 = k)).map (·.2)
def putK (kvs : List (κ × V)) (k : κ) (v : V) : List (κ × V) :=
  if (kvs.any fun kv => decide (kv.1 = k)) = true then kvs.map (fun kv => if kv.1 = k then (kv.1, v) else kv) else kvs ++ [(k, v)]
theorem valV_pos {p : κ × V} {r : List (κ × V)} {k : κ} (e : p.1 = k) : valV (p :: r) k = some p.2 := by simp [valV, List.find?_cons, e]
theorem valV_neg {p : κ × V} {r : List (κ × V)} {k : κ} (e : ¬ p.1 = k) : valV (p :: r) k = valV r k := by simp [valV, List.find?_cons, e]
theorem valV_any (k : κ) : ∀ kvs : List (κ × V), (kvs.any fun kv => decide (kv.1 = k)) = (valV kvs k).isSome
  | [] => rfl
  | p :: r => by
    rw [List.any_cons]
    by_cases e : p.1 = k
    · simp only [valV_pos e, decide_eq_true e, Bool.true_or, Option.isSome_some]
    · rw [valV_neg e, decide_eq_false e, Bool.false_or]; exact valV_any k r
theorem length_putK (kvs : List (κ × V)) (k : κ) (v : V) : (putK kvs k v).length ≤ kvs.length + 1 := by
  unfold putK
  split
  · rw [List.length_map]; omega
  · rw [List.length_append, List.length_cons, List.length_nil]; omega
theorem putK_new {kvs : List (κ × V)} {k : κ} (v : V) (h : valV kvs k = none) : putK kvs k v = kvs ++ [(k, v)] := by
  unfold putK
  rw [valV_any, h]
  exact if_neg (by decide)
theorem RelO.isSome_eq {o : Option V} {u : Option Value} (r : RelO o u) : o.isSome = u.isSome := by
  cases o with
  | none => cases u with
    | none => rfl
    | some _ => exact (show False from r).elim
  | some _ => cases u with
    | none => exact (show False from r).elim
    | some _ => rfl
theorem RelO.getD {o : Option V} {u : Option Value} {d : V} {d' : Value} (r : RelO o u) (rd : RelV d d') : RelV (o.getD d) (u.getD d') := by
  cases o with
  | none => cases u with
    | none => exact rd
    | some _ => exact (show False from r).elim
  | some _ => cases u with
    | none => exact (show False from r).elim
    | some _ => exact r
theorem KV.val {kvs : List (κ × V)} {vs : List (κ × Value)} (r : KV kvs vs) (k : κ) : RelO (valV kvs k) (valueAt vs k) := by
  unfold KV at r
  induction r with
  | nil => exact True.intro
  | @cons p q ps qs h t ih =>
    obtain ⟨h1, h2⟩ := h
    by_cases e : p.1 = k
    · have e' : q.1 = k := h1.symm.trans e
      have b : valueAt (q :: qs) k = some q.2 := by simp [valueAt, List.find?_cons, e']
      rw [valV_pos e, b]; exact h2
    · have e' : ¬ q.1 = k := fun z => e (h1.trans z)
      have b : valueAt (q :: qs) k = valueAt qs k := by simp [valueAt, List.find?_cons, e']
      rw [valV_neg e, b]; exact ih
theorem KV.any {kvs : List (κ × V)} {vs : List (κ × Value)} (r : KV kvs vs) (k : κ) : (kvs.any fun kv => decide (kv.1 = k)) = vs.any fun kv => decide (kv.1 = k) := by
  unfold KV at r
  induction r with
  | nil => rfl
  | cons h t ih => rw [List.any_cons, List.any_cons, ih, h.1]
theorem KV.repl {kvs : List (κ × V)} {vs : List (κ × Value)} (r : KV kvs vs) (k : κ) {y : V} {u : Value} (ry : RelV y u) :
    KV (kvs.map fun kv => if kv.1 = k then (kv.1, y) else kv) (vs.map fun kv => if kv.1 = k then (kv.1, u) else kv) := by
  unfold KV at r ⊢
  induction r with
  | nil => exact .nil
  | @cons p q ps qs h t ih =>
    rw [List.map_cons, List.map_cons]
    refine .cons ?_ ih
    obtain ⟨h1, h2⟩ := h
    by_cases e : p.1 = k
    · rw [if_pos e, if_pos (h1.symm.trans e)]; exact ⟨h1, ry⟩
    · rw [if_neg e, if_neg (fun z => e (h1.trans z))]; exact ⟨h1, h2⟩
theorem KV.put {kvs : List (κ × V)} {vs : List (κ × Value)} (r : KV kvs vs) (k : κ) {y : V} {u : Value} (ry : RelV y u) : KV (putK kvs k y) (stored vs k u) := by
  unfold putK stored
  rw [r.any k]
  by_cases e : (vs.any fun kv => decide (kv.1 = k)) = true
  · rw [if_pos e, if_pos e]; exact r.repl k ry
  · rw [if_neg e, if_neg e]; exact Paired.snoc r ⟨rfl, ry⟩
theorem KV.length {kvs : List (κ × V)} {vs : List (κ × Value)} (r : KV kvs vs) : kvs.length = vs.length := Paired.length r
end
theorem kV_is {P : Program} {w : World} {k : Key} {u : Value} (r : RelV (kV k) u) : (mixKind P w).is k u = true := by
  cases k with
  | inl i => obtain ⟨t, e⟩ := (show ∃ t, u = Value.int i t from r); subst e; exact mixKind_int P w i t
  | inr x => obtain ⟨t, e⟩ := (show ∃ t, u = Value.str x t from r); subst e; exact mixKind_str P w x t
theorem items_are {P : Program} {w : World} : ∀ {ks : List Key} {us : List Value}, Vals (ks.map kV) us → ItemsAre (mixKind P w) ks us
  | [], _, r => by rw [List.map_nil] at r; cases r; exact .nil
  | k :: ks, _, r => by
    rw [List.map_cons] at r
    cases r with
    | cons h t => exact .cons (kV_is h) (items_are t)
abbrev KT (H : Hp) : List (List Key × V) → List (List Key × Addr × Value) → Prop := Paired fun p q => p.1 = q.1 ∧ H q.2.1 = some (.tup (p.1.map kV)) ∧ RelV p.2 q.2.2
theorem KT.val {H : Hp} {kvs : List (List Key × V)} {xs : List (List Key × Addr × Value)} (r : KT H kvs xs) (k : List Key) : RelO (valV kvs k) ((atKey xs k).map (·.2)) := by
  induction r with
  | nil => exact True.intro
  | @cons p q ps qs h t ih =>
    obtain ⟨h1, _, h2⟩ := h
    by_cases e : p.1 = k
    · have e' : q.1 = k := h1.symm.trans e
      have b : atKey (q :: qs) k = some q.2 := by simp [atKey, List.find?_cons, e']
      rw [valV_pos e, b]; exact h2
    · have e' : ¬ q.1 = k := fun z => e (h1.trans z)
      have b : atKey (q :: qs) k = atKey qs k := by simp [atKey, List.find?_cons, e']
      rw [valV_neg e, b]; exact ih
theorem KT.repl {H : Hp} {kvs : List (List Key × V)} {xs : List (List Key × Addr × Value)} (r : KT H kvs xs) (k : List Key) {y : V} {u : Value} (ry : RelV y u) :
    KT H (kvs.map fun kv => if kv.1 = k then (kv.1, y) else kv) (xs.map (putAt k u)) := by
  induction r with
  | nil => exact .nil
  | @cons p q ps qs h t ih =>
    rw [List.map_cons, List.map_cons]
    refine .cons ?_ ih
    obtain ⟨h1, h2, h3⟩ := h
    unfold putAt
    by_cases e : p.1 = k
    · rw [if_pos e, if_pos (h1.symm.trans e)]; exact ⟨h1, h2, ry⟩
    · rw [if_neg e, if_neg (fun z => e (h1.trans z))]; exact ⟨h1, h2, h3⟩
theorem KT.put {H : Hp} {kvs : List (List Key × V)} {xs : List (List Key × Addr × Value)} (r : KT H kvs xs) (k : List Key) {b : Addr} {y : V} {u : Value} (hb : H b = some (.tup (k.map kV))) (ry : RelV y u) :
    KT H (putK kvs k y) (storedH xs k b u) := by
  have e : (kvs.any fun kv => decide (kv.1 = k)) = (atKey xs k).isSome := by
    rw [valV_any, (r.val k).isSome_eq, Option.isSome_map]
  unfold putK storedH
  rw [e]
  by_cases q : (atKey xs k).isSome = true
  · rw [if_pos q, if_pos q]; exact r.repl k ry
  · rw [if_neg q, if_neg q]; exact Paired.snoc r ⟨rfl, hb, ry⟩
theorem KT.keeps {H H' : Hp} {kvs : List (List Key × V)} {xs : List (List Key × Addr × Value)} (r : KT H kvs xs) (ht : ∀ b ys, H b = some (.tup ys) → H' b = some (.tup ys)) : KT H' kvs xs :=
  Paired.mapP r fun _ _ z => ⟨z.1, ht _ _ z.2.1, z.2.2⟩
section
variable {P : Program} {w : World} {H : Hp} {h : Heap} {a : Addr}
theorem rd_of {u : HO} (ok : HOk P w H h) (e : Rd H a u) : ObjOk P w H h a u := e.ok ok
theorem dk_rd {kvs : List (Key × V)} (ok : HOk P w H h) (e : Rd H a (.dK kvs)) : kvs.length ≤ sizeLine ∧ (a == sysModules) = false ∧ ∃ vs, KV kvs vs ∧ h.DictOf (mixKind P w) a vs :=
  show ObjOk P w H h a (.dK kvs) from rd_of ok e
theorem dk_of {kvs : List (Key × V)} (ok : HOk P w H h) (e : H a = some (.dK kvs)) : kvs.length ≤ sizeLine ∧ (a == sysModules) = false ∧ ∃ vs, KV kvs vs ∧ h.DictOf (mixKind P w) a vs := dk_rd ok (.inl e)
theorem key_of {ks : List Key} (ok : HOk P w H h) (e : H a = some (.tup (ks.map kV))) : (tupleKind (mixKind P w)).is h ks a := by
  obtain ⟨_, its, r, o, h1, h2, n, h3⟩ := (show ObjOk P w H h a (.tup (ks.map kV)) from ok a _ e)
  exact ⟨o, its.toArray, n, h1, h2, h3, by simpa using items_are r⟩
theorem dt_rd {kvs : List (List Key × V)} (ok : HOk P w H h) (e : Rd H a (.dT kvs)) : kvs.length ≤ sizeLine ∧ (a == sysModules) = false ∧
    ∃ xs, KT H kvs xs ∧ h.DictOfH (tupleKind (mixKind P w)) a xs := by
  obtain ⟨z, y, xs, r, o, es, ep, h1, h2, h3, h4, h5⟩ := (show ObjOk P w H h a (.dT kvs) from rd_of ok e)
  refine ⟨z, y, xs, r, o, es, ep, h1, h2, h3, h4, fun x hx => ?_, h5⟩
  have all : ∀ {l : List (List Key × V)} {m : List (List Key × Addr × Value)}, KT H l m → ∀ x ∈ m, (tupleKind (mixKind P w)).is h x.1 x.2.1 := by
    intro l m q
    induction q with
    | nil => intro x hx; exact nomatch hx
    | @cons p q ps qs hq t ih =>
      intro x hx
      rcases List.mem_cons.mp hx with e | hx
      · subst e
        exact key_of ok (by rw [← hq.1]; exact hq.2.1)
      · exact ih x hx
  exact all r x hx
theorem dt_of {kvs : List (List Key × V)} (ok : HOk P w H h) (e : H a = some (.dT kvs)) : kvs.length ≤ sizeLine ∧ (a == sysModules) = false ∧
    ∃ xs, KT H kvs xs ∧ h.DictOfH (tupleKind (mixKind P w)) a xs := dt_rd ok (.inl e)
end
def DGet (H : Hp) (a : Addr) (y : V) (r : Option V) : Prop :=
  (∃ kvs k, Rd H a (.dK kvs) ∧ y = kV k ∧ r = valV kvs k) ∨ ∃ kvs k b, Rd H a (.dT kvs) ∧ y = .ref b ∧ H b = some (.tup (k.map kV)) ∧ r = valV kvs k
def DPut (H : Hp) (a : Addr) (y v : V) (H' : Hp) : Prop :=
  (∃ kvs k, H a = some (.dK kvs) ∧ y = kV k ∧ kvs.length < sizeLine ∧ H' = upd H a (.dK (putK kvs k v))) ∨
  ∃ kvs k b, H a = some (.dT kvs) ∧ y = .ref b ∧ H b = some (.tup (k.map kV)) ∧ kvs.length < sizeLine ∧ H' = upd H a (.dT (putK kvs k v))
theorem DGet.k {H : Hp} {a : Addr} {kvs : List (Key × V)} {k : Key} (e : H a = some (.dK kvs)) : DGet H a (kV k) (valV kvs k) := .inl ⟨kvs, k, .inl e, rfl, rfl⟩
theorem DPut.k {H : Hp} {a : Addr} {kvs : List (Key × V)} {k : Key} {v : V} (e : H a = some (.dK kvs)) (hl : kvs.length < sizeLine) : DPut H a (kV k) v (upd H a (.dK (putK kvs k v))) := .inl ⟨kvs, k, e, rfl, hl, rfl⟩
section
variable {X : Cx} {pins : List (Addr × Obj)} {σ : St} {H : Hp} {s : Shared} {a : Addr} {y v : V} {u r : Value} {o : Option V} {A : Around} {E : Value → Shared → Prop}
theorem Inv.big (I : Inv X pins σ H s) : sysModules < s.heap.objs.size := by
  have h : mainGlobals < s.heap.objs.size := (I.mod.glob.keeps I.bk).lt
  exact Nat.lt_trans (by decide) h
theorem d_getItem {Q : Value → Shared → Prop} (hu : A.units + 1 < cLine) (I : Inv X pins σ H s) (g : DGet H a y (some v)) (ry : RelV y u) (h : ∀ w' s', Inv X pins σ H s' → RelV v w' → Q w' s') :
    wpAny (model X.prog X.w) A (getItem (.ref a) u) Q E s := by
  rcases g with ⟨kvs, k, e, ey, l⟩ | ⟨kvs, k, b, e, ey, eb, l⟩
  · subst ey
    obtain ⟨z, hd, vs, rel, dd⟩ := dk_rd I.hok e
    obtain ⟨w', hw, rw'⟩ := RelO.some_of (v := v) (o := valueAt vs k) (by rw [l]; exact rel.val k)
    exact wpAny_getItem_of (kV_is ry) dd.mapOf hw (h w' _ (I.tok _) rw')
  · subst ey
    cases (show u = Value.ref b from ry)
    obtain ⟨z, hd, xs, rel, dd⟩ := dt_rd I.hok e
    obtain ⟨w', hw, rw'⟩ := RelO.some_of (v := v) (o := (atKey xs k).map (·.2)) (by rw [l]; exact rel.val k)
    obtain ⟨p, hp, hp2⟩ := Option.map_eq_some_iff.mp hw
    refine wpAny_getItem_heap (tupleKind_room_in1 hu) (key_of I.hok eb) dd hp ?_
    rw [hp2]
    exact h w' _ (I.tok _) rw'
theorem d_in {Q : Value → Shared → Prop} (hu : A.units + 1 < cLine) (I : Inv X pins σ H s) (g : DGet H a y o) (ry : RelV y u) (h : ∀ s', Inv X pins σ H s' → Q (.bool o.isSome) s') :
    wpAny (model X.prog X.w) A (compareOp .In u (.ref a)) Q E s := by
  rcases g with ⟨kvs, k, e, ey, l⟩ | ⟨kvs, k, b, e, ey, eb, l⟩
  · subst ey
    obtain ⟨z, hd, vs, rel, dd⟩ := dk_rd I.hok e
    refine wpAny_in_of (kV_is ry) hd dd.mapOf ?_
    rw [← (rel.val k).isSome_eq, ← l]
    exact h _ (I.tok _)
  · subst ey
    cases (show u = Value.ref b from ry)
    obtain ⟨z, hd, xs, rel, dd⟩ := dt_rd I.hok e
    refine wpAny_in_heap (tupleKind_room_in1 hu) (key_of I.hok eb) hd dd ?_
    have q := (rel.val k).isSome_eq
    rw [Option.isSome_map] at q
    rw [← q, ← l]
    exact h _ (I.tok _)
theorem d_write {h' : Heap} {t' : Nat} {ob : HO} (I : Inv X pins σ H s) (mu : Mut (H a)) (hs : Heap.SameBut a s.heap h') (he : ∃ q, h'.get? a = some q) (new : ObjOk X.prog X.w (upd H a ob) h' a ob) :
    Inv X pins σ (upd H a ob) { s with heap := h', toks := t' } :=
  I.write (x := a) (e := a) mu (.inl rfl) (fun b q hb z => (hs.2 b hb).trans z) he new
theorem dk_new {P : Program} {w : World} {H' : Hp} {h' : Heap} {kvs : List (Key × V)} {vs : List (Key × Value)} (z : kvs.length ≤ sizeLine) (hd : (a == sysModules) = false) (rel : KV kvs vs) (dd : h'.DictOf (mixKind P w) a vs) :
    ObjOk P w H' h' a (.dK kvs) := ⟨z, hd, vs, rel, dd⟩
theorem d_setItem {H' : Hp} {Q : Unit → Shared → Prop} (hu : A.units + 1 < cLine) (I : Inv X pins σ H s) (g : DPut H a y v H') (ry : RelV y u) (rv : RelV v r) (h : ∀ s', Inv X pins σ H' s' → Q () s') :
    wpAny (model X.prog X.w) A (setItem (.ref a) u r) Q E s := by
  rcases g with ⟨kvs, k, e, ey, l, eH⟩ | ⟨kvs, k, b, e, ey, eb, l, eH⟩
  · subst ey eH
    obtain ⟨z, hd, vs, rel, dd⟩ := dk_of I.hok e
    have hz : vs.length ≤ sizeLine := by rw [← rel.length]; exact z
    have hl : (putK kvs k v).length ≤ sizeLine := by have := length_putK kvs k v; omega
    refine wpAny_setItem_pairs (hsz := hz) (kV_is ry) dd fun h' dd' hs => h _ ?_
    have he : ∃ q, h'.get? a = some q := let ⟨q, _, _, hq, _⟩ := dd'; ⟨q, hq⟩
    exact d_write I (by rw [e]; exact True.intro) hs he (dk_new hl hd (rel.put k rv) dd')
  · subst ey eH
    cases (show u = Value.ref b from ry)
    obtain ⟨z, hd, xs, rel, dd⟩ := dt_of I.hok e
    have hz : xs.length ≤ sizeLine := by rw [← Paired.length rel]; exact z
    have hl : (putK kvs k v).length ≤ sizeLine := by have := length_putK kvs k v; omega
    refine wpAny_setItem_heap (hsz := hz) (tupleKind_room_in1 hu) (key_of I.hok eb) dd fun h' dd' hs => h _ ?_
    obtain ⟨q, es, ep, hq, h2, h3, h4, _, h5⟩ := dd'
    refine d_write I (by rw [e]; exact True.intro) hs ⟨q, hq⟩ ⟨hl, hd, _, (rel.put k eb rv).keeps fun c ys ec => ?_, q, es, ep, hq, h2, h3, h4, h5⟩
    rw [upd_ne (ne_of ec e (fun z => nomatch z))]
    exact ec
end
section
variable {X : Cx} {pins : List (Addr × Obj)} {σ : St} {H : Hp} {s : Shared} {a : Addr} {kvs : List (Key × V)} {k : Key} {u : Value} {A : Around} {E : Value → Shared → Prop}
end
def NoSl (i : Expr) : Prop := ∀ ov iv, subscripted i false ov iv = operate [ov, iv] (getItem ov iv)
theorem subD_of {prog : Program} {w : World} {A : Around} {E : Value → Shared → Prop} {s : Shared} {env : Env} {value slice : Expr} {pos : Pos} {T id : String} {Q : Value → Shared → Prop}
    (hl : typeLookup (.type T) "__getitem__" = pure (some (.builtin id))) (hs : NoSl slice)
    (h : wpAny (model prog w) A (eval value env) (fun o s₁ => wpAny (model prog w) A (eval slice env) (fun i s₂ => s₂.TypeIs o T ∧ wpAny (model prog w) A (getItem o i) Q E s₂) E s₁) E s) :
    wpAny (model prog w) A (eval (.Subscript value slice pos) env) Q E s := by
  refine Subscript_ (wpAny_mono h (fun o s₁ h₁ => wpAny_mono h₁ (fun i s₂ h₂ => ?_) fun _ _ x => x) fun _ _ x => x)
  obtain ⟨hT, h₂⟩ := h₂
  unfold subscriptTail
  refine wpAny_bind ?_
  rw [getitemInPython_of_ne hT.not_modules]
  refine wpAny_bind (wpAny_specialOf hT hl ?_)
  have fin : wpAny (model prog w) A (subscripted slice false o i) (fun r s₃ => wpAny (model prog w) A (letTemporaryGo value o r >>= fun _ => pure r) Q E s₃) E s₂ := by
    rw [hs o i]
    exact wpAny_operating (wpAny_mono h₂ (fun r s₃ h₃ => wpAny_bind (wpAny_letTemporaryGo (wpAny_pure h₃))) fun _ _ x => x)
  first
    | exact wpAny_pure (wpAny_bind fin)
    | exact wpAny_bind (wpAny_pure (wpAny_bind fin))
    | exact wpAny_bind fin
theorem dict_typeIs {X : Cx} {pins : List (Addr × Obj)} {σ : St} {H : Hp} {s : Shared} {a : Addr} {y : V} {o : Option V} (I : Inv X pins σ H s) (g : DGet H a y o) : s.TypeIs (.ref a) "dict" := by
  rcases g with ⟨kvs, k, e, _, _⟩ | ⟨kvs, k, b, e, _, _, _⟩
  · obtain ⟨_, _, vs, _, dd⟩ := dk_rd I.hok e
    exact dd.typeIs
  · obtain ⟨_, _, xs, _, dd⟩ := dt_rd I.hok e
    exact dd.typeIs
def tDGet (td ty : TE) : TE := fun σ H Q => td σ H fun x H1 => ty σ H1 fun y H2 => ∃ a v, x = .ref a ∧ DGet H2 a y (some v) ∧ Q v H2
def tDIn (ty td : TE) : TE := fun σ H Q => ty σ H fun y H1 => td σ H1 fun x H2 => ∃ a o, x = .ref a ∧ DGet H2 a y o ∧ Q (.bl o.isSome) H2
def sDPut (td ty tv : TE) : TS := fun D σ H => tv σ H fun v H1 => td σ H1 fun x H2 => ty σ H2 fun y H3 => ∃ a H4, x = .ref a ∧ DPut H3 a y v H4 ∧ D.nx σ H4
section
variable {X : Cx} {o i e value : Expr} {pos pos' tpos : Pos} {td ty tv : TE}
theorem pe_dget (hu : X.A.units + 1 < cLine) (ho : PE X o td) (hi : PE X i ty) (hs : NoSl i) : PE X (.Subscript o i pos) (tDGet td ty) := by
  intro pins s σ H Q I h
  refine subD_of PySem.F.slot_dict_getitem.lookup hs (thn (ho pins s σ H _ I h) fun u s1 ⟨x, H1, I1, rx, q1⟩ => thn (hi pins s1 σ H1 _ I1 q1) fun iv s2 ⟨y, H2, I2, ry, a, v, ex, g, q2⟩ => ?_)
  subst ex
  obtain rfl : u = Value.ref a := rx
  exact ⟨dict_typeIs I2 g, d_getItem hu I2 g ry fun w' s3 I3 rw' => ⟨v, H2, I3, rw', q2⟩⟩
theorem pc_din (hu : X.A.units + 1 < cLine) (hi : PE X i ty) (ho : PE X o td) : PC X .In i o (tDIn ty td) := by
  intro pins s σ H Q I h
  refine thn (hi pins s σ H _ I h) fun iv s1 ⟨y, H1, I1, ry, q1⟩ => thn (ho pins s1 σ H1 _ I1 q1) fun u s2 ⟨x, H2, I2, rx, a, ov, ex, g, q2⟩ => ?_
  subst ex
  obtain rfl : u = Value.ref a := rx
  exact d_in hu I2 g ry fun s3 I3 => ⟨.bl ov.isSome, H2, I3, rfl, q2⟩
theorem ps_dput (hu : X.A.units + 1 < cLine) (ho : PE X o td) (hi : PE X i ty) (hv : PE X value tv) (hs : swapsWith value (some (.Subscript o i pos')) pos.line X.env = pure false) :
    PS X (.Assign [.Subscript o i pos'] value pos) (sDPut td ty tv) := by
  intro pins s σ H D I h
  refine wpAny_Assign_Subscript (thn (hv pins s σ H _ I h) fun r s1 ⟨v, H1, I1, rv, q1⟩ => thn (ho pins s1 σ H1 _ I1 q1) fun u s2 ⟨x, H2, I2, rx, q2⟩ => thn (hi pins s2 σ H2 _ I2 q2) fun iv s3 ⟨y, H3, I3, ry, a, H4, ex, g, q3⟩ => ?_) hs
  subst ex
  obtain rfl : u = Value.ref a := rx
  exact d_setItem hu I3 g ry rv fun s4 I4 => ⟨σ, H4, I4, q3⟩
end
theorem dk_empty {P : Program} {w : World} {H : Hp} (h : Heap) (hb : sysModules < h.objs.size) : ObjOk P w H (h.push { cls := .type "dict", data := .dict #[] }) h.objs.size (.dK []) :=
  ⟨Nat.zero_le _, beq_eq_false_iff_ne.mpr (Ne.symm (Nat.ne_of_lt hb)), [], .nil, Heap.DictOf.new h⟩
def tDNewK : TE := fun _ H Q => ∀ p, H p = none → Q (.ref p) (upd H p (.dK []))
section
variable {X : Cx} {pos : Pos}
theorem pe_dnewK : PE X (.Dict [] [] pos) tDNewK := fun pins s σ H Q I h =>
  wpAny_Dict_empty ⟨.ref s.heap.objs.size, _, I.laid (a := s.heap.objs.size) (o := .dK []) (t' := s.toks) (fun _ _ q => Heap.get?_push_of_some _ q) (Nat.le_refl _) (dk_empty s.heap I.big), rfl, h _ (I.hok.fresh (Nat.le_refl _))⟩
end
structure M1 (X : Cx) (o : Expr) (m : Str) (apos : Pos) (e : Expr) (cpos : Pos) : Prop where
  base : attributeBase o m X.env (eval o X.env) = eval o X.env
  few : ((backTo cpos (starEach [e] X.env)).all (fun x => !x.1) && (backToKw cpos (keywordEach [] X.env)).all (fun x => x.1.isSome)
    && decide (([e] : List Expr).length + ([] : List Keyword).length + (if ([] : List Keyword).isEmpty then 0 else 1) < 30)) = true
  line : (apos.endLine == cpos.line) = true
  trees : backTo cpos (starEach [e] X.env) = [(false, eval e X.env)]
def IsD (H : Hp) (a : Addr) : Prop := (∃ kvs, Rd H a (.dK kvs)) ∨ ∃ kvs, Rd H a (.dT kvs)
theorem isD_at {X : Cx} {pins : List (Addr × Obj)} {σ : St} {H : Hp} {s : Shared} {a : Addr} (I : Inv X pins σ H s) (d : IsD H a) :
    s.TypeIs (.ref a) "dict" ∧ (∀ b, Value.ref a = .ref b → ∃ ob, s.heap.get? b = some ob ∧ ob.dict = none) ∧ (a == sysModules) = false := by
  rcases d with ⟨kvs, e⟩ | ⟨kvs, e⟩
  · obtain ⟨_, hd, vs, _, dd⟩ := dk_rd I.hok e
    refine ⟨dd.typeIs, fun b q => ?_, hd⟩
    cases q
    obtain ⟨ob, _, _, h1, h2, _⟩ := dd
    exact ⟨ob, h1, h2.2.1⟩
  · obtain ⟨_, hd, xs, _, dd⟩ := dt_rd I.hok e
    refine ⟨dd.typeIs, fun b q => ?_, hd⟩
    cases q
    obtain ⟨ob, _, _, h1, h2, _⟩ := dd
    exact ⟨ob, h1, h2.2.1⟩
section
variable {X : Cx} {pins : List (Addr × Obj)} {σ : St} {H : Hp} {s : Shared} {a : Addr} {y d : V} {u r : Value} {o : Option V} {A : Around} {E : Value → Shared → Prop}
theorem d_get1 {Q : Value → Shared → Prop} (hu : A.units + 1 < cLine) (I : Inv X pins σ H s) (g : DGet H a y o) (ry : RelV y u) (h : ∀ w' s', Inv X pins σ H s' → RelV (o.getD .non) w' → Q w' s') :
    wpAny (model X.prog X.w) A (call (.builtin "dict.get") [.ref a, u]) Q E s := by
  rcases g with ⟨kvs, k, e, ey, l⟩ | ⟨kvs, k, b, e, ey, eb, l⟩
  · subst ey
    obtain ⟨z, hd, vs, rel, dd⟩ := dk_rd I.hok e
    refine call_meetsIn PySem.F.slot_dict_get dd.typeIs PySem.F.entry_dict_get (PySem.F.args_dict_get_2 _ _) (meets_dict_get (mixKind X.prog X.w) a (kV_is ry) hd) ⟨_, dd.mapOf, h _ _ (I.tok _) ?_⟩
    rw [l]
    exact (rel.val k).getD rfl
  · subst ey
    cases (show u = Value.ref b from ry)
    obtain ⟨z, hd, xs, rel, dd⟩ := dt_rd I.hok e
    refine call_meetsIn PySem.F.slot_dict_get dd.typeIs PySem.F.entry_dict_get (PySem.F.args_dict_get_2 _ _) (meetsH_dict_get (tupleKind (mixKind X.prog X.w)) a b hd) ⟨tupleKind_room_in1 hu, k, xs, key_of I.hok eb, dd, h _ _ (I.tok _) ?_⟩
    rw [l]
    exact (rel.val k).getD rfl
end
def tDGet1 (td ty : TE) : TE := fun σ H Q => td σ H fun x H1 => ∃ a, x = .ref a ∧ IsD H1 a ∧ ty σ H1 fun y H2 => ∃ o, DGet H2 a y o ∧ Q (o.getD .non) H2
section
variable {X : Cx} {o e f : Expr} {apos cpos : Pos} {td ty tx : TE}
theorem pe_dget1 (hu : X.A.units + 1 < cLine) (ho : PE X o td) (he : PE X e ty) (m : M1 X o "get" apos e cpos) : PE X (.Call (.Attribute o "get" apos) [e] [] cpos) (tDGet1 td ty) := by
  intro pins s σ H Q I h
  refine wpAny_Call_method m.base m.few m.line PySem.F.plainAttrs_dict PySem.F.slot_dict_get PySem.F.type_dict_get (thn (ho pins s σ H _ I h) fun u s1 ⟨x, H1, I1, rx, a, ex, d, q1⟩ => ?_)
  subst ex
  obtain rfl : u = Value.ref a := rx
  obtain ⟨t1, t2, _⟩ := isD_at I1 d
  refine ⟨t1, t2, ?_⟩
  rw [m.trees]
  refine Calls.callWith_builtin rfl (Calls.evalArgs_plain (Calls.spliced_cons (thn (he pins s1 σ H1 _ I1 q1) fun iv s2 ⟨y, H2, I2, ry, ov, g, q2⟩ => Calls.spliced_nil ?_)))
  exact d_get1 hu I2 g ry fun w' s3 I3 rw' => ⟨_, H2, I3, rw', q2⟩
end
section
variable {X : Cx} {pins : List (Addr × Obj)} {σ : St} {H : Hp} {s : Shared} {a : Addr} {kvs : List (Key × V)} {A : Around} {E : Value → Shared → Prop}
end
section
variable {X : Cx} {pins : List (Addr × Obj)} {σ : St} {H : Hp} {s : Shared} {a : Addr} {y : V} {u : Value} {A : Around} {E : Value → Shared → Prop}
end
end L2
namespace L2
open PySem PySem.Spec PyProof.Rows
section
variable {prog : Program} {w : World} {A : Around} {E : Value → Shared → Prop}
end
section
variable {X : Cx}
end
end L2
namespace L2
open PySem PySem.Spec PyProof.Rows
theorem boot_reversed5 : bootBuiltins "reversed" = some (.type "reversed") := by decide +kernel
section
variable {X : Cx} {pins : List (Addr × Obj)} {σ : St} {H : Hp} {s : Shared} {h' : Heap}
theorem Inv.turnedNew {t' : Nat} {ch : List Addr} {T : Addr} {ob : HO} (I : Inv X pins σ H s) (k : ∀ b o, b ∉ ch → s.heap.get? b = some o → h'.get? b = some o) (hf : ∀ b ∈ ch, FpOk X pins H b) (hT : s.heap.objs.size ≤ T)
    (new : ObjOk X.prog X.w (upd H T ob) h' T ob) : Inv X pins σ (upd H T ob) { s with heap := h', toks := t' } := by
  have hn : H T = none := I.hok.fresh hT
  have nit : ∀ b u, H b = some u → b ∉ ch := fun b u e z => by
    have q := (hf b z).1
    rw [q] at e; cases e
  refine I.step (g' := s.gens) (d' := s.drawn) (ch := ch) (fun b hb => ⟨(hf b hb).2.2.2.1, (hf b hb).2.1, (hf b hb).2.2.2.2.1, (hf b hb).2.2.2.2.2⟩) (fun b o _ _ hc e _ => k b o hc e) (fun b o _ _ hc e _ => ⟨o.slots, k b o hc e⟩)
    (fun b o _ e n => ?_) (fun b o hc e => ⟨o, k b o hc e⟩) (fun b xs e => ?_) (fun b o u e => ?_) (fun b ps e => ⟨#[], ?_⟩) (fun m hm => ?_) (fun b u e => ?_) I.bare
  · rw [upd_ne (Nat.ne_of_lt (Nat.lt_of_lt_of_le (Heap.lt_size e) hT))]; exact n
  · rw [upd_ne (ne_of_none e hn)]; exact e
  · rw [upd_ne (ne_of_none e hn)]; exact e
  · rw [upd_ne (ne_of_none e hn), e]; simp
  · obtain ⟨o, es, ep, ho, r⟩ := hm
    exact ⟨o, es, ep, k _ o (fun z => (hf _ z).2.1 rfl) ho, r⟩
  · by_cases hb : b = T
    · subst hb
      rw [upd_same] at e
      cases e
      exact new
    · rw [upd_ne hb] at e
      refine (I.hok b u e).stay (fun c v hc q => k c v ?_ q) (fun c q => by rw [upd_ne (ne_of_none q hn)]; exact q) fun c xs q => by rw [upd_ne (ne_of_none q hn)]; exact q
      rcases hc with z | z
      · rw [z]; exact nit b u e
      · exact nit c _ z
theorem Inv.lock {d : Addr} {u : HO} (I : Inv X pins σ H s) (h : H d = some u) (mu : Mut (some u)) : ∃ od, Inv X pins σ (upd H d (.frz od u)) s := by
  have x := I.hok d u h
  have ex : ∃ od, s.heap.get? d = some od := by
    cases u with
    | lst xs => obtain ⟨_, _, _, _, e⟩ := x; exact ⟨_, e⟩
    | dK kvs => obtain ⟨_, _, _, _, o, _, _, e, _⟩ := x; exact ⟨o, e⟩
    | dT kvs => obtain ⟨_, _, _, _, o, _, _, e, _⟩ := x; exact ⟨o, e⟩
    | set S n => obtain ⟨o, _, _, _, e, _⟩ := x; exact ⟨o, e⟩
    | ins C dx fs => obtain ⟨_, _, _, e, _⟩ := x; exact ⟨_, e⟩
    | ext φ => obtain ⟨_, ⟨_, e⟩, _⟩ := x; exact ⟨_, e⟩
    | _ => exact False.elim mu
  obtain ⟨od, e⟩ := ex
  have new : ObjOk X.prog X.w (upd H d (.frz od u)) s.heap d (.frz od u) := by
    refine ⟨e, x.stay (fun b v _ q => q) (fun b q => ?_) fun b xs q => ?_⟩
    · rw [upd_ne (fun z => by rw [z, h] at q; cases q; exact mu)]; exact q
    · rw [upd_ne (fun z => by rw [z, h] at q; cases q; exact mu)]; exact q
  exact ⟨od, I.write (x := d) (e := d) (t' := s.toks) (h' := s.heap) (by rw [h]; exact mu) (.inl rfl) (fun b v _ q => q) ⟨od, e⟩ new⟩
theorem Inv.nofrz {d : Addr} {u : HO} (I : Inv X pins σ H s) (h : H d = some u) (mu : Mut (some u)) : ∀ o' u', X.H₀ d ≠ some (.frz o' u') := fun o' u' e => by
  have q := I.base.frzs d o' u' e
  rw [h] at q
  cases q
  exact mu
theorem Inv.unlock {d : Addr} {od : Obj} {u : HO} (I : Inv X pins σ H s) (h : H d = some (.frz od u)) (hn : ∀ o' u', X.H₀ d ≠ some (.frz o' u')) : Inv X pins σ (upd H d u) s := by
  have neH : ∀ b o, H b = some o → (∀ o' u', o ≠ .frz o' u') → b ≠ d := fun b o e hne z => by
    rw [z, h] at e
    cases e
    exact hne _ _ rfl
  have neN : ∀ b, H b = none → b ≠ d := fun b e z => by rw [z, h] at e; cases e
  refine ⟨I.ok, I.os, I.bare, ⟨I.base.keep, I.base.slot, fun b o e n hx => ?_, I.base.there, fun b xs e => ?_, fun b o x e => ?_, fun b ps e => ?_⟩, I.loc, I.cell, ?_, fun x c e => ?_, fun p hp => ?_, fun b o e => ?_, I.len⟩
  · rw [upd_ne (neN b (I.base.free b o e n hx))]; exact I.base.free b o e n hx
  · have q := I.base.tups b xs e
    rw [upd_ne (neH b _ q (fun _ _ z => nomatch z))]; exact q
  · have q := I.base.frzs b o x e
    rw [upd_ne (fun z => by rw [z] at e; exact hn _ _ e)]; exact q
  · obtain ⟨m, q⟩ := I.base.tbls b ps e
    exact ⟨m, by rw [upd_ne (neH b _ q (fun _ _ z => nomatch z))]; exact q⟩
  · rw [upd_ne (neN _ I.free)]; exact I.free
  · rw [upd_ne (neN c (I.freeC x c e))]; exact I.freeC x c e
  · obtain ⟨e, n, r⟩ := I.pin p hp
    exact ⟨e, by rw [upd_ne (neN _ n)]; exact n, r⟩
  · by_cases hb : b = d
    · rw [hb, upd_same] at e
      cases e
      rw [hb]
      obtain ⟨_, x⟩ := I.hok d _ h
      exact x.stay (fun c v _ q => q) (fun c q => by rw [upd_ne (neH c _ q (fun _ _ z => nomatch z))]; exact q) fun c xs q => by rw [upd_ne (neH c _ q (fun _ _ z => nomatch z))]; exact q
    · rw [upd_ne hb] at e
      exact (I.hok b o e).stay (fun c v _ q => q) (fun c q => by rw [upd_ne (neH c _ q (fun _ _ z => nomatch z))]; exact q) fun c xs q => by rw [upd_ne (neH c _ q (fun _ _ z => nomatch z))]; exact q
end
def tLockE (t : TE) : TE := fun σ H Q => ∃ d u, H d = some u ∧ Mut (some u) ∧ ∀ od, t σ (upd H d (.frz od u)) fun v H' => H' d = some (.frz od u) ∧ Q v (upd H' d u)
section
variable {X : Cx}
theorem pe_lock {e : Expr} {t : TE} (h : PE X e t) : PE X e (tLockE t) := by
  intro pins s σ H Q I hw
  obtain ⟨d, u, hd, mu, hw⟩ := hw
  obtain ⟨od, I1⟩ := I.lock hd mu
  refine thn (h pins s σ _ _ I1 (hw od)) fun v s1 ⟨x, H1, I2, r, e2, q⟩ => ?_
  exact ⟨x, _, I2.unlock e2 (I.nofrz hd mu), r, q⟩
theorem pi_one {tg : Expr} {pins : List (Addr × Obj)} {σ : St} {H : Hp} {s : Shared} {R : It → Hp → Prop} {J : It} {tn : Nat → Heap → Prop} {tk : Nat} (I : Inv X pins σ H s) (o : Obj)
    (T : Turn X.prog X.w X.K tg J [s.heap.objs.size] s.heap.objs.size tn) (st : tn 0 (s.heap.push o)) (q : R J H) : PIE X pins σ tg R (.ref s.heap.objs.size) { s with heap := s.heap.push o, toks := tk } := by
  refine ⟨s.heap.objs.size, [s.heap.objs.size], tn, J, H, rfl, I.kept fun b ob e => Heap.get?_push_of_some _ e, T, st, fun b hb => ?_, q⟩
  have e : b = s.heap.objs.size := by simpa using hb
  subst e
  exact I.fpOk (Nat.le_refl _) (I.hok.fresh (Nat.le_refl _))
end
section
variable {X : Cx} {tg : Expr}
end
section
variable {X : Cx} {tg : Expr}
end
section
variable {prog : Program} {w : World} {A : Around} {E : Value → Shared → Prop} {s : Shared}
theorem iter_keys {d : Addr} {o : Obj} {es : Array DictEntry} {ep : Nat} {Q : Value → Shared → Prop} (hd : (d == sysModules) = false) (ho : s.heap.get? d = some o) (hc : o.ExactDict) (hdat : o.data = .dict es ep)
    (hQ : Q (.ref s.heap.objs.size) { s with heap := s.heap.push { cls := .type "dict_keyiterator", data := .fields #[.ref d, .int 0 0, .int es.size 0, .int ep 0] } }) :
    wpAny (model prog w) A (pyIter (.ref d)) Q E s := by
  have hT : s.TypeIs (.ref d) "dict" := ⟨o, ho, hc.1⟩
  refine wpAny_pyIter_slot hT F.slot_dict_iter (wpAny_call_entry F.slot_dict_iter hT F.entry_dict_iter ?_ (F.args_dict_iter_1 _))
  unfold Builtin.«dict.__iter__»
  refine wpAny_bind ?_
  unfold Builtin.Dict.dictSlotNone
  refine wpAny_bind (wpAny_notOrdered_dict hT ?_)
  show wpAny _ _ (pure (Value.ref d)) _ _ s
  refine wpAny_pure ?_
  show wpAny _ _ (Builtin.Dict.showsAll d >>= _) _ _ s
  unfold Builtin.Dict.showsAll
  rw [if_neg (by rw [hd]; exact Bool.false_ne_true)]
  refine wpAny_bind (wpAny_pure ?_)
  refine wpAny_bind (wpAny_dictEntries ho hdat ?_)
  refine wpAny_bind (wpAny_dictEpoch ho hdat ?_)
  refine wpAny_bind (wpAny_newObj_type (wpAny_pure ⟨_, rfl, "dict_keyiterator", _, ⟨_, Heap.get?_push_size _ rfl, rfl⟩, F.slot_dict_keyiterator_next.lookup, ?_⟩))
  simpa [rawInt] using hQ
theorem next_key_item {it d : Addr} {i n ep : Nat} {od : Obj} {es : Array DictEntry} {en : DictEntry} {Q : Option Value → Shared → Prop} (hit : s.heap.IsKeyIter it d i n ep) (hod : s.heap.get? d = some od) (hdd : od.data = .dict es ep)
    (hsz : es.size = n) (hx : es[i]? = some en) (hQ : ∀ h', h'.IsKeyIter it d (i + 1) n ep → Heap.SameBut it s.heap h' → Q (some en.key) { s with heap := h' }) : wpAny (model prog w) A (pyNext (.ref it)) Q E s := by
  obtain ⟨o, ho, hc, hd⟩ := id hit
  unfold pyNext
  refine wpAny_bind (wpAny_attempt (wpAny_callSpecial?_slot (name := Str.ofString "__next__") hit.typeIs F.slot_dict_keyiterator_next
    (wpAny_call_entry F.slot_dict_keyiterator_next hit.typeIs F.entry_dict_keyiterator_next ?_ (F.args_dict_keyiterator_next_1 _))))
  refine wpAny_bind (wpAny_pure ?_)
  refine wpAny_bind ?_
  refine wpAny_bind ?_
  first | refine wpAny_bind (wpAny_typeNameOfWhole_keyiter hit.typeIs (wpAny_pure ?_)) | refine wpAny_bind (wpAny_typeNameOf_keyiter hit.typeIs (wpAny_pure ?_))
  refine wpAny_bind (wpAny_fieldsOf ho hd ?_)
  have hown : Builtin.Dict_items.ownsTuple "dict_keyiterator" = false := by decide
  simp only [hown, Bool.false_eq_true, if_false]
  show wpAny _ _ (if (Value.ref d == Value.none) = true then _ else _) _ _ s
  rw [if_neg (show ¬ ((Value.ref d == Value.none) = true) from Bool.false_ne_true)]
  refine wpAny_bind (wpAny_pure ?_)
  refine wpAny_bind (wpAny_dictEntries hod hdd ?_)
  rw [if_neg (by rw [hsz]; simp)]
  refine wpAny_bind (wpAny_pure ?_)
  refine wpAny_bind (wpAny_dictEpoch hod hdd ?_)
  rw [if_neg (by simp)]
  refine wpAny_pure ?_
  obtain ⟨hlt', hen⟩ := Array.getElem?_eq_some_iff.mp hx
  simp only [show ¬ ((i : Int) < 0) from by omega, if_false, Int.toNat_natCast, Array.getElem?_eq_getElem hlt']
  refine wpAny_bind ?_
  first | refine wpAny_bind (wpAny_typeNameOfWhole_keyiter hit.typeIs (wpAny_pure ?_)) | refine wpAny_bind (wpAny_typeNameOf_keyiter hit.typeIs (wpAny_pure ?_))
  refine wpAny_bind (wpAny_isOneOf_keyiter hit.typeIs ?_)
  show wpAny _ _ (setField (.ref it) 1 (rawInt ((i : Int) + 1)) >>= _) _ _ s
  refine wpAny_bind (wpAny_setField ho hd (by simp) ?_)
  have hit' : (s.heap.update it (Obj.mapFields (·.setIfInBounds 1 (rawInt ((i : Int) + 1))))).IsKeyIter it d (i + 1) n ep :=
    ⟨_, Heap.get?_update_self _ ho (Obj.isFreed_of_fields (Obj.data_mapFields hd _)), (Obj.cls_mapFields ..).trans hc, by rw [Obj.data_mapFields hd]; simp [rawInt]⟩
  refine wpAny_bind (wpAny_holding ?_)
  refine wpAny_bind (wpAny_isOneOf_keyiter (s := { s with heap := s.heap.update it (Obj.mapFields (·.setIfInBounds 1 (rawInt ((i : Int) + 1)))) }) hit'.typeIs ?_)
  show wpAny _ _ (pure es[i].key) _ _ _
  rw [hen]
  exact wpAny_pure (wpAny_pure ⟨_, rfl, wpAny_pure (hQ _ hit' (Heap.SameBut.update ..))⟩)
theorem next_key_end {it d : Addr} {i n ep : Nat} {od : Obj} {es : Array DictEntry} {Q : Option Value → Shared → Prop} (hh : A.handled = none) (hit : s.heap.IsKeyIter it d i n ep) (hod : s.heap.get? d = some od) (hdd : od.data = .dict es ep)
    (hsz : es.size = n) (hge : n ≤ i) (hQ : ∀ h', Heap.ExtBut it s.heap h' → Q none { s with heap := h' }) : wpAny (model prog w) A (pyNext (.ref it)) Q E s := by
  obtain ⟨o, ho, hc, hd⟩ := id hit
  unfold pyNext
  refine wpAny_bind (wpAny_attempt (wpAny_callSpecial?_slot (name := Str.ofString "__next__") hit.typeIs F.slot_dict_keyiterator_next
    (wpAny_call_entry F.slot_dict_keyiterator_next hit.typeIs F.entry_dict_keyiterator_next ?_ (F.args_dict_keyiterator_next_1 _))))
  refine wpAny_bind (wpAny_pure ?_)
  refine wpAny_bind ?_
  refine wpAny_bind ?_
  first | refine wpAny_bind (wpAny_typeNameOfWhole_keyiter hit.typeIs (wpAny_pure ?_)) | refine wpAny_bind (wpAny_typeNameOf_keyiter hit.typeIs (wpAny_pure ?_))
  refine wpAny_bind (wpAny_fieldsOf ho hd ?_)
  have hown : Builtin.Dict_items.ownsTuple "dict_keyiterator" = false := by decide
  simp only [hown, Bool.false_eq_true, if_false]
  show wpAny _ _ (if (Value.ref d == Value.none) = true then _ else _) _ _ s
  rw [if_neg (show ¬ ((Value.ref d == Value.none) = true) from Bool.false_ne_true)]
  refine wpAny_bind (wpAny_pure ?_)
  refine wpAny_bind (wpAny_dictEntries hod hdd ?_)
  rw [if_neg (by rw [hsz]; simp)]
  refine wpAny_bind (wpAny_pure ?_)
  refine wpAny_bind (wpAny_dictEpoch hod hdd ?_)
  rw [if_neg (by simp)]
  refine wpAny_pure ?_
  have hge' : es.size ≤ i := by rw [hsz]; exact hge
  simp only [show ¬ ((i : Int) < 0) from by omega, if_false, Int.toNat_natCast, Array.getElem?_eq_none hge']
  refine wpAny_bind ?_
  first | refine wpAny_bind (wpAny_typeNameOfWhole_keyiter hit.typeIs (wpAny_pure ?_)) | refine wpAny_bind (wpAny_typeNameOf_keyiter hit.typeIs (wpAny_pure ?_))
  show wpAny _ _ (setField (.ref it) 0 .none >>= _) _ _ s
  refine wpAny_bind (wpAny_setField ho hd (by simp) ?_)
  show wpAny _ _ (newExc (.type "StopIteration") [] >>= _) _ _ _
  refine wpAny_bind ?_
  simp only [newExc, newTuple]
  refine wpAny_bind (wpAny_newObj_type ?_ (by size_fits))
  refine wpAny_bind (m := firstArgMember _ _) (wpAny_of_eq (a := Value.none) (by first | rfl | (simp only [firstArgMember]; rfl)) ?_)
  refine wpAny_newObj_type ?_ (by size_fits)
  simp only [raiseNew]
  refine wpAny_bind (wpAny_handled ?_)
  rw [show A.in1.handled = none from hh]
  refine wpAny_bind (wpAny_pure (wpAny_throw ?_))
  refine wpAny_bind (wpAny_isInstance (T := "StopIteration") (b := true) ⟨_, Heap.get?_push_size _ rfl, rfl⟩ isSubtype_stop ?_)
  exact wpAny_pure (hQ _ (((Heap.SameBut.update ..).extBut.push _).push _))
end
theorem kv_get {κ : Type} {kvs : List (κ × V)} {vs : List (κ × Value)} (h : KV kvs vs) : ∀ {i : Nat} {k : κ} {v : V}, kvs[i]? = some (k, v) → ∃ u, vs[i]? = some (k, u) ∧ RelV v u := by
  unfold KV at h
  induction h with
  | nil => intro i k v e; simp at e
  | @cons a b l₁ l₂ r t ih =>
    intro i k v e
    cases i with
    | zero =>
      simp only [List.getElem?_cons_zero, Option.some.injEq] at e
      subst e
      refine ⟨b.2, ?_, r.2⟩
      simp only [List.getElem?_cons_zero]
      exact congrArg some (Prod.ext r.1.symm rfl)
    | succ j =>
      simp only [List.getElem?_cons_succ] at e ⊢
      exact ih e
theorem paired_get {α β : Type} {G : α → β → Prop} {l₁ : List α} {l₂ : List β} (h : Paired G l₁ l₂) : ∀ {i : Nat} {a : α}, l₁[i]? = some a → ∃ b, l₂[i]? = some b ∧ G a b := by
  induction h with
  | nil => intro i a e; simp at e
  | @cons a b l₁ l₂ r t ih =>
    intro i a' e
    cases i with
    | zero =>
      simp only [List.getElem?_cons_zero, Option.some.injEq] at e
      subst e
      exact ⟨b, rfl, r⟩
    | succ j =>
      simp only [List.getElem?_cons_succ] at e ⊢
      exact ih e
theorem relV_key {k : Key} {u : Value} (h : keyIs k u = true) : RelV (kV k) u := by
  rcases keyIs_shape h with ⟨i, t, rfl, rfl⟩ | ⟨x, t, rfl, rfl⟩
  · exact ⟨t, rfl⟩
  · exact ⟨t, rfl⟩
section
variable {X : Cx} {pins : List (Addr × Obj)} {σ : St} {H : Hp} {s : Shared} {d : Addr} {o : Obj}
theorem Inv.frzK {kvs : List (Key × V)} (I : Inv X pins σ H s) (h : H d = some (.frz o (.dK kvs))) :
    (d == sysModules) = false ∧ s.heap.get? d = some o ∧ o.ExactDict ∧ ∃ (es : Array DictEntry) (ep : Nat) (vs : List (Key × Value)), o.data = .dict es ep ∧ es.size = kvs.length ∧ KV kvs vs ∧ s.heap.DictAt (mixKind X.prog X.w) d vs ep := by
  obtain ⟨hd, z, hs, vs, kv, o', es, ep, ho, hx, hdt, r⟩ := I.hok d _ h
  rw [hd] at ho
  cases ho
  refine ⟨hs, hd, hx, es, ep, vs, hdt, ?_, kv, o, es, hd, hx, hdt, r⟩
  have l1 := r.2.1.length
  have l2 : kvs.length = vs.length := Paired.length kv
  rw [Array.length_toList] at l1
  omega
theorem Inv.frzT {kvs : List (List Key × V)} (I : Inv X pins σ H s) (h : H d = some (.frz o (.dT kvs))) :
    (d == sysModules) = false ∧ s.heap.get? d = some o ∧ o.ExactDict ∧ ∃ (es : Array DictEntry) (ep : Nat), o.data = .dict es ep ∧ es.size = kvs.length ∧
      ∀ (i : Nat) (k : List Key) (v : V), kvs[i]? = some (k, v) → ∃ (en : DictEntry) (q : Addr), es[i]? = some en ∧ en.key = .ref q ∧ H q = some (.tup (k.map kV)) := by
  obtain ⟨hd, z, hs, xs, pr, o', es, ep, ho, hx, hdt, he, _⟩ := I.hok d _ h
  rw [hd] at ho
  cases ho
  refine ⟨hs, hd, hx, es, ep, hdt, ?_, fun i k v e => ?_⟩
  · have l1 : es.size = xs.length := size_of_entries he
    have l2 : kvs.length = xs.length := Paired.length pr
    omega
  · obtain ⟨b, hb, e1, e2, _⟩ := paired_get pr e
    have q := entry_at he i
    rw [hb] at q
    exact ⟨_, b.2.1, q, rfl, e2⟩
end
def Itk (d : Addr) (o : Obj) (kvs : List (Key × V)) : It :=
  ⟨fun i H => H d = some (.frz o (.dK kvs)) ∧ i < kvs.length, fun i H x H' => H' = H ∧ ∃ k v, kvs[i]? = some (k, v) ∧ x = kV k, fun i H => H d = some (.frz o (.dK kvs)) ∧ kvs.length ≤ i⟩
def Itkt (d : Addr) (o : Obj) (kvs : List (List Key × V)) : It :=
  ⟨fun i H => H d = some (.frz o (.dT kvs)) ∧ i < kvs.length, fun i H x H' => H' = H ∧ ∃ (k : List Key) (v : V) (q : Addr), kvs[i]? = some (k, v) ∧ x = .ref q ∧ H q = some (.tup (k.map kV)), fun i H => H d = some (.frz o (.dT kvs)) ∧ kvs.length ≤ i⟩
theorem dict_ep {o : Obj} {es es' : Array DictEntry} {ep ep' : Nat} (h : o.data = .dict es ep) (h' : o.data = .dict es' ep') : es' = es ∧ ep' = ep := by
  rw [h] at h'
  cases h'
  exact ⟨rfl, rfl⟩
section
variable {P : Program} {w : World} {K : PySem.W.Frag} {tg : Expr} {d : Addr} {o : Obj} {es : Array DictEntry} {ep : Nat}
theorem turn_keys {kvs : List (Key × V)} (it : Addr) (hod : o.data = .dict es ep) : Turn P w K tg (Itk d o kvs) [it] it (fun i h => h.IsKeyIter it d i kvs.length ep) where
  mem := by simp
  obj := fun i h st b hb => by
    have e : b = it := by simpa using hb
    subst e
    obtain ⟨oi, e, c, dd⟩ := st
    exact ⟨oi, e, fun v z => by rw [dd] at z; cases z⟩
  keep := fun i h h' st k => st.at fun oi e => k it (by simp) oi e
  item := by
    intro X hP hw hK hc i pins s σ H E I hf st hg
    subst hP hw hK
    obtain ⟨hd, hi⟩ := hg
    obtain ⟨f0, f1, f2, f3, f4, f5⟩ := hf it (by simp)
    obtain ⟨hs, hgd, hx, es', ep', vs, hdt, hsz, kv, hm⟩ := I.frzK hd
    obtain ⟨rfl, rfl⟩ := dict_ep hod hdt
    obtain ⟨⟨k, v⟩, hkv⟩ : ∃ p, kvs[i]? = some p := ⟨kvs[i], List.getElem?_eq_getElem hi⟩
    obtain ⟨u, hu, ru⟩ := kv_get kv hkv
    have hl : kvs.length = vs.length := Paired.length kv
    rw [hl] at st
    refine wpAny_pyNext_dict_item st hm hu fun key h' hkey st' sb => ?_
    have I1 : Inv X pins σ H { s with heap := h' } := I.turned (t' := s.toks) (fun b ob hb e => (sb.2 b hb).trans e) f0 f1 f3 f4 f5
    obtain ⟨oi, e, c, dd⟩ := id st'
    refine ⟨key, rfl, go_of (s := { s with heap := h' }) e c dd (by decide) ⟨kV k, H, I1, relV_key (show keyIs k key = true from hkey), ⟨rfl, k, v, hkv, rfl⟩, ?_, fun b hb => (hf b hb).1⟩⟩
    show h'.IsKeyIter it d (i + 1) kvs.length _
    rw [hl]
    exact st'
  done := by
    intro X hP hw hK hc i pins s σ H E I hf st hg
    subst hP hw hK
    obtain ⟨hd, hi⟩ := hg
    obtain ⟨f0, f1, f2, f3, f4, f5⟩ := hf it (by simp)
    obtain ⟨hs, hgd, hx, es', ep', vs, hdt, hsz, kv, hm⟩ := I.frzK hd
    obtain ⟨rfl, rfl⟩ := dict_ep hod hdt
    exact next_key_end (I.ok.hd hc) st hgd hdt hsz hi fun h' eb => ⟨rfl, I.turned (t' := s.toks) (fun b ob hb e => eb b ob hb e) f0 f1 f3 f4 f5⟩
  self := fun A i s Q E st h => wpAny_pyIter_keyiter st h
theorem turn_keysT {kvs : List (List Key × V)} (it : Addr) (hod : o.data = .dict es ep) : Turn P w K tg (Itkt d o kvs) [it] it (fun i h => h.IsKeyIter it d i kvs.length ep) where
  mem := by simp
  obj := fun i h st b hb => by
    have e : b = it := by simpa using hb
    subst e
    obtain ⟨oi, e, c, dd⟩ := st
    exact ⟨oi, e, fun v z => by rw [dd] at z; cases z⟩
  keep := fun i h h' st k => st.at fun oi e => k it (by simp) oi e
  item := by
    intro X hP hw hK hc i pins s σ H E I hf st hg
    subst hP hw hK
    obtain ⟨hd, hi⟩ := hg
    obtain ⟨f0, f1, f2, f3, f4, f5⟩ := hf it (by simp)
    obtain ⟨hs, hgd, hx, es', ep', hdt, hsz, ent⟩ := I.frzT hd
    obtain ⟨rfl, rfl⟩ := dict_ep hod hdt
    obtain ⟨⟨k, v⟩, hkv⟩ : ∃ p, kvs[i]? = some p := ⟨kvs[i], List.getElem?_eq_getElem hi⟩
    obtain ⟨en, q, hen, hkey, hq⟩ := ent i k v hkv
    refine next_key_item st hgd hdt hsz hen fun h' st' sb => ?_
    have I1 : Inv X pins σ H { s with heap := h' } := I.turned (t' := s.toks) (fun b ob hb e => (sb.2 b hb).trans e) f0 f1 f3 f4 f5
    obtain ⟨oi, e, c, dd⟩ := id st'
    exact ⟨en.key, rfl, go_of (s := { s with heap := h' }) e c dd (by decide) ⟨.ref q, H, I1, hkey, ⟨rfl, k, v, q, hkv, rfl, hq⟩, st', fun b hb => (hf b hb).1⟩⟩
  done := by
    intro X hP hw hK hc i pins s σ H E I hf st hg
    subst hP hw hK
    obtain ⟨hd, hi⟩ := hg
    obtain ⟨f0, f1, f2, f3, f4, f5⟩ := hf it (by simp)
    obtain ⟨hs, hgd, hx, es', ep', hdt, hsz, ent⟩ := I.frzT hd
    obtain ⟨rfl, rfl⟩ := dict_ep hod hdt
    exact next_key_end (I.ok.hd hc) st hgd hdt hsz hi fun h' eb => ⟨rfl, I.turned (t' := s.toks) (fun b ob hb e => eb b ob hb e) f0 f1 f3 f4 f5⟩
  self := fun A i s Q E st h => by
    refine wpAny_pyIter_slot st.typeIs F.slot_dict_keyiterator_iter (wpAny_call_entry F.slot_dict_keyiterator_iter st.typeIs F.entry_dict_keyiterator_iter ?_ (F.args_dict_keyiterator_iter_1 _))
    show wpAny _ _ (ret (.ref it)) _ _ s
    exact wpAny_pure ⟨_, rfl, "dict_keyiterator", _, st.typeIs, F.slot_dict_keyiterator_next.lookup, h⟩
end
def iKeys (td : TE) : TI := fun σ H R => td σ H fun x H1 => ∃ d o, x = .ref d ∧ ((∃ kvs, H1 d = some (.frz o (.dK kvs)) ∧ R (Itk d o kvs) H1) ∨ ∃ kvs, H1 d = some (.frz o (.dT kvs)) ∧ R (Itkt d o kvs) H1)
section
variable {X : Cx} {tg e : Expr} {td : TE} {apos cpos : Pos}
theorem pi_keys (he : PE X e td) : PI X tg e (iKeys td) := by
  intro pins s σ H R I h
  refine thn (he pins s σ H _ I h) fun u s1 ⟨x, H1, I1, rx, d, o, ex, q⟩ => ?_
  subst ex
  obtain rfl : u = Value.ref d := rx
  rcases q with ⟨kvs, hd, q⟩ | ⟨kvs, hd, q⟩
  · obtain ⟨hs, hgd, hx, es, ep, vs, hdt, hsz, kv, hm⟩ := I1.frzK hd
    refine iter_keys hs hgd hx hdt (pi_one (tk := s1.toks) I1 _ (turn_keys _ hdt) ⟨_, Heap.get?_push_size _ rfl, rfl, ?_⟩ q)
    rw [hsz] <;> rfl
  · obtain ⟨hs, hgd, hx, es, ep, hdt, hsz, ent⟩ := I1.frzT hd
    refine iter_keys hs hgd hx hdt (pi_one (tk := s1.toks) I1 _ (turn_keysT _ hdt) ⟨_, Heap.get?_push_size _ rfl, rfl, ?_⟩ q)
    rw [hsz] <;> rfl
end
def Ite (K : PySem.W.Frag) (a : Addr) : It :=
  ⟨fun i H => ∃ (xs : List V) (x : V), SqL K H a xs ∧ xs[i]? = some x, fun i H v H' => ∃ T x, v = .ref T ∧ H T = none ∧ H' = upd H T (.tup [.int (i : Nat), x]) ∧ ∀ xs, SqL K H a xs → xs[i]? = some x, fun i H => ∃ xs : List V, SqL K H a xs ∧ xs.length ≤ i⟩
theorem turn_enum {P : Program} {w : World} {K : PySem.W.Frag} {elts : List Expr} {kk : Nat} {tpos : Pos} (a e it : Addr) :
    Turn P w K (.Tuple elts kk tpos) (Ite K a) [e, it] e (fun i h => (∃ old, IsEnum h e it ((i : Nat) : Int) old) ∧ h.IsListIter it a i ∧ e ≠ it) where
  mem := by simp
  obj := fun i h st b hb => by
    obtain ⟨⟨old, he⟩, ⟨o, ho, hc, hd⟩, _⟩ := st
    have e' : b = e ∨ b = it := by simpa using hb
    rcases e' with z | z
    · rw [z]; exact ⟨_, he, fun v q => nomatch q⟩
    · rw [z]; exact ⟨o, ho, fun v q => by rw [hd] at q; cases q⟩
  keep := fun i h h' st k => let ⟨⟨old, he⟩, hi, hne⟩ := st; ⟨⟨old, k e (by simp) _ he⟩, hi.at fun o q => k it (by simp) o q, hne⟩
  item := by
    intro X hP hw hK hc i pins s σ H E I hf st hg
    subst hP hw hK
    obtain ⟨⟨old, he⟩, hit, hne⟩ := st
    obtain ⟨xs, x, hq, hx⟩ := hg
    obtain ⟨its, rv, p, hz⟩ := I.list hq
    obtain ⟨u, hu, ru⟩ := rv.get hx
    have hel : e < s.heap.objs.size := Heap.lt_size he
    have hil : it < s.heap.objs.size := by obtain ⟨_, q, _⟩ := hit; exact Heap.lt_size q
    refine wpAny_pyNext_enum_item he hit p.isList (x := u) (by simpa using hu) hne fun h' ho hit' hT hsz hk => ?_
    refine ⟨_, rfl, wpAny_letOwnedTupleGo_enum (s := { s with heap := h', toks := s.toks + 1 }) ho fun h'' he' sb => ?_⟩
    have hT2 : h''.get? s.heap.objs.size = some { cls := .type "tuple", data := .seq #[.int i s.toks, u] } := (sb.2 _ (Nat.ne_of_gt hel)).trans hT
    have new : ObjOk X.prog X.w (upd H s.heap.objs.size (.tup [.int (i : Nat), x])) h'' s.heap.objs.size (.tup [.int (i : Nat), x]) :=
      ⟨by show 2 ≤ sizeLine; decide, [.int i s.toks, u], .cons ⟨_, rfl⟩ (.cons ru .nil), ⟨_, hT2, rfl, _, rfl⟩⟩
    have I1 : Inv X pins σ (upd H s.heap.objs.size (.tup [.int (i : Nat), x])) { s with heap := h'', toks := s.toks + 1 } :=
      I.turnedNew (ch := [e, it]) (fun b ob hb q => (sb.2 b (fun z => hb (by simp [z]))).trans (hk b ob (fun z => hb (by simp [z])) (fun z => hb (by simp [z])) q)) hf (Nat.le_refl _) new
    refine ⟨.ref s.heap.objs.size, _, I1, rfl, ⟨_, x, rfl, I.hok.fresh (Nat.le_refl _), rfl, fun ys hy => by rw [I.list_inj hy hq]; exact hx⟩, ⟨⟨u, ?_⟩, hit'.at fun o q => (sb.2 it (Ne.symm hne)).trans q, hne⟩, fun b hb => ?_⟩
    · have e1 : ((i + 1 : Nat) : Int) = (i : Int) + 1 := by omega
      rw [e1]; exact he'
    · have hb' : b < s.heap.objs.size := by
        have e' : b = e ∨ b = it := by simpa using hb
        rcases e' with z | z
        · rw [z]; exact hel
        · rw [z]; exact hil
      rw [upd_ne (Nat.ne_of_lt hb')]
      exact (hf b hb).1
  done := by
    intro X hP hw hK hc i pins s σ H E I hf st hg
    subst hP hw hK
    obtain ⟨⟨old, he⟩, hit, hne⟩ := st
    obtain ⟨xs, hq, hx⟩ := hg
    obtain ⟨its, rv, p, hz⟩ := I.list hq
    obtain ⟨f0, f1, f2, f3, f4, f5⟩ := hf it (by simp)
    have hl := rv.length
    exact wpAny_pyNext_enum_end (I.ok.hd hc) he hit p.isList (by simp; omega) fun h' eb => ⟨rfl, I.turned (t' := s.toks) (fun b o hb q => eb b o hb q) f0 f1 f3 f4 f5⟩
  self := fun A i s Q E st h => let ⟨⟨_, he⟩, _⟩ := st; wpAny_pyIter_enum he h
def iEnum (K : PySem.W.Frag) (ta : TA) : TI := fun σ H R => ta σ H fun vs H1 => ∃ a xs, vs = [.ref a] ∧ SqL K H1 a xs ∧ R (Ite K a) H1
theorem pi_enum {X : Cx} {e : Expr} {ta : TA} {p pos tpos : Pos} {elts : List Expr} {kk : Nat} (hg : Gl X "enumerate") (hm : X.mg "enumerate" = none) (ha : PA X [e] ta) (hs : starEach [e] X.env = [(false, eval e X.env)] := by rfl) :
    PI X (.Tuple elts kk tpos) (.Call (.Name "enumerate" p) [e] [] pos) (iEnum X.K ta) := by
  intro pins s σ H R I h
  refine Call_ (ld_blt I hg hm boot_enumerate (PyProof.Rows.callWith_type1 (thn (ha pos pins s σ H _ I h) fun us s1 ⟨vs, H1, I1, r1, q1⟩ => ?_) hs rfl))
  obtain ⟨a, xs, ex, hq, q⟩ := q1
  subst ex
  cases r1 with
  | cons r rr =>
    cases rr
    cases r
    obtain ⟨its, rv, p', hz⟩ := I1.list hq
    refine call_enumerate_list p'.isList fun h' he hit hsz hk => wpAny_pyIter_enum he ?_
    have I2 : Inv X pins σ H1 { s1 with heap := h' } := I1.kept (t' := s1.toks) hk
    refine ⟨s1.heap.objs.size + 1, [s1.heap.objs.size + 1, s1.heap.objs.size], _, _, H1, rfl, I2, turn_enum a (s1.heap.objs.size + 1) s1.heap.objs.size, ⟨⟨.none, he⟩, hit, Nat.succ_ne_self _⟩, fun b hb => ?_, q⟩
    have e' : b = s1.heap.objs.size + 1 ∨ b = s1.heap.objs.size := by simpa using hb
    have hle : s1.heap.objs.size ≤ b := by
      rcases e' with z | z
      · rw [z]; exact Nat.le_add_right _ _
      · rw [z]; exact Nat.le_refl _
    exact I1.fpOk hle (I1.hok.fresh hle)
end L2
section
namespace Bits
open PySem PyProof.Rows
end Bits
end
section
namespace TL
open PySem PySem.Builtin PySem.Builtin.Str PySem.StrLaws
end TL
end
namespace L2
open PySem PySem.Spec PyProof.Rows
section
variable {X : Cx} {pins : List (Addr × Obj)} {σ : St} {H : Hp} {s : Shared} {Q : VK}
end
section
variable {X : Cx}
end
section
variable {X : Cx} {o e : Expr} {to te : TE}
end
end L2
namespace L2
open PySem PySem.Spec PyProof.Rows
section
variable {X : Cx}
end
end L2
namespace Att
open PySem PySem.W PySem.Calls PyProof.Rows
theorem ints_of_wellAll {P : Params} {h : Heap} : ∀ (ns : List Int) (vs : List Value), WellAll P h vs (ns.map WData.int) → IntsAre vs ns := by
  intro ns
  induction ns with
  | nil =>
    intro vs w
    rw [List.map_nil] at w
    cases w
    exact .nil
  | cons n ns ih =>
    intro vs w
    rw [List.map_cons] at w
    cases w with
    | cons a b =>
      cases a
      exact .cons _ _ (ih _ b)
section
variable {prog : Program} {w : World} {A : Around} {E : Value → Shared → Prop} {s : Shared} {K : Frag}
end
end Att
namespace L2
open PySem PySem.Spec PyProof.Rows
theorem vals_ints : ∀ {vs : List Value} {ns : List Int}, IntsAre vs ns → Vals (ns.map V.int) vs
  | _, _, .nil => .nil
  | _, _, .cons n t h => .cons ⟨t, rfl⟩ (vals_ints h)
def Only (H : Hp) : Prop := ∀ b, H b = none ∨ ∃ o xs, H b = some (.frz o (.lst xs))
end L2
namespace L2
open PySem PySem.Spec PyProof.Rows
abbrev KOf {K : PySem.W.Frag} {h : Heap} (_ : K.In h) : PySem.W.Frag := K
end L2
namespace L2
open PySem PySem.Spec PyProof.Rows
def inClass (s : Stmt) (j : Nat) : Stmt := match s with
  | .ClassDef _ _ _ body _ _ _ _ _ _ _ => body.getD j (.Pass ⟨0, 0, 0, 0⟩)
  | _ => .Pass ⟨0, 0, 0, 0⟩
def defArgs (s : Stmt) : Arguments := match s with
  | .FunctionDef _ a _ _ _ _ _ _ _ _ => a
  | _ => { posonlyargs := [], args := [], vararg := none, kwonlyargs := [], kw_defaults := [], kwarg := none, defaults := [] }
def defBody (s : Stmt) : List Stmt := match s with
  | .FunctionDef _ _ b _ _ _ _ _ _ _ => b
  | _ => []
def defScope (s : Stmt) : Scope := match s with
  | .FunctionDef _ _ _ _ _ _ sc _ _ _ => sc
  | _ => { kind := .function, names := [], isGenerator := false, isCoroutine := false }
abbrev CX0 : CXT := fun _ _ _ _ _ _ => False
abbrev E0 : XK := fun _ _ _ => False
theorem pass0 {X : Cx} : Passes CX0 X E0 := fun _ _ _ _ _ _ _ h => h.elim
structure Fun (K : PySem.W.Frag) (x qual : Str) (st : Stmt) (f : Addr) (fd : FuncData) : Prop where
  ex : ∃ (oc : Value) (od : Option Addr) (kV doc pm : Value) (an : Option Addr) (cdv ct : Value) (osl : Array (Option Value)),
    fd = PySem.W.fnOf x qual (defArgs st) (defBody st) (defScope st) .none kV doc pm an cdv ct ∧ K.lookup f = some ⟨oc, od, .func fd, osl⟩ ∧ PySem.W.codeIn K cdv qual = true
  kp : PySem.W.keepIn K (.ref f) = true
section
variable {P : Program} {w : World} {K : PySem.W.Frag} {mg : Str → Option Value} {base : Heap}
theorem Fun.ok {x qual : Str} {st : Stmt} {f : Addr} {fd : FuncData} {N ps : List Str} {k : Nat} {sp : Sp} (F : Fun K x qual st f fd) (S : FnScope N ps (defScope st)) (len : ∀ vs H Q E, sp vs H Q E → vs.length = ps.length)
    (hbody : ∀ (cdv : Value) (A : Around) (outer : List Env) (s : Shared) (H : Hp) (vs : List V) (Q : VK) (E : XK), Room k (A.deeper (envOfC qual (defScope st) s.heap.objs.size f cdv)) → sp vs H Q E →
      ∃ t, PSs (cxOf CX0 P w K mg base N qual (defScope st) f cdv A outer s H E).nox (defBody st) t ∧ t { nx := fun _ H' => Q .non H', rt := Q } (start N vs) H) : FnOk P w K mg base CX0 (k + 1) f fd ps sp := by
  obtain ⟨oc, od, kV, doc, pm, an, cdv, ct, osl, rfl, lk, hcd⟩ := F.ex
  refine fn_of lk hcd S len fun A outer s H vs Q E hr hsp => ?_
  obtain ⟨t, h, q⟩ := hbody cdv A outer s H vs Q E hr hsp
  exact ⟨t, h.nox, q⟩
theorem Fun.binds {x qual : Str} {st : Stmt} {f : Addr} {fd : FuncData} {ps : List Str} (F : Fun K x qual st f fd)
    (h : ∀ (kV doc pm : Value) (an : Option Addr) (cdv ct : Value) (us : List Value), us.length = ps.length → bindArgs (PySem.W.fnOf x qual (defArgs st) (defBody st) (defScope st) .none kV doc pm an cdv ct) ⟨us, []⟩ = pure (ps.zip us)) : Binds K fd ps [] := by
  obtain ⟨oc, od, kV, doc, pm, an, cdv, ct, osl, rfl, lk, hcd⟩ := F.ex
  exact .all (h kV doc pm an cdv ct)
theorem fun_mk {x qual : Str} {st : Stmt} {f : Addr} {oc : Value} {od an : Option Addr} {osl : Array (Option Value)} {kV doc pm cdv ct : Value} (l : K.lookup f = some ⟨oc, od, .func (PySem.W.fnOf x qual (defArgs st) (defBody st) (defScope st) .none kV doc pm an cdv ct), osl⟩)
    (c : PySem.W.codeIn K cdv qual = true) (k : PySem.W.keepIn K (.ref f) = true) : Fun K x qual st f (PySem.W.fnOf x qual (defArgs st) (defBody st) (defScope st) .none kV doc pm an cdv ct) := ⟨⟨oc, od, kV, doc, pm, an, cdv, ct, osl, rfl, l, c⟩, k⟩
end
theorem hu_of {A : Around} {k : Nat} (hr : Room k A) : A.units + 1 < cLine := Nat.lt_of_le_of_lt (Nat.add_le_add_left (by decide : 1 ≤ 64) _) hr.units
section
variable {X : Cx}
theorem pv (i : Nat) {x : Str} {pos : Pos} (hN : X.N[i]? = some x := by rfl) (hv : Vis X.env.scope x := by first | exact Or.inl rfl | exact Or.inr (Or.inl rfl) | exact Or.inr (Or.inr rfl)) (hd : (x == ("__debug__" : Str)) = false := by decide)
    (hcd : (x == ("__classdict__" : Str)) = false := by decide) : PE X (.Name x pos) (tVar i) := pe_var hN hv hd hcd
end
def Same (H H' : Hp) : Prop := ∀ b o, H b = some o → H' b = some o
theorem Same.refl (H : Hp) : Same H H := fun _ _ h => h
theorem Same.trans {H H1 H2 : Hp} (a : Same H H1) (b : Same H1 H2) : Same H H2 := fun c o h => b c o (a c o h)
theorem Same.free {H H' : Hp} (e : Same H H') {l : Addr} (h : H' l = Option.none) : H l = Option.none := by
  cases q : H l with
  | none => rfl
  | some o =>
    rw [e l o q] at h
    cases h
theorem Same.seq {K : PySem.W.Frag} {H H' : Hp} {a : Addr} {xs : List V} (e : Same H H') (h : SqL K H a xs) : SqL K H' a xs := by
  rcases h with (h | ⟨o, h⟩) | h
  · exact .inl (.inl (e _ _ h))
  · exact .inl (.inr ⟨o, e _ _ h⟩)
  · exact .inr h
section
variable {κ : Type} [DecidableEq κ]
end
end L2
section
namespace GB
open Ql90
def bl (n : Nat) : Nat := if n = 0 then 0 else n.log2 + 1
theorem mz {n k : Nat} : bl n ≤ k ↔ n < 2 ^ k := by
  unfold bl
  by_cases h : n = 0
  · subst h
    simp
    exact Nat.two_pow_pos k
  · rw [if_neg h]
    exact Nat.log2_lt h
theorem zq {n k : Nat} : k < bl n ↔ 2 ^ k ≤ n := by
  have h := @mz n k
  omega
theorem akk {n k : Nat} (h1 : 2 ^ k ≤ n) (h2 : n < 2 ^ (k + 1)) : bl n = k + 1 := by
  have a := zq.mpr h1
  have b := mz.mpr h2
  omega
theorem aag {n k : Nat} (h : n ≠ 0) : bl (n * 2 ^ k) = bl n + k := by
  have h0 : bl n ≠ 0 := by unfold bl; rw [if_neg h]; omega
  obtain ⟨j, hj⟩ : ∃ j, bl n = j + 1 := ⟨bl n - 1, by omega⟩
  have h1 : 2 ^ j ≤ n := zq.mp (by omega)
  have h2 : n < 2 ^ (j + 1) := mz.mp (by omega)
  rw [hj]
  have := akk (n := n * 2 ^ k) (k := j + k) (by rw [Nat.pow_add]; exact Nat.mul_le_mul_right _ h1) (by
    rw [show j + k + 1 = (j + 1) + k by omega, Nat.pow_add]
    exact Nat.mul_lt_mul_of_pos_right h2 (Nat.two_pow_pos k))
  omega
theorem akf {n k : Nat} : bl (n / 2 ^ k) = bl n - k := by
  by_cases hk : bl n ≤ k
  · have h1 := mz.mp hk
    rw [Nat.div_eq_of_lt h1]
    unfold bl at *
    simp
    split at hk <;> simp_all
  · obtain ⟨j, hj⟩ : ∃ j, bl n = (j + k) + 1 := ⟨bl n - 1 - k, by omega⟩
    have h1 : 2 ^ (j + k) ≤ n := zq.mp (by omega)
    have h2 : n < 2 ^ ((j + k) + 1) := mz.mp (by omega)
    rw [hj]
    have := akk (n := n / 2 ^ k) (k := j) ((Nat.le_div_iff_mul_le (Nat.two_pow_pos k)).mpr (by rw [← Nat.pow_add]; exact h1)) (by
      rw [Nat.div_lt_iff_lt_mul (Nat.two_pow_pos k), ← Nat.pow_add]
      rw [show j + 1 + k = j + k + 1 by omega]; exact h2)
    omega
def nw (top below : Int) : Int :=
  if below < 2 * (top - top / below * below) ∨ (2 * (top - top / below * below) = below ∧ top / below % 2 = 1) then top / below + 1 else top / below
theorem ags (top : Int) {below : Int} (h : 0 < below) : 0 ≤ top - top / below * below ∧ top - top / below * below < below := by
  have h1 := Int.emod_nonneg top (show below ≠ 0 by omega)
  have h2 := Int.emod_lt_of_pos top h
  have h3 := Int.mul_ediv_add_emod top below
  rw [Int.mul_comm] at h3
  omega
theorem ab4 (top : Int) {below : Int} (h : 0 < below) :
    -below ≤ 2 * (top - nw top below * below) ∧ 2 * (top - nw top below * below) ≤ below ∧ ((2 * (top - nw top below * below) = below ∨ 2 * (top - nw top below * below) = -below) → nw top below % 2 = 0) := by
  obtain ⟨h1, h2⟩ := ags top h
  unfold nw
  generalize hd : top / below = d at *
  have e : (d + 1) * below = d * below + below := by rw [Int.add_mul, Int.one_mul]
  split
  · rename_i hc
    rw [e]
    generalize d * below = db at *
    refine ⟨by omega, by omega, fun _ => ?_⟩
    rcases hc with hc | ⟨hc, hm⟩ <;> omega
  · rename_i hc
    generalize d * below = db at *
    refine ⟨by omega, by omega, fun _ => ?_⟩
    omega
theorem aca {top below r : Int} (h : 0 < below) (h1 : -below ≤ 2 * (top - r * below)) (h2 : 2 * (top - r * below) ≤ below)
    (h3 : (2 * (top - r * below) = below ∨ 2 * (top - r * below) = -below) → r % 2 = 0) : nw top below = r := by
  obtain ⟨a1, a2, a3⟩ := ab4 top h
  generalize nw top below = d at *
  rcases Int.lt_trichotomy d r with hl | he | hg
  · have : d * below + below ≤ r * below := by
      have := Int.mul_le_mul_of_nonneg_right (show d + 1 ≤ r by omega) (show 0 ≤ below by omega)
      rw [Int.add_mul, Int.one_mul] at this
      exact this
    by_cases hr : r = d + 1
    · have e : r * below = d * below + below := by rw [hr, Int.add_mul, Int.one_mul]
      generalize d * below = x at *
      generalize r * below = y at *
      omega
    · have : d * below + (below + below) ≤ r * below := by
        have := Int.mul_le_mul_of_nonneg_right (show d + 1 + 1 ≤ r by omega) (show 0 ≤ below by omega)
        rw [Int.add_mul, Int.add_mul, Int.one_mul] at this
        omega
      generalize d * below = x at *
      generalize r * below = y at *
      omega
  · exact he
  · have : r * below + below ≤ d * below := by
      have := Int.mul_le_mul_of_nonneg_right (show r + 1 ≤ d by omega) (show 0 ≤ below by omega)
      rw [Int.add_mul, Int.one_mul] at this
      exact this
    by_cases hr : d = r + 1
    · have e : d * below = r * below + below := by rw [hr, Int.add_mul, Int.one_mul]
      generalize d * below = x at *
      generalize r * below = y at *
      omega
    · have : r * below + (below + below) ≤ d * below := by
        have := Int.mul_le_mul_of_nonneg_right (show r + 1 + 1 ≤ d by omega) (show 0 ≤ below by omega)
        rw [Int.add_mul, Int.add_mul, Int.one_mul] at this
        omega
      generalize d * below = x at *
      generalize r * below = y at *
      omega
theorem xm {top below c : Int} (h : 0 < below) (hc : 0 < c) : nw (top * c) (below * c) = nw top below := by
  obtain ⟨a1, a2, a3⟩ := ab4 top h
  have e : 2 * (top * c - nw top below * (below * c)) = (2 * (top - nw top below * below)) * c := by
    rw [← Int.mul_assoc (nw top below), ← Int.sub_mul, ← Int.mul_assoc]
  refine aca (Int.mul_pos h hc) ?_ ?_ ?_
  · rw [e, ← Int.neg_mul]
    exact Int.mul_le_mul_of_nonneg_right a1 (by omega)
  · rw [e]
    exact Int.mul_le_mul_of_nonneg_right a2 (by omega)
  · rw [e, ← Int.neg_mul]
    intro hh
    refine a3 ?_
    rcases hh with hh | hh
    · exact .inl (Int.eq_of_mul_eq_mul_right (by omega) hh)
    · exact .inr (Int.eq_of_mul_eq_mul_right (by omega) hh)
theorem ajw {top below : Int} (h : 0 < below) : nw (-top) below = -nw top below := by
  obtain ⟨a1, a2, a3⟩ := ab4 top h
  have e : 2 * (-top - -nw top below * below) = -(2 * (top - nw top below * below)) := by
    rw [Int.neg_mul]
    omega
  refine aca h ?_ ?_ ?_ <;> rw [e] <;> omega
theorem aix {top below K : Int} (h : 0 < below) (hK : top ≤ K * below) : nw top below ≤ K := by
  obtain ⟨a1, a2, a3⟩ := ab4 top h
  generalize nw top below = d at *
  rcases Int.lt_or_le K d with hl | hl
  · exfalso
    have : K * below + below ≤ d * below := by
      have := Int.mul_le_mul_of_nonneg_right (show K + 1 ≤ d by omega) (show 0 ≤ below by omega)
      rw [Int.add_mul, Int.one_mul] at this
      exact this
    omega
  · exact hl
theorem aio {top below K : Int} (h : 0 < below) (hK : K * below ≤ top) : K ≤ nw top below := by
  have := aix (top := -top) (below := below) (K := -K) h (by rw [Int.neg_mul]; omega)
  rw [ajw h] at this
  omega
theorem ah3 {m below : Int} (h : 0 < below) : nw (m * below) below = m := by
  have h1 := aix (top := m * below) (K := m) h (Int.le_refl _)
  have h2 := aio (top := m * below) (K := m) h (Int.le_refl _)
  omega
theorem ad1 (n k : Nat) : nw (n : Int) ((2 ^ k : Nat) : Int) = (even n k : Nat) := by
  have hp := Nat.two_pow_pos k
  unfold even
  have hm := Nat.mod_lt n hp
  have hdm := Nat.div_add_mod n (2 ^ k)
  refine aca (by omega) ?_ ?_ ?_
  all_goals dsimp only
  all_goals generalize hP : (2 : Nat) ^ k = P at *
  all_goals (split <;> rename_i hc)
  all_goals push_cast
  all_goals (try rw [Int.add_mul, Int.one_mul])
  all_goals (try rw [Int.add_zero])
  all_goals rw [Nat.mul_comm] at hdm
  all_goals (have hdm' : ((n / P : Nat) : Int) * (P : Int) + ((n % P : Nat) : Int) = (n : Int) := by exact_mod_cast hdm)
  all_goals generalize hq : n / P = q at *
  all_goals generalize hr : n % P = r at *
  all_goals (try rw [show ((n : Int) / (P : Int)) = (q : Int) by rw [← hq]; rfl])
  all_goals generalize ((q : Int) * (P : Int)) = x at *
  all_goals omega
theorem ani {n k K : Nat} (h : n ≤ K * 2 ^ k) : even n k ≤ K := by
  have h1 := ad1 n k
  have h2 := aix (top := (n : Int)) (below := ((2 ^ k : Nat) : Int)) (K := (K : Int)) (by have := Nat.two_pow_pos k; omega) (by exact_mod_cast h)
  omega
theorem ar5 {n k K : Nat} (h : K * 2 ^ k ≤ n) : K ≤ even n k := by
  have h1 := ad1 n k
  have h2 := aio (top := (n : Int)) (below := ((2 ^ k : Nat) : Int)) (K := (K : Int)) (by have := Nat.two_pow_pos k; omega) (by exact_mod_cast h)
  omega
end GB
end

section
namespace GB
open Ql90
def ag (top below : Int) (p : Nat) : Nat := bl (top.natAbs / below.natAbs) - p
def nd (top below : Int) (p : Nat) : Int := nw top (below * (2 ^ ag top below p : Nat)) * (2 ^ ag top below p : Nat)
theorem p2 (k : Nat) : (0 : Int) < ((2 ^ k : Nat) : Int) := by have := Nat.two_pow_pos k; omega
theorem al0 {top below : Int} {c p : Nat} (hc : 0 < c) : ag (top * c) (below * c) p = ag top below p := by
  unfold ag
  rw [Int.natAbs_mul, Int.natAbs_mul, Int.natAbs_natCast, Nat.mul_div_mul_right _ _ hc]
theorem agx {top below : Int} {c p : Nat} (h : 0 < below) (hc : 0 < c) : nd (top * c) (below * c) p = nd top below p := by
  unfold nd
  rw [al0 hc]
  have e : below * (c : Int) * ((2 ^ ag top below p : Nat) : Int) = below * ((2 ^ ag top below p : Nat) : Int) * (c : Int) := by
    rw [Int.mul_assoc, Int.mul_comm (c : Int), ← Int.mul_assoc]
  rw [e, xm (Int.mul_pos h (p2 _)) (by omega)]
theorem alg {a b c d : Int} {p : Nat} (hb : 0 < b) (hd : 0 < d) (h : a * d = c * b) : nd a b p = nd c d p := by
  have e1 := agx (top := a) (below := b) (c := d.toNat) (p := p) hb (by omega)
  have e2 := agx (top := c) (below := d) (c := b.toNat) (p := p) hd (by omega)
  rw [Int.toNat_of_nonneg (by omega)] at e1 e2
  rw [← e1, ← e2, h, Int.mul_comm b d]
theorem aoq {top below : Int} {p : Nat} : ag (-top) below p = ag top below p := by
  unfold ag
  rw [Int.natAbs_neg]
theorem ade {top below : Int} {p : Nat} (h : 0 < below) : nd (-top) below p = -nd top below p := by
  unfold nd
  rw [aoq, ajw (Int.mul_pos h (p2 _)), Int.neg_mul]
theorem ag9 {top below : Int} {p j : Nat} (hp : 1 ≤ p) (h : 0 < below) (hj : (top.natAbs : Int) ≤ (2 ^ j : Nat) * below) : (nd top below p).natAbs ≤ 2 ^ j := by
  have hs : ag top below p ≤ j := by
    unfold ag
    have : top.natAbs / below.natAbs < 2 ^ (j + 1) := by
      rw [Nat.div_lt_iff_lt_mul (by omega), Nat.pow_succ]
      have e : (below.natAbs : Int) = below := by omega
      have : top.natAbs ≤ 2 ^ j * below.natAbs := by
        have : (top.natAbs : Int) ≤ ((2 ^ j * below.natAbs : Nat) : Int) := by rw [Int.natCast_mul, e]; exact hj
        omega
      have h2 : 0 < 2 ^ j * below.natAbs := Nat.mul_pos (Nat.two_pow_pos j) (by omega)
      rw [show 2 ^ j * 2 * below.natAbs = 2 * (2 ^ j * below.natAbs) by rw [Nat.mul_comm (2 ^ j) 2, Nat.mul_assoc]]
      omega
    have := mz.mpr this
    omega
  have key : ∀ t : Int, t ≤ (2 ^ j : Nat) * below → nw t (below * (2 ^ ag top below p : Nat)) ≤ ((2 ^ (j - ag top below p) : Nat) : Int) := fun t ht => by
    refine aix (Int.mul_pos h (p2 _)) ?_
    have e : ((2 ^ (j - ag top below p) : Nat) : Int) * (below * ((2 ^ ag top below p : Nat) : Int)) = ((2 ^ j : Nat) : Int) * below := by
      rw [Int.mul_comm below, ← Int.mul_assoc, ← Int.natCast_mul, ← Nat.pow_add, Nat.sub_add_cancel hs]
    rw [e]
    exact ht
  have k1 := key top (by omega)
  have k2 := key (-top) (by omega)
  rw [ajw (Int.mul_pos h (p2 _))] at k2
  unfold nd
  rw [Int.natAbs_mul, Int.natAbs_natCast]
  have : (nw top (below * (2 ^ ag top below p : Nat))).natAbs ≤ 2 ^ (j - ag top below p) := by omega
  calc _ ≤ 2 ^ (j - ag top below p) * 2 ^ ag top below p := Nat.mul_le_mul_right _ this
    _ = 2 ^ j := by rw [← Nat.pow_add, Nat.sub_add_cancel hs]
theorem arp {top : Int} {p : Nat} (hp : 1 ≤ p) : (2 ^ p : Nat) * (nd top 1 p - top).natAbs ≤ top.natAbs := by
  by_cases hs : ag top 1 p = 0
  · unfold nd
    rw [hs]
    have : nw top (1 * ((2 ^ 0 : Nat) : Int)) = top := by
      have := ah3 (m := top) (below := 1) (by omega)
      simpa using this
    rw [this]
    simp
  · have h0 : 0 < (1 : Int) * ((2 ^ ag top 1 p : Nat) : Int) := by have := p2 (ag top 1 p); omega
    obtain ⟨a1, a2, _⟩ := ab4 top h0
    unfold nd
    rw [Int.one_mul] at *
    generalize hx : nw top ((2 ^ ag top 1 p : Nat) : Int) * ((2 ^ ag top 1 p : Nat) : Int) = x at *
    have hb : 2 ^ (ag top 1 p + p - 1) ≤ top.natAbs := by
      refine zq.mp ?_
      have e : ag top 1 p = bl top.natAbs - p := by unfold ag; simp
      omega
    have e : 2 ^ p * 2 ^ ag top 1 p = 2 * 2 ^ (ag top 1 p + p - 1) := by
      rw [← Nat.pow_add, ← Nat.pow_add_one']
      congr 1
      omega
    have h2 : 2 * (x - top).natAbs ≤ 2 ^ ag top 1 p := by omega
    have h3 : 2 ^ p * (2 * (x - top).natAbs) ≤ 2 ^ p * 2 ^ ag top 1 p := Nat.mul_le_mul_left _ h2
    rw [e] at h3
    have h4 : 2 ^ p * (2 * (x - top).natAbs) = 2 * (2 ^ p * (x - top).natAbs) := by rw [← Nat.mul_assoc, Nat.mul_comm (2 ^ p) 2, Nat.mul_assoc]
    omega
def Rep (p : Nat) (z : Int) : Prop := ∃ m j, z.natAbs = m * 2 ^ j ∧ m < 2 ^ p ∧ (j = 0 ∨ 2 ^ (p - 1) ≤ m)
theorem Rep.of_le {p m j : Nat} {z : Int} (hp : 1 ≤ p) (h : z.natAbs = m * 2 ^ j) (hm : m ≤ 2 ^ p) (hj : j = 0 ∨ 2 ^ (p - 1) ≤ m) : Rep p z := by
  by_cases e : m = 2 ^ p
  · refine ⟨2 ^ (p - 1), j + 1, ?_, Nat.pow_lt_pow_right (by omega) (by omega), .inr (Nat.le_refl _)⟩
    rw [h, e, ← Nat.pow_add, ← Nat.pow_add]
    congr 1
    omega
  · exact ⟨m, j, h, by omega, hj⟩
theorem Rep.neg {p : Nat} {z : Int} (h : Rep p z) : Rep p (-z) := by
  obtain ⟨m, j, h1, h2, h3⟩ := h
  exact ⟨m, j, by rw [Int.natAbs_neg]; exact h1, h2, h3⟩
theorem Rep.of_digits {p m s : Nat} {z : Int} (hp : 1 ≤ p) (h : z.natAbs = m * 2 ^ s) (hm : m < 2 ^ p) : Rep p z := by
  by_cases h0 : m = 0
  · exact ⟨0, 0, by rw [h, h0]; simp, Nat.two_pow_pos p, .inl rfl⟩
  · have hb : bl m ≤ p := mz.mpr hm
    have hb0 : bl m ≠ 0 := by unfold bl; rw [if_neg h0]; omega
    by_cases hs : s ≤ p - bl m
    · refine ⟨m * 2 ^ s, 0, by rw [h]; simp, ?_, .inl rfl⟩
      have := aag (n := m) (k := s) h0
      exact mz.mp (by omega)
    · refine ⟨m * 2 ^ (p - bl m), s - (p - bl m), ?_, ?_, .inr ?_⟩
      · rw [h, Nat.mul_assoc, ← Nat.pow_add]
        congr 2
        omega
      · have := aag (n := m) (k := p - bl m) h0
        exact mz.mp (by omega)
      · have := aag (n := m) (k := p - bl m) h0
        exact zq.mp (by omega)
theorem ab0 {p : Nat} {z : Int} (h : Rep p z) : nd z 1 p = z := by
  obtain ⟨m, j, h1, h2, h3⟩ := h
  have hs : ag z 1 p ≤ j := by
    unfold ag
    rw [h1]
    by_cases h0 : m = 0
    · subst h0; simp [bl]
    · simp only [Int.natAbs_one, Nat.div_one]
      rw [aag h0]
      have := mz.mpr h2
      omega
  obtain ⟨c, hc⟩ : ∃ c : Int, z = c * ((2 ^ ag z 1 p : Nat) : Int) := by
    have hd : (2 ^ ag z 1 p) ∣ z.natAbs := by
      rw [h1]
      exact Nat.dvd_trans (Nat.pow_dvd_pow 2 hs) (Nat.dvd_mul_left _ _)
    have := Int.ofNat_dvd_left.mpr hd
    obtain ⟨c, hc⟩ := this
    exact ⟨c, by rw [Int.mul_comm]; exact hc⟩
  unfold nd
  rw [Int.one_mul]
  generalize hP : ((2 ^ ag z 1 p : Nat) : Int) = P at *
  have hP0 : 0 < P := by rw [← hP]; exact p2 _
  rw [hc, ah3 hP0]
theorem aal {top below : Int} {p : Nat} (hp : 1 ≤ p) (h : 0 < below) : Rep p (nd top below p) := by
  have main : ∀ t : Int, 0 ≤ t → Rep p (nd t below p) := fun t ht => by
    have h0 : 0 < below * ((2 ^ ag t below p : Nat) : Int) := Int.mul_pos h (p2 _)
    have hn : 0 ≤ nw t (below * ((2 ^ ag t below p : Nat) : Int)) := aio h0 (by omega)
    have hfl : t.natAbs / below.natAbs < 2 ^ (bl (t.natAbs / below.natAbs)) := mz.mp (Nat.le_refl _)
    have hlt : (t.natAbs : Int) < ((2 ^ (bl (t.natAbs / below.natAbs)) : Nat) : Int) * below := by
      have := (Nat.div_lt_iff_lt_mul (k := below.natAbs) (by omega)).mp hfl
      have e : below = (below.natAbs : Int) := by omega
      rw [e]
      exact_mod_cast this
    refine Rep.of_le (m := (nw t (below * ((2 ^ ag t below p : Nat) : Int))).toNat) (j := ag t below p) hp ?_ ?_ ?_
    · unfold nd
      rw [Int.natAbs_mul, Int.natAbs_natCast]
      congr 1
      omega
    · have : nw t (below * ((2 ^ ag t below p : Nat) : Int)) ≤ ((2 ^ p : Nat) : Int) := by
        refine aix h0 ?_
        have e : ((2 ^ p : Nat) : Int) * (below * ((2 ^ ag t below p : Nat) : Int)) = ((2 ^ (p + ag t below p) : Nat) : Int) * below := by
          rw [Int.mul_comm below, ← Int.mul_assoc, ← Int.natCast_mul, ← Nat.pow_add]
        rw [e]
        have h2 : 2 ^ (bl (t.natAbs / below.natAbs)) ≤ 2 ^ (p + ag t below p) := Nat.pow_le_pow_right (by omega) (by unfold ag; omega)
        have h3 : ((2 ^ (bl (t.natAbs / below.natAbs)) : Nat) : Int) * below ≤ ((2 ^ (p + ag t below p) : Nat) : Int) * below := Int.mul_le_mul_of_nonneg_right (by omega) (by omega)
        omega
      omega
    · by_cases hs : ag t below p = 0
      · exact .inl hs
      · refine .inr ?_
        have : ((2 ^ (p - 1) : Nat) : Int) ≤ nw t (below * ((2 ^ ag t below p : Nat) : Int)) := by
          refine aio h0 ?_
          have hge : 2 ^ (p - 1 + ag t below p) ≤ t.natAbs / below.natAbs := zq.mp (by unfold ag at *; omega)
          have hge' := (Nat.le_div_iff_mul_le (show 0 < below.natAbs by omega)).mp hge
          have e : ((2 ^ (p - 1) : Nat) : Int) * (below * ((2 ^ ag t below p : Nat) : Int)) = ((2 ^ (p - 1 + ag t below p) : Nat) : Int) * below := by
            rw [Int.mul_comm below, ← Int.mul_assoc, ← Int.natCast_mul, ← Nat.pow_add]
          rw [e]
          have e2 : below = (below.natAbs : Int) := by omega
          have : ((2 ^ (p - 1 + ag t below p) : Nat) : Int) * below = ((2 ^ (p - 1 + ag t below p) * below.natAbs : Nat) : Int) := by rw [Int.natCast_mul, ← e2]
          omega
        omega
  rcases Int.lt_or_le top 0 with hl | hl
  · have := (main (-top) (by omega)).neg
    rw [ade h, Int.neg_neg] at this
    exact this
  · exact main top hl
end GB
end

section
namespace GB
open Ql90
def mag (p n : Nat) : Nat := (bl n - p) * 2 ^ (p - 1) + n / 2 ^ (bl n - p)
theorem alp {p m j : Nat} (hp : 1 ≤ p) (hm : m ≤ 2 ^ p) (hj : j = 0 ∨ 2 ^ (p - 1) ≤ m) : mag p (m * 2 ^ j) = j * 2 ^ (p - 1) + m := by
  unfold mag
  by_cases h0 : m = 0
  · subst h0
    rcases hj with hj | hj
    · subst hj; simp [bl]
    · have := Nat.two_pow_pos (p - 1); omega
  · rw [aag h0]
    by_cases e : m = 2 ^ p
    · have hb : bl m = p + 1 := by rw [e]; exact akk (Nat.le_refl _) (Nat.pow_lt_pow_right (by omega) (by omega))
      rw [hb, show p + 1 + j - p = j + 1 by omega, Nat.pow_succ, Nat.mul_comm m, Nat.mul_div_mul_left _ _ (Nat.two_pow_pos j), Nat.succ_mul, e]
      have e2 : 2 ^ p = 2 ^ (p - 1) * 2 := by rw [← Nat.pow_succ]; congr 1; omega
      rw [e2, Nat.mul_div_cancel _ (by omega)]
      omega
    · have hb : bl m ≤ p := mz.mpr (by omega)
      rcases hj with hj | hj
      · subst hj
        rw [show bl m + 0 - p = 0 by omega]; simp
      · have := zq.mpr hj
        rw [show bl m + j - p = j by omega, Nat.mul_div_cancel _ (Nat.two_pow_pos j)]
def nv (f : Form) (z : Int) : Nat := (if z < 0 then 2 ^ (f.bits - 1) else 0) + mag f.p z.natAbs
theorem ahu (f : Form) (hp : 1 ≤ f.p) (x : Dy) {M : Nat} (hmost : 2 < f.most) (hM : M + 3 < f.most + f.p)
    (h0 : (nd (x.n * (2 ^ (x.q - f.low).toNat : Nat)) ((2 ^ (f.low - x.q).toNat : Nat)) f.p).natAbs ≤ 2 ^ M) :
    f.near x = nv f (nd (x.n * (2 ^ (x.q - f.low).toNat : Nat)) ((2 ^ (f.low - x.q).toNat : Nat)) f.p) := by
  obtain ⟨n, q⟩ := x
  dsimp only at *
  generalize ha : (q - f.low).toNat = a at *
  generalize hb : (f.low - q).toNat = b at *
  obtain ⟨N, hN⟩ : ∃ N : Nat, n.natAbs = N := ⟨_, rfl⟩
  have hkey : ∃ m j : Nat, nd ((N : Int) * (2 ^ a : Nat)) ((2 ^ b : Nat) : Int) f.p = ((m * 2 ^ j : Nat) : Int) ∧ m ≤ 2 ^ f.p ∧ (j = 0 ∨ 2 ^ (f.p - 1) ≤ m) ∧
      f.near ⟨n, q⟩ = if m = 0 then 0 else if (f.most : Int) ≤ (j : Int) + 2 then f.near ⟨n, q⟩ else (if n < 0 then 2 ^ (f.bits - 1) else 0) + (j * 2 ^ (f.p - 1) + m) := by
    unfold Form.near
    dsimp only
    rw [hN]
    by_cases hk : max ((N.log2 : Int) + 1 - (f.p : Int)) (f.low - q) ≤ 0
    · -- exact
      rw [if_pos hk, if_pos hk]
      have hb0 : b = 0 := by omega
      by_cases hz : N = 0
      · refine ⟨0, 0, ?_, Nat.zero_le _, .inl rfl, ?_⟩
        · rw [hz]
          have := ab0 (p := f.p) (z := 0) ⟨0, 0, by simp, Nat.two_pow_pos _, .inl rfl⟩
          rw [hb0]
          simpa using this
        · rw [if_pos hz, if_pos rfl]
      · have hlog : bl N = N.log2 + 1 := by unfold bl; rw [if_neg hz]
        have hNp : N < 2 ^ f.p := mz.mp (by omega)
        have hex : nd ((N : Int) * (2 ^ a : Nat)) ((2 ^ b : Nat) : Int) f.p = ((N * 2 ^ a : Nat) : Int) := by
          rw [hb0]
          have := ab0 (p := f.p) (z := ((N * 2 ^ a : Nat) : Int)) (Rep.of_digits (m := N) (s := a) hp (by simp [Int.natAbs_mul, Int.natAbs_natCast]) hNp)
          simpa using this
        have hup : min ((f.p : Int) - 1 - (N.log2 : Int)) (q - f.low) = ((min (f.p - bl N) a : Nat) : Int) := by omega
        rw [hup]
        rw [if_pos (Int.natCast_nonneg _), if_pos (Int.natCast_nonneg _), Int.toNat_natCast, if_neg hz]
        generalize hu : min (f.p - bl N) a = u at *
        have hbl : bl (N * 2 ^ u) = bl N + u := aag hz
        refine ⟨N * 2 ^ u, a - u, ?_, ?_, ?_, ?_⟩
        · rw [hex, Nat.mul_assoc, ← Nat.pow_add]
          congr 3
          omega
        · exact Nat.le_of_lt (mz.mp (by omega))
        · by_cases hh : a - u = 0
          · exact .inl hh
          · exact .inr (zq.mp (by omega))
        · rw [if_neg (Nat.mul_ne_zero hz (Nat.pos_iff_ne_zero.mp (Nat.two_pow_pos u)))]
          by_cases hsm : N * 2 ^ u < 2 ^ (f.p - 1)
          · have : u = a := by
              have := mz.mpr hsm
              omega
            rw [if_pos hsm, this, Nat.sub_self, Nat.zero_mul, Nat.zero_add, ite_self]
          · rw [if_neg hsm]
            have e1 : q - (u : Int) - f.low + 1 = ((a - u + 1 : Nat) : Int) := by omega
            rw [e1, Int.toNat_natCast]
            by_cases hov : (f.most : Int) ≤ ((a - u : Nat) : Int) + 2
            · rw [if_pos hov]
            · rw [if_neg hov, if_neg (by omega), Nat.succ_mul]
              congr 1
              omega
    · rw [if_neg hk, if_neg hk]
      by_cases h1 : f.low - q ≤ (N.log2 : Int) + 1 - (f.p : Int)
      · -- as many digits as there are
        have hz : N ≠ 0 := by
          intro e
          subst e
          have : Nat.log2 0 = 0 := Nat.log2_zero
          omega
        have hlog : bl N = N.log2 + 1 := by unfold bl; rw [if_neg hz]
        obtain ⟨k, hkk⟩ : ∃ k : Nat, bl N = f.p + k := ⟨bl N - f.p, by omega⟩
        have hmax : max ((N.log2 : Int) + 1 - (f.p : Int)) (f.low - q) = (k : Int) := by omega
        rw [hmax, Int.toNat_natCast]
        have hge : 2 ^ (f.p - 1 + k) ≤ N := zq.mp (by omega)
        have hlt : N < 2 ^ (f.p + k) := mz.mp (by omega)
        have hm1 : 2 ^ (f.p - 1) ≤ even N k := ar5 (by rw [← Nat.pow_add]; exact hge)
        have hm2 : even N k ≤ 2 ^ f.p := ani (by rw [← Nat.pow_add]; exact Nat.le_of_lt hlt)
        obtain ⟨j, hj⟩ : ∃ j : Nat, q + (k : Int) - f.low = (j : Int) := ⟨(q + (k : Int) - f.low).toNat, by omega⟩
        have hbj : b + j = k + a := by omega
        have hsp : ag ((N : Int) * (2 ^ a : Nat)) ((2 ^ b : Nat) : Int) f.p = j := by
          unfold ag
          rw [Int.natAbs_mul, Int.natAbs_natCast, Int.natAbs_natCast, Int.natAbs_natCast, akf, aag hz]
          omega
        have hnd : nd ((N : Int) * (2 ^ a : Nat)) ((2 ^ b : Nat) : Int) f.p = ((even N k * 2 ^ j : Nat) : Int) := by
          unfold nd
          have e : ((2 ^ b : Nat) : Int) * ((2 ^ j : Nat) : Int) = ((2 ^ k : Nat) : Int) * ((2 ^ a : Nat) : Int) := by
            rw [← Int.natCast_mul, ← Int.natCast_mul, ← Nat.pow_add, ← Nat.pow_add, hbj]
          rw [hsp, e, xm (p2 k) (p2 a), ad1, ← Int.natCast_mul]
        generalize hme : even N k = m at *
        have hm0 : m ≠ 0 := by have := Nat.two_pow_pos (f.p - 1); omega
        refine ⟨m, j, hnd, hm2, .inr hm1, ?_⟩
        rw [if_neg hm0, if_neg hm0]
        by_cases hmp : m = 2 ^ f.p
        · have hl2 : m.log2 = f.p := by rw [hmp, Nat.log2_two_pow]
          have hup : ¬ (0 ≤ min ((f.p : Int) - 1 - (m.log2 : Int)) (q + (k : Int) - f.low)) := by omega
          rw [if_neg hup, if_neg hup]
          have hhalf : m / 2 = 2 ^ (f.p - 1) := by
            rw [hmp, show 2 ^ f.p = 2 ^ (f.p - 1) * 2 by rw [← Nat.pow_succ]; congr 1; omega, Nat.mul_div_cancel _ (by omega)]
          rw [hhalf, if_neg (Nat.lt_irrefl _)]
          have e1 : q + (k : Int) + 1 - f.low + 1 = ((j + 2 : Nat) : Int) := by omega
          rw [e1, Int.toNat_natCast]
          by_cases hov : (f.most : Int) ≤ (j : Int) + 2
          · rw [if_pos hov]
          · rw [if_neg hov, if_neg (by omega), Nat.add_mul, hmp]
            have e2 : 2 ^ f.p = 2 * 2 ^ (f.p - 1) := by rw [← Nat.pow_add_one']; congr 1; omega
            omega
        · have hbm : bl m = m.log2 + 1 := by unfold bl; rw [if_neg hm0]
          have hb1 : bl m ≤ f.p := mz.mpr (by omega)
          have hb2 := zq.mpr hm1
          have hup : min ((f.p : Int) - 1 - (m.log2 : Int)) (q + (k : Int) - f.low) = 0 := by omega
          rw [hup, if_pos (Int.le_refl 0), if_pos (Int.le_refl 0), Int.toNat_zero, Nat.pow_zero, Nat.mul_one, if_neg (by omega)]
          have e1 : q + (k : Int) - 0 - f.low + 1 = ((j + 1 : Nat) : Int) := by omega
          rw [e1, Int.toNat_natCast]
          by_cases hov : (f.most : Int) ≤ (j : Int) + 2
          · rw [if_pos hov]
          · rw [if_neg hov, if_neg (by omega), Nat.succ_mul]
            congr 1
            omega
      · -- the smallest ones
        have hmax : max ((N.log2 : Int) + 1 - (f.p : Int)) (f.low - q) = (b : Int) := by omega
        have ha0 : a = 0 := by omega
        rw [hmax, Int.toNat_natCast]
        have hlt : N < 2 ^ (f.p + b) := by
          refine mz.mp ?_
          by_cases hz : N = 0
          · subst hz; simp [bl]
          · have hlog : bl N = N.log2 + 1 := by unfold bl; rw [if_neg hz]
            omega
        have hm2 : even N b ≤ 2 ^ f.p := ani (by rw [← Nat.pow_add]; exact Nat.le_of_lt hlt)
        have hsp : ag ((N : Int) * (2 ^ a : Nat)) ((2 ^ b : Nat) : Int) f.p = 0 := by
          unfold ag
          rw [ha0, Int.natAbs_mul, Int.natAbs_natCast, Int.natAbs_natCast, Int.natAbs_natCast, akf, Nat.pow_zero, Nat.mul_one]
          have := mz.mpr hlt
          omega
        have hnd : nd ((N : Int) * (2 ^ a : Nat)) ((2 ^ b : Nat) : Int) f.p = ((even N b * 2 ^ 0 : Nat) : Int) := by
          unfold nd
          rw [hsp, ha0]
          simp only [Nat.pow_zero, Int.natCast_one, Int.mul_one, Nat.mul_one]
          exact ad1 N b
        generalize hme : even N b = m at *
        refine ⟨m, 0, hnd, hm2, .inl rfl, ?_⟩
        by_cases hm0 : m = 0
        · rw [if_pos hm0, if_pos hm0]
        rw [if_neg hm0, if_neg hm0]
        by_cases hmp : m = 2 ^ f.p
        · have hl2 : m.log2 = f.p := by rw [hmp, Nat.log2_two_pow]
          have hup : ¬ (0 ≤ min ((f.p : Int) - 1 - (m.log2 : Int)) (q + (b : Int) - f.low)) := by omega
          rw [if_neg hup, if_neg hup]
          have hhalf : m / 2 = 2 ^ (f.p - 1) := by
            rw [hmp, show 2 ^ f.p = 2 ^ (f.p - 1) * 2 by rw [← Nat.pow_succ]; congr 1; omega, Nat.mul_div_cancel _ (by omega)]
          rw [hhalf, if_neg (Nat.lt_irrefl _)]
          have e1 : q + (b : Int) + 1 - f.low + 1 = ((0 + 2 : Nat) : Int) := by omega
          rw [e1, Int.toNat_natCast]
          by_cases hov : (f.most : Int) ≤ ((0 : Nat) : Int) + 2
          · rw [if_pos hov]
          · rw [if_neg hov, if_neg (by omega), Nat.add_mul, hmp]
            have e2 : 2 ^ f.p = 2 * 2 ^ (f.p - 1) := by rw [← Nat.pow_add_one']; congr 1; omega
            omega
        · have hbm : bl m = m.log2 + 1 := by unfold bl; rw [if_neg hm0]
          have hb1 : bl m ≤ f.p := mz.mpr (by omega)
          have hup : min ((f.p : Int) - 1 - (m.log2 : Int)) (q + (b : Int) - f.low) = 0 := by omega
          rw [hup, if_pos (Int.le_refl 0), if_pos (Int.le_refl 0), Int.toNat_zero, Nat.pow_zero, Nat.mul_one]
          by_cases hsm : m < 2 ^ (f.p - 1)
          · rw [if_pos hsm]
            by_cases hov : (f.most : Int) ≤ ((0 : Nat) : Int) + 2
            · rw [if_pos hov]
            · rw [if_neg hov, Nat.zero_mul, Nat.zero_add]
          · rw [if_neg hsm]
            have e1 : q + (b : Int) - 0 - f.low + 1 = ((0 + 1 : Nat) : Int) := by omega
            rw [e1, Int.toNat_natCast]
            by_cases hov : (f.most : Int) ≤ ((0 : Nat) : Int) + 2
            · rw [if_pos hov]
            · rw [if_neg hov, if_neg (by omega), Nat.succ_mul]
              congr 1
              omega
  obtain ⟨m, j, h1, h2, h3, h4⟩ := hkey
  have hsg : nd (n * (2 ^ a : Nat)) ((2 ^ b : Nat) : Int) f.p = if n < 0 then -((m * 2 ^ j : Nat) : Int) else ((m * 2 ^ j : Nat) : Int) := by
    by_cases hn : n < 0
    · rw [if_pos hn, ← h1, ← ade (p2 b), ← Int.neg_mul]
      congr 2
      omega
    · rw [if_neg hn, ← h1]
      congr 2
      omega
  have habs : (nd (n * (2 ^ a : Nat)) ((2 ^ b : Nat) : Int) f.p).natAbs = m * 2 ^ j := by
    rw [hsg]
    split
    · rw [Int.natAbs_neg, Int.natAbs_natCast]
    · rw [Int.natAbs_natCast]
  have hov : ¬ ((f.most : Int) ≤ (j : Int) + 2) ∨ m = 0 := by
    by_cases hm0 : m = 0
    · exact .inr hm0
    · refine .inl ?_
      rw [habs] at h0
      rcases h3 with h3 | h3
      · subst h3
        omega
      · have : 2 ^ (f.p - 1 + j) ≤ 2 ^ M := by rw [Nat.pow_add]; exact Nat.le_trans (Nat.mul_le_mul_right _ h3) h0
        have := (Nat.pow_le_pow_iff_right (by omega)).mp this
        omega
  unfold nv
  rw [habs, alp hp h2 h3, h4]
  rcases hov with hov | hov
  · rw [if_neg hov]
    by_cases hm0 : m = 0
    · rcases h3 with h3 | h3
      · rw [if_pos hm0, hsg, hm0, h3]
        simp
      · have := Nat.two_pow_pos (f.p - 1); omega
    · rw [if_neg hm0, hsg]
      have hpos : 0 < m * 2 ^ j := Nat.mul_pos (by omega) (Nat.two_pow_pos j)
      by_cases hn : n < 0
      · rw [if_pos hn, if_pos hn, if_pos (by omega)]
      · rw [if_neg hn, if_neg hn, if_neg (by omega)]
  · rcases h3 with h3 | h3
    · rw [if_pos hov, hsg, hov, h3]
      simp
    · have := Nat.two_pow_pos (f.p - 1); omega
end GB
end

section
namespace GB
open Ql90
def stf (f : Form) (x : Nat) : Int := (f.of x).n * ((2 ^ ((f.of x).q - f.low).toNat : Nat) : Int)
theorem of_q (f : Form) (x : Nat) : f.low ≤ (f.of x).q := by
  unfold Form.of
  dsimp only
  omega
structure aez (f : Form) : Prop where
  p : 1 ≤ f.p
  w : f.p + 2 ≤ f.bits
theorem dOk : aez DOUBLE := ⟨by decide, by decide⟩
theorem sOk : aez SINGLE := ⟨by decide, by decide⟩
theorem aez.most {f : Form} (h : aez f) : 2 < f.most := by
  unfold Form.most
  have := h.w
  have : 2 ^ 2 ≤ 2 ^ (f.bits - f.p) := Nat.pow_le_pow_right (by omega) (by omega)
  omega
theorem aaq {f : Form} (hf : aez f) {z : Int} (hr : Rep f.p z) {M : Nat} (hM : M + 3 < f.most + f.p) (hz : z.natAbs ≤ 2 ^ M) :
    stf f (nv f z) = z ∧ nv f z < 2 ^ f.bits ∧ f.exp (nv f z) + 1 < f.most ∧ (2 ^ (f.bits - 1) ≤ nv f z ↔ z < 0) := by
  obtain ⟨m, j, h1, h2, h3⟩ := hr
  have hp := hf.p
  have hw := hf.w
  have hU : 0 < 2 ^ (f.p - 1) := Nat.two_pow_pos _
  have eP : 2 ^ f.p = 2 * 2 ^ (f.p - 1) := by rw [← Nat.pow_add_one']; congr 1; omega
  have eE : 2 ^ (f.bits - 1) = 2 ^ (f.p - 1) * 2 ^ (f.bits - f.p) := by rw [← Nat.pow_add]; congr 1; omega
  have eB : 2 ^ f.bits = 2 * 2 ^ (f.bits - 1) := by rw [← Nat.pow_add_one']; congr 1; omega
  have hmo : f.most + 1 = 2 ^ (f.bits - f.p) := by
    unfold Form.most
    have := Nat.two_pow_pos (f.bits - f.p)
    omega
  have hj : j + 2 < f.most := by
    have := hf.most
    rcases h3 with h3 | h3
    · omega
    · rw [h1] at hz
      have : 2 ^ (f.p - 1 + j) ≤ 2 ^ M := by rw [Nat.pow_add]; exact Nat.le_trans (Nat.mul_le_mul_right _ h3) hz
      have := (Nat.pow_le_pow_iff_right (by omega)).mp this
      omega
  have hmag : mag f.p z.natAbs = j * 2 ^ (f.p - 1) + m := by rw [h1]; exact alp hp (Nat.le_of_lt h2) h3
  obtain ⟨e, r, hr, hx, hv, he⟩ : ∃ e r : Nat, r < 2 ^ (f.p - 1) ∧ mag f.p z.natAbs = e * 2 ^ (f.p - 1) + r ∧ z.natAbs = (r + if e = 0 then 0 else 2 ^ (f.p - 1)) * 2 ^ (max e 1 - 1) ∧ e + 1 < f.most := by
    by_cases hs : m < 2 ^ (f.p - 1)
    · have : j = 0 := by omega
      subst this
      exact ⟨0, m, hs, by rw [hmag], by rw [h1]; simp, by have := hf.most; omega⟩
    · refine ⟨j + 1, m - 2 ^ (f.p - 1), by omega, by rw [hmag, Nat.succ_mul]; omega, ?_, by omega⟩
      rw [if_neg (by omega), h1, show max (j + 1) 1 - 1 = j by omega]
      congr 1
      omega
  have hlt : e * 2 ^ (f.p - 1) + r < 2 ^ (f.bits - 1) := by
    have : (e + 1) * 2 ^ (f.p - 1) ≤ 2 ^ (f.bits - f.p) * 2 ^ (f.p - 1) := Nat.mul_le_mul_right _ (by omega)
    rw [Nat.succ_mul] at this
    rw [eE, Nat.mul_comm (2 ^ (f.p - 1)) (2 ^ (f.bits - f.p))]
    omega
  obtain ⟨sg, hsg⟩ : ∃ sg : Nat, sg = if z < 0 then 1 else 0 := ⟨_, rfl⟩
  have hbits : nv f z = (sg * 2 ^ (f.bits - f.p) + e) * 2 ^ (f.p - 1) + r := by
    unfold nv
    rw [hx, hsg, Nat.add_mul, eE]
    split
    · rw [Nat.one_mul, Nat.mul_comm (2 ^ (f.p - 1)), Nat.add_assoc]
    · rw [Nat.zero_mul, Nat.zero_mul, Nat.add_assoc]
  have hbits2 : nv f z = sg * 2 ^ (f.bits - 1) + (e * 2 ^ (f.p - 1) + r) := by
    unfold nv
    rw [hx, hsg]
    split
    · rw [Nat.one_mul]
    · rw [Nat.zero_mul]
  have hmod : nv f z % 2 ^ (f.p - 1) = r := by
    rw [hbits, Nat.mul_comm, Nat.mul_add_mod, Nat.mod_eq_of_lt hr]
  have hexp : f.exp (nv f z) = e := by
    unfold Form.exp
    rw [hbits, Nat.mul_comm _ (2 ^ (f.p - 1)), Nat.mul_add_div hU, Nat.div_eq_of_lt hr, Nat.add_zero, Nat.mul_comm sg, Nat.mul_add_mod, Nat.mod_eq_of_lt (by omega)]
  have hsign : 2 ^ (f.bits - 1) ≤ nv f z ↔ z < 0 := by
    rw [hbits2, hsg]
    by_cases hn : z < 0
    · rw [if_pos hn]
      exact ⟨fun _ => hn, fun _ => by omega⟩
    · rw [if_neg hn]
      exact ⟨fun _ => by omega, fun _ => by omega⟩
  refine ⟨?_, ?_, by omega, hsign⟩
  · unfold stf Form.of
    dsimp only
    rw [hmod, hexp]
    have e1 : (f.low + ((max e 1 : Nat) : Int) - 1 - f.low).toNat = max e 1 - 1 := by omega
    rw [e1]
    by_cases hn : z < 0
    · rw [if_pos (hsign.mpr hn), Int.neg_mul, ← Int.natCast_mul, ← hv]
      omega
    · rw [if_neg (fun h => hn (hsign.mp h)), ← Int.natCast_mul, ← hv]
      omega
  · rw [hbits2, hsg, eB]
    split <;> omega
def Is (f : Form) (x : Dy) (top below : Int) : Prop := 0 < below ∧ ∃ K : Nat, 0 ≤ x.q - f.low + K ∧ top * ((2 ^ K : Nat) : Int) = x.n * ((2 ^ (x.q - f.low + K).toNat : Nat) : Int) * below
theorem Is.more {f : Form} {x : Dy} {top below : Int} {K : Nat} (h0 : 0 ≤ x.q - f.low + K) (h : top * ((2 ^ K : Nat) : Int) = x.n * ((2 ^ (x.q - f.low + K).toNat : Nat) : Int) * below) (d : Nat) :
    0 ≤ x.q - f.low + ((K + d : Nat) : Int) ∧ top * ((2 ^ (K + d) : Nat) : Int) = x.n * ((2 ^ (x.q - f.low + ((K + d : Nat) : Int)).toNat : Nat) : Int) * below := by
  refine ⟨by omega, ?_⟩
  have e : (x.q - f.low + ((K + d : Nat) : Int)).toNat = (x.q - f.low + K).toNat + d := by omega
  rw [e, Nat.pow_add, Nat.pow_add, Int.natCast_mul, Int.natCast_mul, ← Int.mul_assoc, h]
  rw [← Int.mul_assoc, Int.mul_assoc, Int.mul_assoc, Int.mul_assoc, Int.mul_assoc, Int.mul_comm below]
theorem Is.near {f : Form} (hf : aez f) {x : Dy} {top below : Int} (h : Is f x top below) {M : Nat} (hM : M + 3 < f.most + f.p) (hz : (nd top below f.p).natAbs ≤ 2 ^ M) : f.near x = nv f (nd top below f.p) := by
  obtain ⟨hb, K, h0, h1⟩ := h
  have e : nd top below f.p = nd (x.n * ((2 ^ (x.q - f.low).toNat : Nat) : Int)) ((2 ^ (f.low - x.q).toNat : Nat) : Int) f.p := by
    refine alg hb (p2 _) ?_
    have hc : ∀ c : Nat, c ≠ 0 → ∀ u v : Int, u * (c : Int) = v * (c : Int) → u = v := fun c hc u v => Int.eq_of_mul_eq_mul_right (by omega)
    rcases Int.lt_or_le x.q f.low with hl | hl
    · -- the steps are coarser
      refine hc (2 ^ (K - (f.low - x.q).toNat)) (Nat.pos_iff_ne_zero.mp (Nat.two_pow_pos _)) _ _ ?_
      have e1 : (x.q - f.low).toNat = 0 := by omega
      have e2 : (x.q - f.low + K).toNat = K - (f.low - x.q).toNat := by omega
      rw [e1, Int.mul_assoc, ← Int.natCast_mul, ← Nat.pow_add, show (f.low - x.q).toNat + (K - (f.low - x.q).toNat) = K by omega, h1, e2]
      simp only [Nat.pow_zero, Int.natCast_one, Int.mul_one]
      rw [Int.mul_assoc, Int.mul_comm _ below, ← Int.mul_assoc]
    · refine hc (2 ^ K) (Nat.pos_iff_ne_zero.mp (Nat.two_pow_pos _)) _ _ ?_
      have e1 : (f.low - x.q).toNat = 0 := by omega
      have e2 : (x.q - f.low + K).toNat = (x.q - f.low).toNat + K := by omega
      rw [e1]
      simp only [Nat.pow_zero, Int.natCast_one, Int.mul_one]
      rw [h1, e2, Nat.pow_add, Int.natCast_mul, Int.mul_assoc, Int.mul_assoc, Int.mul_assoc, Int.mul_assoc, Int.mul_comm below]
  rw [e] at hz ⊢
  exact ahu f hf.p x hf.most hM hz
theorem Is.of (f : Form) (x : Nat) : Is f (f.of x) (stf f x) 1 := by
  refine ⟨by omega, 0, by have := of_q f x; omega, ?_⟩
  simp [stf]
theorem Is.neg {f : Form} {x : Dy} {t b : Int} (h : Is f x t b) : Is f x.neg (-t) b := by
  obtain ⟨hb, K, h0, h1⟩ := h
  refine ⟨hb, K, h0, ?_⟩
  show -t * _ = -x.n * _ * b
  rw [Int.neg_mul, Int.neg_mul, Int.neg_mul]
  congr 1
theorem Is.add {f : Form} {x y : Dy} {t b u c : Int} (hx : Is f x t b) (hy : Is f y u c) : Is f (x.add y) (t * c + u * b) (b * c) := by
  obtain ⟨hb, K, h0, h1⟩ := hx
  obtain ⟨hc, L, g0, g1⟩ := hy
  obtain ⟨h0, h1⟩ := Is.more h0 h1 L
  obtain ⟨g0, g1⟩ := Is.more g0 g1 K
  rw [Nat.add_comm L K] at g0 g1
  generalize K + L = N at *
  refine ⟨Int.mul_pos hb hc, N, ?_, ?_⟩
  · show 0 ≤ min x.q y.q - f.low + N
    omega
  · show (t * c + u * b) * ((2 ^ N : Nat) : Int) = (shl x.n (x.q - min x.q y.q) + shl y.n (y.q - min x.q y.q)) * ((2 ^ (min x.q y.q - f.low + N).toNat : Nat) : Int) * (b * c)
    unfold shl
    rw [Int.add_mul, Int.add_mul, Int.add_mul]
    have ex : (x.q - min x.q y.q).toNat + (min x.q y.q - f.low + N).toNat = (x.q - f.low + N).toNat := by omega
    have ey : (y.q - min x.q y.q).toNat + (min x.q y.q - f.low + N).toNat = (y.q - f.low + N).toNat := by omega
    rw [Int.mul_assoc x.n, ← Int.natCast_mul, ← Nat.pow_add, ex, Int.mul_assoc y.n, ← Int.natCast_mul, ← Nat.pow_add, ey]
    have a1 : t * c * ((2 ^ N : Nat) : Int) = x.n * ((2 ^ (x.q - f.low + N).toNat : Nat) : Int) * (b * c) := by
      rw [Int.mul_assoc, Int.mul_comm c, ← Int.mul_assoc, h1, Int.mul_assoc]
    have a2 : u * b * ((2 ^ N : Nat) : Int) = y.n * ((2 ^ (y.q - f.low + N).toNat : Nat) : Int) * (b * c) := by
      rw [Int.mul_assoc, Int.mul_comm b, ← Int.mul_assoc, g1, Int.mul_assoc, Int.mul_comm c]
    rw [a1, a2]
theorem Is.mul {f : Form} {x y : Dy} {t b u c : Int} (hl : f.low ≤ 0) (hx : Is f x t b) (hy : Is f y u c) : Is f (x.mul y) (t * u) (b * c * ((2 ^ (-f.low).toNat : Nat) : Int)) := by
  obtain ⟨hb, K, h0, h1⟩ := hx
  obtain ⟨hc, L, g0, g1⟩ := hy
  refine ⟨Int.mul_pos (Int.mul_pos hb hc) (p2 _), K + L + (-f.low).toNat, ?_, ?_⟩
  · show 0 ≤ x.q + y.q - f.low + _
    omega
  · show t * u * _ = x.n * y.n * ((2 ^ (x.q + y.q - f.low + ((K + L + (-f.low).toNat : Nat) : Int)).toNat : Nat) : Int) * _
    have e : (x.q + y.q - f.low + ((K + L + (-f.low).toNat : Nat) : Int)).toNat = (x.q - f.low + K).toNat + (y.q - f.low + L).toNat := by omega
    rw [e, Nat.pow_add, Nat.pow_add, Nat.pow_add]
    simp only [Int.natCast_mul]
    generalize ((2 ^ (x.q - f.low + K).toNat : Nat) : Int) = A at *
    generalize ((2 ^ (y.q - f.low + L).toNat : Nat) : Int) = B at *
    generalize ((2 ^ K : Nat) : Int) = P at *
    generalize ((2 ^ L : Nat) : Int) = Q at *
    generalize ((2 ^ (-f.low).toNat : Nat) : Int) = S at *
    calc t * u * (P * Q * S) = (t * P) * (u * Q) * S := by simp only [Int.mul_comm, Int.mul_left_comm]
      _ = (x.n * A * b) * (y.n * B * c) * S := by rw [h1, g1]
      _ = x.n * y.n * (A * B) * (b * c * S) := by simp only [Int.mul_comm, Int.mul_left_comm]
end GB
end

section
namespace GB
open Ql90
abbrev st (x : Nat) : Int := stf DOUBLE x
abbrev DB (z : Int) : Nat := nv DOUBLE z
abbrev SB (z : Int) : Nat := nv SINGLE z
def Good (z : Int) : Prop := Rep 53 z ∧ z.natAbs ≤ 2 ^ 2000
theorem dM : 2000 + 3 < DOUBLE.most + DOUBLE.p := by decide
theorem sM : 274 + 3 < SINGLE.most + SINGLE.p := by decide
theorem Good.st {z : Int} (h : Good z) : st (DB z) = z := (aaq dOk h.1 dM h.2).1
theorem Good.lt {z : Int} (h : Good z) : DB z < 2 ^ 64 := (aaq dOk h.1 dM h.2).2.1
theorem Good.exp {z : Int} (h : Good z) : DOUBLE.exp (DB z) ≤ 2045 := by
  have := (aaq dOk h.1 dM h.2).2.2.1
  have e : DOUBLE.most = 2047 := by decide
  unfold DB
  omega
theorem aae {top below : Int} (h : 0 < below) (hz : (nd top below 53).natAbs ≤ 2 ^ 2000) : Good (nd top below 53) := ⟨aal (by decide) h, hz⟩
theorem dlow : DOUBLE.low = -1074 := by decide
theorem slow : SINGLE.low = -149 := by decide
theorem afo {x : Dy} {top below : Int} (h : Is DOUBLE x top below) (hz : (nd top below 53).natAbs ≤ 2 ^ 2000) : dbl x = DB (nd top below 53) := h.near dOk dM hz
theorem akg {x y : Nat} (hz : (nd (st x + st y) 1 53).natAbs ≤ 2 ^ 2000) : plus x y = DB (nd (st x + st y) 1 53) := by
  have h := (Is.of DOUBLE x).add (Is.of DOUBLE y)
  rw [Int.mul_one, Int.mul_one, Int.mul_one] at h
  exact afo h hz
theorem ado {x y : Nat} (hz : (nd (st x - st y) 1 53).natAbs ≤ 2 ^ 2000) : minus x y = DB (nd (st x - st y) 1 53) := by
  have h := (Is.of DOUBLE x).add (Is.of DOUBLE y).neg
  rw [Int.mul_one, Int.mul_one, Int.mul_one, ← Int.sub_eq_add_neg] at h
  exact afo h hz
theorem arf {x y : Nat} (hz : (nd (st x * st y) ((2 ^ 1074 : Nat) : Int) 53).natAbs ≤ 2 ^ 2000) : times x y = DB (nd (st x * st y) ((2 ^ 1074 : Nat) : Int) 53) := by
  have h := (Is.of DOUBLE x).mul (by rw [dlow]; decide) (Is.of DOUBLE y)
  rw [Int.mul_one, Int.one_mul, show (-DOUBLE.low).toNat = 1074 by rw [dlow]; rfl] at h
  exact afo h hz
theorem agr {a b c : Nat} (hz : (nd (st a * st b + st c * ((2 ^ 1074 : Nat) : Int)) ((2 ^ 1074 : Nat) : Int) 53).natAbs ≤ 2 ^ 2000) :
    fused a b c = DB (nd (st a * st b + st c * ((2 ^ 1074 : Nat) : Int)) ((2 ^ 1074 : Nat) : Int) 53) := by
  have h := ((Is.of DOUBLE a).mul (by rw [dlow]; decide) (Is.of DOUBLE b)).add (Is.of DOUBLE c)
  rw [show (-DOUBLE.low).toNat = 1074 by rw [dlow]; rfl] at h
  simp only [Int.one_mul, Int.mul_one] at h
  exact afo h hz
theorem apl {top : Int} {p s : Nat} (hp : 1 ≤ p) : nd (top * ((2 ^ s : Nat) : Int)) 1 p = nd top 1 p * ((2 ^ s : Nat) : Int) := by
  by_cases h0 : ag top 1 p = 0
  · have hb : bl top.natAbs ≤ p := by
      unfold ag at h0
      simp only [Int.natAbs_one, Nat.div_one] at h0
      omega
    have hlt := mz.mp hb
    rw [ab0 (z := top) (Rep.of_digits (s := 0) hp (by simp) hlt), ab0 (Rep.of_digits (m := top.natAbs) (s := s) hp (by rw [Int.natAbs_mul, Int.natAbs_natCast]) hlt)]
  · have hne : top.natAbs ≠ 0 := by
      intro e
      apply h0
      unfold ag
      rw [e]
      simp [bl]
    have hs : ag (top * ((2 ^ s : Nat) : Int)) 1 p = ag top 1 p + s := by
      unfold ag at *
      simp only [Int.natAbs_one, Nat.div_one] at *
      rw [Int.natAbs_mul, Int.natAbs_natCast, aag hne]
      omega
    unfold nd
    rw [hs, Int.one_mul, Int.one_mul, Nat.pow_add, Int.natCast_mul, xm (p2 _) (p2 _), Int.mul_assoc]
theorem aqw {raw : Int} (hz : (nd raw 1 53).natAbs ≤ 2 ^ 900) : dbl (whole raw) = DB (nd raw 1 53 * ((2 ^ 1074 : Nat) : Int)) ∧ Good (nd raw 1 53 * ((2 ^ 1074 : Nat) : Int)) := by
  have hb : (nd raw 1 53 * ((2 ^ 1074 : Nat) : Int)).natAbs ≤ 2 ^ 2000 := by
    rw [Int.natAbs_mul, Int.natAbs_natCast]
    exact Nat.le_trans (Nat.mul_le_mul_right _ hz) (by rw [← Nat.pow_add]; exact Nat.pow_le_pow_right (by decide) (by decide))
  have h : Is DOUBLE (whole raw) (raw * ((2 ^ 1074 : Nat) : Int)) 1 := by
    refine ⟨by decide, 0, (by show (0 : Int) ≤ 0 - DOUBLE.low + ((0 : Nat) : Int); rw [dlow]; decide), ?_⟩
    show raw * _ * _ = raw * ((2 ^ (0 - DOUBLE.low + ((0 : Nat) : Int)).toNat : Nat) : Int) * 1
    rw [dlow, show ((0 : Int) - -1074 + ((0 : Nat) : Int)).toNat = 1074 by rfl, Nat.pow_zero, Int.natCast_one]
  have e := apl (top := raw) (p := 53) (s := 1074) (by decide)
  rw [← e] at hb ⊢
  exact ⟨afo h hb, aae (by decide) hb⟩
theorem ahd (x : Nat) : rounded x = nw (st x) ((2 ^ 1074 : Nat) : Int) := by
  have hq := of_q DOUBLE x
  rw [dlow] at hq
  have main : ∀ (n : Int) (q : Int), -1074 ≤ q → (if n < 0 then -(((if 0 ≤ q then n.natAbs * 2 ^ q.toNat else even n.natAbs (-q).toNat) : Nat) : Int) else (((if 0 ≤ q then n.natAbs * 2 ^ q.toNat else even n.natAbs (-q).toNat) : Nat) : Int)) = nw (n * ((2 ^ (q + 1074).toNat : Nat) : Int)) ((2 ^ 1074 : Nat) : Int) := by
    intro n q hq
    have pos : ∀ N : Nat, (((if 0 ≤ q then N * 2 ^ q.toNat else even N (-q).toNat) : Nat) : Int) = nw ((N : Int) * ((2 ^ (q + 1074).toNat : Nat) : Int)) ((2 ^ 1074 : Nat) : Int) := fun N => by
      by_cases h0 : 0 ≤ q
      · rw [if_pos h0, show (q + 1074).toNat = q.toNat + 1074 by omega, Nat.pow_add, Int.natCast_mul (2 ^ q.toNat), ← Int.mul_assoc, ah3 (p2 _), Int.natCast_mul]
      · rw [if_neg h0]
        have e : ((2 ^ 1074 : Nat) : Int) = ((2 ^ (-q).toNat : Nat) : Int) * ((2 ^ (q + 1074).toNat : Nat) : Int) := by
          rw [← Int.natCast_mul, ← Nat.pow_add, show (-q).toNat + (q + 1074).toNat = 1074 by omega]
        rw [e, xm (p2 _) (p2 _), ad1]
    by_cases hn : n < 0
    · rw [if_pos hn, pos, ← ajw (p2 _), ← Int.neg_mul]
      congr 2
      omega
    · rw [if_neg hn, pos]
      congr 2
      omega
  unfold rounded
  dsimp only
  have := main (val x).n (val x).q hq
  rw [this]
  show _ = nw (stf DOUBLE x) _
  unfold stf
  rw [dlow]
  rfl
theorem atn (q : Int) (h : -1074 ≤ q) : (q - -149 + ((925 : Nat) : Int)).toNat = (q - -1074).toNat := by omega
theorem aor {x : Nat} (hz : (nd (st x) ((2 ^ 925 : Nat) : Int) 24).natAbs ≤ 2 ^ 274) : single x = SB (nd (st x) ((2 ^ 925 : Nat) : Int) 24) := by
  have hq := of_q DOUBLE x
  have h : Is SINGLE (val x) (st x) ((2 ^ 925 : Nat) : Int) := by
    refine ⟨p2 _, 925, ?_, ?_⟩
    · rw [slow]
      rw [dlow] at hq
      show 0 ≤ (DOUBLE.of x).q - -149 + _
      omega
    · show stf DOUBLE x * _ = (DOUBLE.of x).n * ((2 ^ ((DOUBLE.of x).q - SINGLE.low + ((925 : Nat) : Int)).toNat : Nat) : Int) * _
      unfold stf
      rw [slow, dlow, atn _ (by rw [dlow] at hq; exact hq)]
  exact h.near sOk sM hz
theorem akw {z : Int} (hr : Rep 24 z) (hz : z.natAbs ≤ 2 ^ 274) : ofSingle (SB z) = DB (z * ((2 ^ 925 : Nat) : Int)) ∧ Good (z * ((2 ^ 925 : Nat) : Int)) := by
  obtain ⟨h1, _⟩ := aaq sOk hr sM hz
  have hq := of_q SINGLE (SB z)
  have h : Is DOUBLE (SINGLE.of (SB z)) (z * ((2 ^ 925 : Nat) : Int)) 1 := by
    refine ⟨by decide, 0, ?_, ?_⟩
    · rw [dlow]
      rw [slow] at hq
      omega
    · have e : ((SINGLE.of (SB z)).q - DOUBLE.low + ((0 : Nat) : Int)).toNat = ((SINGLE.of (SB z)).q - SINGLE.low).toNat + 925 := by
        rw [dlow, slow]
        rw [slow] at hq
        omega
      rw [e, Nat.pow_add, Int.natCast_mul, ← Int.mul_assoc]
      unfold stf at h1
      rw [h1]
      simp
  have hrep : Rep 53 (z * ((2 ^ 925 : Nat) : Int)) := by
    obtain ⟨m, j, a, b, _⟩ := hr
    refine Rep.of_digits (m := m) (s := j + 925) (by decide) ?_ (Nat.lt_trans b (by decide))
    rw [Int.natAbs_mul, Int.natAbs_natCast, a, Nat.pow_add, Nat.mul_assoc]
  have hb : (z * ((2 ^ 925 : Nat) : Int)).natAbs ≤ 2 ^ 2000 := by
    rw [Int.natAbs_mul, Int.natAbs_natCast]
    exact Nat.le_trans (Nat.mul_le_mul_right _ hz) (by rw [← Nat.pow_add]; exact Nat.pow_le_pow_right (by decide) (by decide))
  have e := ab0 hrep
  refine ⟨?_, hrep, hb⟩
  have := afo h (by rw [e]; exact hb)
  rw [e] at this
  exact this
def stp (x : Nat) : Int :=
  if x / 2 ^ 63 = 1 then -(if 0 < x / 2 ^ 52 % 2048 then ((x % 2 ^ 52 + 2 ^ 52) * 2 ^ (x / 2 ^ 52 % 2048 - 1) : Nat) else (x % 2 ^ 52 : Nat) : Int)
  else (if 0 < x / 2 ^ 52 % 2048 then ((x % 2 ^ 52 + 2 ^ 52) * 2 ^ (x / 2 ^ 52 % 2048 - 1) : Nat) else (x % 2 ^ 52 : Nat) : Int)
theorem aqt (e r : Nat) : (if 0 < e then (((r + 2 ^ 52) * 2 ^ (e - 1) : Nat) : Int) else (r : Int)) = ((r + (if e = 0 then 0 else 2 ^ 52) : Nat) : Int) * ((2 ^ (DOUBLE.low + ((max e 1 : Nat) : Int) - 1 - DOUBLE.low).toNat : Nat) : Int) := by
  have e1 : (DOUBLE.low + ((max e 1 : Nat) : Int) - 1 - DOUBLE.low).toNat = max e 1 - 1 := by omega
  rw [e1]
  by_cases h0 : e = 0
  · subst h0
    simp
  · rw [if_pos (by omega), if_neg h0, show max e 1 - 1 = e - 1 by omega, ← Int.natCast_mul]
theorem ary (x : Nat) : stf DOUBLE x = (if 2 ^ 63 ≤ x then -((x % 2 ^ 52 + (if x / 2 ^ 52 % 2048 = 0 then 0 else 2 ^ 52) : Nat) : Int) else ((x % 2 ^ 52 + (if x / 2 ^ 52 % 2048 = 0 then 0 else 2 ^ 52) : Nat) : Int)) * ((2 ^ (DOUBLE.low + ((max (x / 2 ^ 52 % 2048) 1 : Nat) : Int) - 1 - DOUBLE.low).toNat : Nat) : Int) := rfl
theorem ae3 {x : Nat} (hx : x < 2 ^ 64) : stp x = st x := by
  rw [show st x = stf DOUBLE x from rfl, ary]
  unfold stp
  rw [aqt]
  by_cases hs : 2 ^ 63 ≤ x
  · have h1 : x / 2 ^ 63 = 1 := by omega
    rw [if_pos h1, if_pos hs, Int.neg_mul]
  · have h1 : ¬ x / 2 ^ 63 = 1 := by omega
    rw [if_neg h1, if_neg hs]
def smg (b : Nat) : Nat := if b / 2 ^ 52 = 0 then b % 2 ^ 52 else (b % 2 ^ 52 + 2 ^ 52) * 2 ^ (b / 2 ^ 52 - 1)
theorem aml {b c : Nat} (h : b < c) : smg b < smg c := by
  unfold smg
  have hb := Nat.mod_lt b (show 0 < 2 ^ 52 by decide)
  have hc := Nat.mod_lt c (show 0 < 2 ^ 52 by decide)
  have db := Nat.div_add_mod b (2 ^ 52)
  have dc := Nat.div_add_mod c (2 ^ 52)
  have hle : b / 2 ^ 52 ≤ c / 2 ^ 52 := Nat.div_le_div_right (Nat.le_of_lt h)
  generalize b / 2 ^ 52 = e at *
  generalize c / 2 ^ 52 = k at *
  generalize b % 2 ^ 52 = r at *
  generalize c % 2 ^ 52 = t at *
  by_cases he : e = k
  · subst he
    have : r < t := by omega
    split
    · exact this
    · exact Nat.mul_lt_mul_of_pos_right (by omega) (Nat.two_pow_pos _)
  · have hk : k ≠ 0 := by omega
    rw [if_neg hk]
    have h1 : 2 ^ 52 * 2 ^ (k - 1) ≤ (t + 2 ^ 52) * 2 ^ (k - 1) := Nat.mul_le_mul_right _ (by omega)
    refine Nat.lt_of_lt_of_le ?_ h1
    split
    · have := Nat.two_pow_pos (k - 1)
      exact Nat.lt_of_lt_of_le hb (Nat.le_mul_of_pos_right _ this)
    · have h2 : (r + 2 ^ 52) * 2 ^ (e - 1) < 2 ^ 53 * 2 ^ (e - 1) := Nat.mul_lt_mul_of_pos_right (by omega) (Nat.two_pow_pos _)
      refine Nat.lt_of_lt_of_le h2 ?_
      rw [← Nat.pow_add, ← Nat.pow_add]
      exact Nat.pow_le_pow_right (by decide) (by omega)
theorem aps (e r : Nat) : (if 0 < e then (((r + 2 ^ 52) * 2 ^ (e - 1) : Nat) : Int) else (r : Int)) = (((if e = 0 then r else (r + 2 ^ 52) * 2 ^ (e - 1)) : Nat) : Int) := by
  by_cases h0 : e = 0
  · rw [if_neg (by omega), if_pos h0]
  · rw [if_pos (by omega), if_neg h0]
theorem aq5 {x : Nat} (hx : x < 2 ^ 64) : st x = if 2 ^ 63 ≤ x then -((smg (x - 2 ^ 63) : Nat) : Int) else (smg x : Nat) := by
  rw [← ae3 hx]
  unfold stp smg
  rw [aps]
  by_cases hs : 2 ^ 63 ≤ x
  · have e1 : (x - 2 ^ 63) / 2 ^ 52 = x / 2 ^ 52 % 2048 := by omega
    have e2 : (x - 2 ^ 63) % 2 ^ 52 = x % 2 ^ 52 := by omega
    rw [if_pos hs, if_pos (by omega), e1, e2]
  · have e1 : x / 2 ^ 52 % 2048 = x / 2 ^ 52 := by omega
    rw [if_neg hs, if_neg (by omega), e1]
theorem apj {b c : Nat} : smg b < smg c ↔ b < c := by
  constructor
  · intro h
    rcases Nat.lt_or_ge b c with hl | hl
    · exact hl
    · rcases Nat.lt_or_eq_of_le hl with hl | hl
      · have := aml hl; omega
      · subst hl; omega
  · exact aml
theorem aec {b : Nat} : smg b = 0 ↔ b = 0 := by
  have h0 : smg 0 = 0 := by decide
  constructor
  · intro h
    rcases Nat.eq_zero_or_pos b with hb | hb
    · exact hb
    · have := aml hb; omega
  · intro h; rw [h]; exact h0
theorem j2 {x y : Nat} (hx : x < 2 ^ 64) (hy : y < 2 ^ 64) : below x y = decide (st x < st y) := by
  unfold below
  congr 1
  rw [aq5 hx, aq5 hy]
  unfold key
  apply propext
  by_cases h1 : 2 ^ 63 ≤ x <;> by_cases h2 : 2 ^ 63 ≤ y
  · rw [if_neg (by omega), if_neg (by omega), if_pos h1, if_pos h2]
    have := @apj (y - 2 ^ 63) (x - 2 ^ 63)
    omega
  · rw [if_neg (by omega), if_pos (by omega), if_pos h1, if_neg h2]
    have a := @aec (x - 2 ^ 63)
    have b := @aec y
    omega
  · rw [if_pos (by omega), if_neg (by omega), if_neg h1, if_pos h2]
    have a := @aec x
    have b := @aec (y - 2 ^ 63)
    omega
  · rw [if_pos (by omega), if_pos (by omega), if_neg h1, if_neg h2]
    have := @apj x y
    omega
end GB
end

section
namespace GB
open Ql90
def xy (t B : Nat) : Nat := 2 * (t / B) + (if t % B = 0 then 0 else 1)
theorem aot {t B s : Nat} (hB : 0 < B) (hs : 2 ≤ s) : nw ((xy t B : Nat) : Int) ((2 ^ s : Nat) : Int) = nw ((2 * t : Nat) : Int) ((B * 2 ^ s : Nat) : Int) := by
  have hd := Nat.div_add_mod t B
  have hr := Nat.mod_lt t hB
  symm
  unfold xy
  generalize hF : t / B = F at *
  generalize hR : t % B = R at *
  by_cases h0 : R = 0
  · rw [if_pos h0, Nat.add_zero]
    have e : ((2 * t : Nat) : Int) = ((2 * F : Nat) : Int) * (B : Int) := by
      rw [← Int.natCast_mul, ← hd, h0, Nat.add_zero, Nat.mul_assoc, Nat.mul_comm B F]
    rw [e, Nat.mul_comm B, Int.natCast_mul (2 ^ s), xm (p2 s) (by omega)]
  · rw [if_neg h0]
    obtain ⟨a1, a2, _⟩ := ab4 (((2 * F + 1 : Nat) : Int)) (p2 s)
    generalize nw ((2 * F + 1 : Nat) : Int) ((2 ^ s : Nat) : Int) = r at *
    obtain ⟨c, hc⟩ : ∃ c : Int, ((2 ^ s : Nat) : Int) = 4 * c := by
      refine ⟨((2 ^ (s - 2) : Nat) : Int), ?_⟩
      rw [show s = 2 + (s - 2) by omega, Nat.pow_add, Int.natCast_mul]
      rw [show 2 + (s - 2) - 2 = s - 2 by omega]
      rfl
    rw [Int.natCast_mul B, hc]
    rw [hc] at a1 a2
    have e4 : r * (4 * c) = 4 * (r * c) := by rw [Int.mul_comm 4 c, ← Int.mul_assoc, Int.mul_comm _ 4]
    rw [e4] at a1 a2
    have b1 : -(2 * c) + 1 ≤ (2 * F + 1 : Nat) - 4 * (r * c) := by omega
    have b2 : ((2 * F + 1 : Nat) : Int) - 4 * (r * c) ≤ 2 * c - 1 := by omega
    have et : ((2 * t : Nat) : Int) = (B : Int) * ((2 * F : Nat) : Int) + 2 * (R : Int) := by
      have : 2 * t = B * (2 * F) + 2 * R := by rw [← hd, Nat.mul_add, ← Nat.mul_assoc, Nat.mul_comm 2 B, Nat.mul_assoc]
      rw [this]; push_cast; rfl
    have er : r * ((B : Int) * (4 * c)) = (B : Int) * (4 * (r * c)) := by rw [← e4, ← Int.mul_assoc, Int.mul_comm r, Int.mul_assoc]
    have c1 : (B : Int) * (-(2 * c)) ≤ (B : Int) * (((2 * F : Nat) : Int) - 4 * (r * c)) := Int.mul_le_mul_of_nonneg_left (by omega) (by omega)
    have c2 : (B : Int) * (((2 * F : Nat) : Int) - 4 * (r * c)) ≤ (B : Int) * (2 * c - 2) := Int.mul_le_mul_of_nonneg_left (by omega) (by omega)
    rw [Int.mul_sub] at c1 c2
    rw [Int.mul_sub (B : Int) (2 * c)] at c2
    rw [Int.mul_neg] at c1
    have e2 : (B : Int) * (4 * c) = 2 * ((B : Int) * (2 * c)) := by rw [show (4 : Int) * c = 2 * (2 * c) by omega, Int.mul_left_comm]
    have hpos : 0 < (B : Int) * (4 * c) := by
      refine Int.mul_pos (by omega) ?_
      rw [← hc]
      exact p2 s
    refine aca hpos ?_ ?_ ?_ <;> rw [et, er] <;> omega
theorem arh (F d : Nat) (hF : F ≠ 0) (hd : d < 2) : bl (2 * F + d) = bl F + 1 := by
  have h0 : bl F ≠ 0 := by unfold bl; rw [if_neg hF]; omega
  obtain ⟨j, hj⟩ : ∃ j, bl F = j + 1 := ⟨bl F - 1, by omega⟩
  have h1 : 2 ^ j ≤ F := zq.mp (by omega)
  have h2 : F < 2 ^ (j + 1) := mz.mp (by omega)
  rw [hj]
  refine akk ?_ ?_
  · rw [Nat.pow_succ]; omega
  · rw [Nat.pow_succ]; omega
theorem aoj {t B a b p : Nat} (hB : 0 < B) (hab : a = 0 ∨ b = 0) (hbig : 2 ^ (p + 1) ≤ t / B) :
    nd (((xy t B : Nat) : Int) * ((2 ^ a : Nat) : Int)) ((2 ^ b : Nat) : Int) p = nd (((2 * t : Nat) : Int) * ((2 ^ a : Nat) : Int)) (((B * 2 ^ b : Nat)) : Int) p := by
  have hF : t / B ≠ 0 := by have := Nat.two_pow_pos (p + 1); omega
  have hblF := zq.mpr hbig
  have hst : bl (xy t B) = bl (t / B) + 1 := by
    unfold xy
    exact arh _ _ hF (by split <;> omega)
  have hs0 : xy t B ≠ 0 := by
    intro e
    rw [e] at hst
    simp [bl] at hst
  have hsp : ag (((xy t B : Nat) : Int) * ((2 ^ a : Nat) : Int)) ((2 ^ b : Nat) : Int) p = bl (t / B) + 1 + a - b - p := by
    unfold ag
    rw [Int.natAbs_mul, Int.natAbs_natCast, Int.natAbs_natCast, Int.natAbs_natCast, akf, aag hs0, hst]
  have hsp2 : ag (((2 * t : Nat) : Int) * ((2 ^ a : Nat) : Int)) (((B * 2 ^ b : Nat)) : Int) p = bl (t / B) + 1 + a - b - p := by
    unfold ag
    rw [Int.natAbs_mul, Int.natAbs_natCast, Int.natAbs_natCast, Int.natAbs_natCast]
    congr 1
    rcases hab with ha | hb
    · -- no shift up
      rw [ha, Nat.pow_zero, Nat.mul_one, ← Nat.div_div_eq_div_mul, akf]
      have e : 2 * t / B = 2 * (t / B) + (if B ≤ 2 * (t % B) then 1 else 0) := by
        have hd := Nat.div_add_mod t B
        have hr := Nat.mod_lt t hB
        generalize t / B = F at *
        generalize t % B = R at *
        have : 2 * t = 2 * R + B * (2 * F) := by rw [← hd, Nat.mul_add, ← Nat.mul_assoc, Nat.mul_comm 2 B, Nat.mul_assoc, Nat.add_comm]
        rw [this, Nat.add_mul_div_left _ _ hB]
        by_cases hh : B ≤ 2 * R
        · have h2 : 2 * R / B = 1 := Nat.div_eq_of_lt_le (by omega) (by omega)
          rw [if_pos hh, h2]
          omega
        · rw [if_neg hh, Nat.div_eq_of_lt (by omega)]
          omega
      rw [e, arh _ _ hF (by split <;> omega)]
    · rw [hb, Nat.pow_zero, Nat.mul_one, Nat.sub_zero]
      have h0 : bl (t / B) ≠ 0 := by omega
      obtain ⟨j, hj⟩ : ∃ j, bl (t / B) = j + 1 := ⟨bl (t / B) - 1, by omega⟩
      have h1 : 2 ^ j ≤ t / B := zq.mp (by omega)
      have h2 : t / B < 2 ^ (j + 1) := mz.mp (by omega)
      rw [hj, show j + 1 + 1 + a = (j + 1 + a) + 1 by omega]
      have g1 := (Nat.le_div_iff_mul_le hB).mp h1
      have g2 := (Nat.div_lt_iff_lt_mul hB).mp h2
      refine akk ?_ ?_
      · refine (Nat.le_div_iff_mul_le hB).mpr ?_
        calc 2 ^ (j + 1 + a) * B = 2 * (2 ^ j * B) * 2 ^ a := by
              rw [Nat.pow_add, Nat.pow_succ]; ac_rfl
          _ ≤ 2 * t * 2 ^ a := Nat.mul_le_mul_right _ (by omega)
      · refine (Nat.div_lt_iff_lt_mul hB).mpr ?_
        calc 2 * t * 2 ^ a < 2 * (2 ^ (j + 1) * B) * 2 ^ a := Nat.mul_lt_mul_of_pos_right (by omega) (Nat.two_pow_pos a)
          _ = 2 ^ (j + 1 + a + 1) * B := by
              rw [show j + 1 + a + 1 = 1 + ((j + 1) + a) by omega, Nat.pow_add 2 1, Nat.pow_add 2 (j + 1) a, Nat.pow_one]; generalize 2 ^ (j + 1) = J; ac_rfl
  unfold nd
  rw [hsp, hsp2]
  generalize hS : bl (t / B) + 1 + a - b - p = S at *
  congr 1
  obtain ⟨s, hs⟩ : ∃ s, b + S = s + a := ⟨b + S - a, by omega⟩
  have hs2 : 2 ≤ s := by omega
  have e1 : ((2 ^ b : Nat) : Int) * ((2 ^ S : Nat) : Int) = ((2 ^ s : Nat) : Int) * ((2 ^ a : Nat) : Int) := by
    rw [← Int.natCast_mul, ← Int.natCast_mul, ← Nat.pow_add, ← Nat.pow_add, hs]
  have e2 : ((B * 2 ^ b : Nat) : Int) * ((2 ^ S : Nat) : Int) = ((B * 2 ^ s : Nat) : Int) * ((2 ^ a : Nat) : Int) := by
    rw [← Int.natCast_mul, ← Int.natCast_mul, Nat.mul_assoc, Nat.mul_assoc, ← Nat.pow_add, ← Nat.pow_add, hs]
  rw [e1, e2, xm (p2 s) (p2 a), xm (by have := Nat.mul_pos hB (Nat.two_pow_pos s); omega) (p2 a)]
  exact aot hB hs2
def quo (s t : Int) : Int := if t < 0 then nd (-s * ((2 ^ 1074 : Nat) : Int)) (-t) 53 else nd (s * ((2 ^ 1074 : Nat) : Int)) t 53
theorem am9 {below : Int} {p : Nat} (h : 0 < below) : nd 0 below p = 0 := by
  have := ade (top := 0) (below := below) (p := p) h
  rw [Int.neg_zero] at this
  omega
theorem anj (s t : Int) (ht : t ≠ 0) : quo s t = if (decide (s < 0) == decide (t < 0)) = true then nd (((s.natAbs * 2 ^ 1074 : Nat)) : Int) (t.natAbs : Int) 53 else -nd (((s.natAbs * 2 ^ 1074 : Nat)) : Int) (t.natAbs : Int) 53 := by
  have hT : 0 < (t.natAbs : Int) := by omega
  unfold quo
  by_cases h1 : s < 0 <;> by_cases h2 : t < 0
  · rw [if_pos h2, decide_eq_true h1, decide_eq_true h2, if_pos (by decide), Int.natCast_mul, show -s = (s.natAbs : Int) by omega, show -t = (t.natAbs : Int) by omega]
  · rw [if_neg h2, decide_eq_true h1, decide_eq_false h2, if_neg (by decide), ← ade hT, Int.natCast_mul, ← Int.neg_mul, show -(s.natAbs : Int) = s by omega, show (t.natAbs : Int) = t by omega]
  · rw [if_pos h2, decide_eq_false h1, decide_eq_true h2, if_neg (by decide), ← ade hT, Int.natCast_mul, ← Int.neg_mul, show (s.natAbs : Int) = s by omega, show (t.natAbs : Int) = -t by omega]
  · rw [if_neg h2, decide_eq_false h1, decide_eq_false h2, if_pos (by decide), Int.natCast_mul, show (s.natAbs : Int) = s by omega, show (t.natAbs : Int) = t by omega]
theorem asp {x y : Nat} (hy : (val y).n ≠ 0) (hz : (quo (st x) (st y)).natAbs ≤ 2 ^ 2000) : over x y = DB (quo (st x) (st y)) := by
  have hqx : -1074 ≤ (val x).q := by have := of_q DOUBLE x; rw [dlow] at this; exact this
  have hqy : -1074 ≤ (val y).q := by have := of_q DOUBLE y; rw [dlow] at this; exact this
  have hsx : st x = (val x).n * ((2 ^ ((val x).q + 1074).toNat : Nat) : Int) := by
    show stf DOUBLE x = _
    unfold stf
    rw [dlow]
    rfl
  have hsy : st y = (val y).n * ((2 ^ ((val y).q + 1074).toNat : Nat) : Int) := by
    show stf DOUBLE y = _
    unfold stf
    rw [dlow]
    rfl
  have hty : st y ≠ 0 := by
    rw [hsy]
    exact Int.mul_ne_zero hy (by have := p2 ((val y).q + 1074).toNat; omega)
  have sgx : (st x < 0) = ((val x).n < 0) := by
    apply propext
    rw [hsx]
    have := p2 ((val x).q + 1074).toNat
    generalize ((2 ^ ((val x).q + 1074).toNat : Nat) : Int) = c at *
    constructor
    · intro h
      rcases Int.lt_or_le (val x).n 0 with hl | hl
      · exact hl
      · have := Int.mul_nonneg hl (show 0 ≤ c by omega); omega
    · intro h
      exact Int.mul_neg_of_neg_of_pos h this
  have sgy : (st y < 0) = ((val y).n < 0) := by
    apply propext
    rw [hsy]
    have := p2 ((val y).q + 1074).toNat
    generalize ((2 ^ ((val y).q + 1074).toNat : Nat) : Int) = c at *
    constructor
    · intro h
      rcases Int.lt_or_le (val y).n 0 with hl | hl
      · exact hl
      · have := Int.mul_nonneg hl (show 0 ≤ c by omega); omega
    · intro h
      exact Int.mul_neg_of_neg_of_pos h this
  rw [anj _ _ hty] at hz ⊢
  simp only [sgx, sgy] at hz ⊢
  have hax : (st x).natAbs = (val x).n.natAbs * 2 ^ ((val x).q + 1074).toNat := by rw [hsx, Int.natAbs_mul, Int.natAbs_natCast]
  have hay : (st y).natAbs = (val y).n.natAbs * 2 ^ ((val y).q + 1074).toNat := by rw [hsy, Int.natAbs_mul, Int.natAbs_natCast]
  rw [hax, hay] at hz ⊢
  unfold over
  dsimp only
  generalize hP : (val x).n.natAbs = P at *
  generalize hBB : (val y).n.natAbs = B at *
  have hB0 : B ≠ 0 := by omega
  have hB : 0 < B := by omega
  generalize hqa : (val x).q = qa at *
  generalize hqb : (val y).q = qb at *
  generalize hk : 70 + B.log2 = k at *
  have hu : 2 * (P * 2 ^ k / B) + (if P * 2 ^ k % B = 0 then 0 else 1) = xy (P * 2 ^ k) B := rfl
  rw [hu]
  have key : nd (((xy (P * 2 ^ k) B : Nat) : Int) * ((2 ^ (qa - qb - (k : Int) - 1 - DOUBLE.low).toNat : Nat) : Int)) ((2 ^ (DOUBLE.low - (qa - qb - (k : Int) - 1)).toNat : Nat) : Int) 53 =
      nd (((P * 2 ^ (qa + 1074).toNat * 2 ^ 1074 : Nat)) : Int) ((B * 2 ^ (qb + 1074).toNat : Nat) : Int) 53 := by
    have hBp : (0 : Int) < ((B * 2 ^ (qb + 1074).toNat : Nat) : Int) := by
      have := Nat.mul_pos hB (Nat.two_pow_pos (qb + 1074).toNat)
      omega
    by_cases hP0 : P = 0
    · subst hP0
      have : xy (0 * 2 ^ k) B = 0 := by unfold xy; simp
      rw [this, Nat.zero_mul, Nat.zero_mul]
      simp only [Int.natCast_zero, Int.zero_mul]
      rw [am9 (p2 _), am9 hBp]
    · have hbig : 2 ^ (53 + 1) ≤ P * 2 ^ k / B := by
        refine (Nat.le_div_iff_mul_le hB).mpr ?_
        have hlt : B < 2 ^ (B.log2 + 1) := Nat.lt_log2_self
        have h2 : 2 ^ (53 + 1) * B ≤ 2 ^ (53 + 1) * 2 ^ (B.log2 + 1) := Nat.mul_le_mul_left _ (Nat.le_of_lt hlt)
        have h3 : 2 ^ (53 + 1) * 2 ^ (B.log2 + 1) ≤ 2 ^ k := by
          rw [← Nat.pow_add]
          exact Nat.pow_le_pow_right (by decide) (by omega)
        have h4 : 2 ^ k ≤ P * 2 ^ k := Nat.le_mul_of_pos_left _ (by omega)
        omega
      rw [dlow]
      rw [aoj hB (by omega) hbig]
      generalize ha : (qa - qb - (k : Int) - 1 - -1074).toNat = a
      generalize hb : (-1074 - (qa - qb - (k : Int) - 1)).toNat = b
      refine alg (by have := Nat.mul_pos hB (Nat.two_pow_pos b); omega) hBp ?_
      have goal : ∀ c : Nat, c = 1074 → 2 * (P * 2 ^ k) * 2 ^ a * (B * 2 ^ (qb + 1074).toNat) = P * 2 ^ (qa + 1074).toNat * 2 ^ c * (B * 2 ^ b) := fun c hc => by
        have hexp : 1 + k + a + (qb + 1074).toNat = (qa + 1074).toNat + c + b := by omega
        calc 2 * (P * 2 ^ k) * 2 ^ a * (B * 2 ^ (qb + 1074).toNat) = P * B * 2 ^ (1 + k + a + (qb + 1074).toNat) := by
              rw [Nat.pow_add, Nat.pow_add, Nat.pow_add, Nat.pow_one]; ac_rfl
          _ = P * B * 2 ^ ((qa + 1074).toNat + c + b) := by rw [hexp]
          _ = P * 2 ^ (qa + 1074).toNat * 2 ^ c * (B * 2 ^ b) := by
              rw [Nat.pow_add, Nat.pow_add]
              ac_rfl
      have g := goal 1074 rfl
      rw [← Int.natCast_mul, ← Int.natCast_mul, ← Int.natCast_mul, g]
  rw [← key] at hz ⊢
  generalize hq : qa - qb - (k : Int) - 1 = q at *
  by_cases hs : (decide ((val x).n < 0) == decide ((val y).n < 0)) = true
  · rw [if_pos hs] at hz ⊢
    rw [if_pos hs]
    exact ahu DOUBLE (by decide) ⟨_, q⟩ (by decide) dM hz
  · rw [if_neg hs] at hz ⊢
    rw [if_neg hs]
    rw [← ade (p2 _), ← Int.neg_mul] at hz ⊢
    exact ahu DOUBLE (by decide) ⟨_, q⟩ (by decide) dM hz
end GB
end

section
namespace GB
open Ql90
def wd (kind : Nat) : Nat := 2 ^ (kind / 2 % 4)
theorem alr (kind : Nat) : wd kind = 1 ∨ wd kind = 2 ∨ wd kind = 4 ∨ wd kind = 8 := by
  unfold wd
  have : kind / 2 % 4 < 4 := Nat.mod_lt _ (by decide)
  generalize kind / 2 % 4 = e at *
  match e, this with
  | 0, _ => exact .inl rfl
  | 1, _ => exact .inr (.inl rfl)
  | 2, _ => exact .inr (.inr (.inl rfl))
  | 3, _ => exact .inr (.inr (.inr rfl))
theorem lp (kind : Nat) : width kind = wd kind := rfl
theorem amx (kind : Nat) : 1 ≤ wd kind := by have := alr kind; omega
theorem adm (kind : Nat) : wd kind ≤ 8 := by have := alr kind; omega
def aeg (kind : Nat) : Int := if kind % 2 = 1 then -((2 ^ (8 * wd kind - 1) : Nat) : Int) else 0
def y9 (kind : Nat) : Int := aeg kind + ((2 ^ (8 * wd kind) : Nat) : Int) - 1
theorem arb (kind : Nat) : least kind = aeg kind := by
  unfold least aeg signs
  rw [lp]
  by_cases h : kind % 2 = 1 <;> simp [h]
theorem arx (kind : Nat) : most kind = y9 kind := by
  unfold most y9 aeg signs
  rw [lp]
  have e : 2 ^ (8 * wd kind) = 2 * 2 ^ (8 * wd kind - 1) := by
    have := amx kind
    rw [← Nat.pow_add_one']
    congr 1
    omega
  by_cases h : kind % 2 = 1
  · rw [if_pos (by simp [h]), if_pos h, e]
    omega
  · rw [if_neg (by simp [h]), if_neg h]
    omega
def hold (z : Int) (kind : Nat) : Int := max (aeg kind) (min z (y9 kind))
theorem akd (kind : Nat) (z : Int) : held kind z = hold z kind := by
  unfold held hold
  rw [arb, arx]
theorem aqu (kind : Nat) : (2 ^ (8 * wd kind) : Nat) = 256 ^ wd kind := by rw [Nat.pow_mul]
def or (l : List Int) : Int := l.foldl (fun n b => n * 256 + b) 0
theorem aah (l : List Int) (b : Int) : or (l ++ [b]) = or l * 256 + b := by
  unfold or
  rw [List.foldl_append]
  rfl
def afr (part : List Int) (kind : Nat) : Int :=
  if y9 kind < or (if kind / 8 = 1 then part else part.reverse) then or (if kind / 8 = 1 then part else part.reverse) - ((2 ^ (8 * wd kind) : Nat) : Int)
  else or (if kind / 8 = 1 then part else part.reverse)
def o8 (z : Int) : Prop := 0 ≤ z ∧ z ≤ 255
def jh (x : Int) : UInt8 := UInt8.ofNat x.toNat
theorem af2 {x : Int} (h : o8 x) : ((jh x).toNat : Int) = x := by
  obtain ⟨h1, h2⟩ := h
  unfold jh
  rw [UInt8.toNat_ofNat_of_lt' (by show x.toNat < 256; omega)]
  omega
theorem ahn : ∀ l : List Int, (∀ x ∈ l, o8 x) → ((value (l.map jh) : Nat) : Int) = or l.reverse
  | [], _ => rfl
  | x :: l, h => by
    rw [List.reverse_cons, aah, ← ahn l fun y hy => h y (List.mem_cons_of_mem _ hy)]
    show (((jh x).toNat + 256 * value (l.map jh) : Nat) : Int) = _
    have := af2 (h x (List.mem_cons_self ..))
    omega
theorem zy : ∀ l : List Int, (∀ x ∈ l, o8 x) → 0 ≤ or l.reverse ∧ or l.reverse < ((256 ^ l.length : Nat) : Int)
  | [], _ => by decide
  | x :: l, h => by
    rw [List.reverse_cons, aah]
    have ih := zy l fun y hy => h y (List.mem_cons_of_mem _ hy)
    have hx := h x (List.mem_cons_self ..)
    unfold o8 at hx
    rw [List.length_cons, Nat.pow_succ, Int.natCast_mul]
    omega
theorem ao1 {kind : Nat} (hk : kind ≤ 15) {part : List Int} (hb : ∀ x ∈ part, o8 x) (hl : part.length = wd kind) : number kind (part.map jh) = afr part kind := by
  have e : ((value (if 8 ≤ kind then (part.map jh).reverse else part.map jh) : Nat) : Int) = or (if kind / 8 = 1 then part else part.reverse) := by
    by_cases h : 8 ≤ kind
    · rw [if_pos h, if_pos (by omega), ← List.map_reverse, ahn part.reverse (fun x hx => hb x (List.mem_reverse.mp hx)), List.reverse_reverse]
    · rw [if_neg h, if_neg (by omega), ahn part hb]
  have hlt : or (if kind / 8 = 1 then part else part.reverse) < ((2 ^ (8 * wd kind) : Nat) : Int) := by
    rw [aqu, ← hl]
    by_cases h : kind / 8 = 1
    · rw [if_pos h]
      have := (zy part.reverse fun x hx => hb x (List.mem_reverse.mp hx)).2
      rwa [List.reverse_reverse, List.length_reverse] at this
    · rw [if_neg h]
      exact (zy part hb).2
  unfold number afr
  dsimp only
  rw [e]
  generalize or (if kind / 8 = 1 then part else part.reverse) = n at *
  generalize hv : value (if 8 ≤ kind then (part.map jh).reverse else part.map jh) = v at *
  have hs : (signs kind = true ∧ 2 ^ (8 * width kind - 1) ≤ v) ↔ y9 kind < n := by
    rw [lp]
    unfold y9 aeg signs
    have e2 : 2 ^ (8 * wd kind) = 2 * 2 ^ (8 * wd kind - 1) := by
      have := amx kind
      rw [← Nat.pow_add_one']
      congr 1
      omega
    by_cases h : kind % 2 = 1
    · simp only [h, beq_self_eq_true, true_and, if_true]
      omega
    · rw [if_neg h]
      constructor
      · rintro ⟨h1, _⟩
        simp at h1
        omega
      · intro h1
        omega
  by_cases h : y9 kind < n
  · rw [if_pos h, if_pos (hs.mpr h), lp]
  · rw [if_neg h, if_neg fun q => h (hs.mp q)]
theorem alc {kind : Nat} {part : List Int} (hb : ∀ x ∈ part, o8 x) (hl : part.length = wd kind) : (afr part kind).natAbs ≤ 2 ^ 64 := by
  have hlt : 0 ≤ or (if kind / 8 = 1 then part else part.reverse) ∧ or (if kind / 8 = 1 then part else part.reverse) < ((2 ^ (8 * wd kind) : Nat) : Int) := by
    rw [aqu, ← hl]
    by_cases h : kind / 8 = 1
    · rw [if_pos h]
      have := (zy part.reverse fun x hx => hb x (List.mem_reverse.mp hx))
      rwa [List.reverse_reverse, List.length_reverse] at this
    · rw [if_neg h]
      exact (zy part hb)
  have h64 : 2 ^ (8 * wd kind) ≤ 2 ^ 64 := Nat.pow_le_pow_right (by decide) (by have := adm kind; omega)
  unfold afr
  generalize or (if kind / 8 = 1 then part else part.reverse) = n at *
  split <;> omega
def yb (z : Int) (w : Nat) : List Int := (List.range w).map fun i => z / ((2 ^ (8 * i) : Nat) : Int) % 256
def qv (z : Int) (kind : Nat) : List Int := if kind / 8 = 1 then (yb z (wd kind)).reverse else yb z (wd kind)
theorem aq6 (z : Int) (w : Nat) : (low w (z % ((2 ^ (8 * w) : Nat) : Int)).toNat).map (fun c : UInt8 => (c.toNat : Int)) = yb z w := by
  unfold low yb
  rw [List.map_map]
  refine List.map_congr_left fun i hi => ?_
  have hi := List.mem_range.mp hi
  show ((UInt8.ofNat _).toNat : Int) = _
  rw [UInt8.toNat_ofNat_of_lt' (Nat.mod_lt _ (by decide))]
  have hm : 0 ≤ z % ((2 ^ (8 * w) : Nat) : Int) := Int.emod_nonneg _ (by have := p2 (8 * w); omega)
  rw [Int.natCast_emod, Int.natCast_ediv, Int.toNat_of_nonneg hm]
  have e1 : ((256 ^ i : Nat) : Int) = ((2 ^ (8 * i) : Nat) : Int) := by rw [Nat.pow_mul]
  rw [e1]
  have e2 : ((2 ^ (8 * w) : Nat) : Int) = ((2 ^ (8 * i) : Nat) : Int) * (256 * ((2 ^ (8 * (w - i - 1)) : Nat) : Int)) := by
    rw [show 8 * w = 8 * i + (8 + 8 * (w - i - 1)) by omega, Nat.pow_add, Nat.pow_add, Int.natCast_mul, Int.natCast_mul]
    rfl
  have hd : z % ((2 ^ (8 * w) : Nat) : Int) = z - ((2 ^ (8 * w) : Nat) : Int) * (z / ((2 ^ (8 * w) : Nat) : Int)) := Int.emod_def _ _
  rw [hd]
  generalize z / ((2 ^ (8 * w) : Nat) : Int) = q
  rw [e2, Int.mul_assoc, Int.sub_eq_add_neg, ← Int.mul_neg, Int.add_mul_ediv_left _ _ (by have := p2 (8 * i); omega), Int.mul_assoc, ← Int.mul_neg, show ((UInt8.size : Nat) : Int) = 256 from rfl, Int.add_mul_emod_self_left]
theorem alt {kind : Nat} (hk : kind ≤ 15) (z : Int) : (bytes kind z).map (fun c : UInt8 => (c.toNat : Int)) = qv z kind := by
  unfold bytes qv
  dsimp only
  rw [lp]
  by_cases h : 8 ≤ kind
  · rw [if_pos h, if_pos (by omega), List.map_reverse, aq6]
  · rw [if_neg h, if_neg (by omega), aq6]
theorem al5 (w g : Nat) : w.testBit g = decide (((w : Int) / ((2 ^ g : Nat) : Int)) % 2 = 1) := by
  rw [Nat.testBit_eq_decide_div_mod_eq]
  apply decide_eq_decide.mpr
  constructor
  · intro h
    have : (((w / 2 ^ g % 2 : Nat)) : Int) = 1 := by rw [h]; rfl
    rw [Int.natCast_emod, Int.natCast_ediv] at this
    exact this
  · intro h
    have : (((w / 2 ^ g % 2 : Nat)) : Int) = 1 := by rw [Int.natCast_emod, Int.natCast_ediv]; exact h
    omega
end GB
end

section
namespace GB
open Ql90
def S74 : Nat := 2 ^ 1074
def S25 : Nat := 2 ^ 925
theorem ap6 : S74 = 2 ^ 1074 := rfl
theorem qw : (0 : Int) < (S74 : Int) := p2 1074
theorem ajt : (0 : Int) < (S25 : Int) := p2 925
theorem dexp (x : Nat) : DOUBLE.exp x = x / 2 ^ 52 % 2048 := rfl
theorem as5 {x e : Nat} (hx : x < 2 ^ 64) (he : x / 2 ^ 52 % 2048 ≤ e) (h1 : 1 ≤ e) : (st x).natAbs < 2 ^ (e + 52) := by
  rw [← ae3 hx]
  have hr := Nat.mod_lt x (show 0 < 2 ^ 52 by decide)
  have key : ∀ k r : Nat, k ≤ e → r < 2 ^ 52 → (if 0 < k then (((r + 2 ^ 52) * 2 ^ (k - 1) : Nat) : Int) else (r : Int)).natAbs < 2 ^ (e + 52) := fun k r hk hr => by
    by_cases h0 : 0 < k
    · rw [if_pos h0, Int.natAbs_natCast]
      calc (r + 2 ^ 52) * 2 ^ (k - 1) < 2 ^ 53 * 2 ^ (k - 1) := Nat.mul_lt_mul_of_pos_right (by omega) (Nat.two_pow_pos _)
        _ = 2 ^ (53 + (k - 1)) := by rw [← Nat.pow_add]
        _ ≤ 2 ^ (e + 52) := Nat.pow_le_pow_right (by decide) (by omega)
    · rw [if_neg h0, Int.natAbs_natCast]
      exact Nat.lt_of_lt_of_le hr (Nat.pow_le_pow_right (by decide) (by omega))
  have := key _ _ he hr
  unfold stp
  split
  · rw [Int.natAbs_neg]; exact this
  · exact this
theorem auv {x e : Nat} (hx : x < 2 ^ 64) (he : e ≤ x / 2 ^ 52 % 2048) (h1 : 1 ≤ e) : 2 ^ (e + 51) ≤ (st x).natAbs := by
  rw [← ae3 hx]
  have key : ∀ k r : Nat, e ≤ k → 2 ^ (e + 51) ≤ (if 0 < k then (((r + 2 ^ 52) * 2 ^ (k - 1) : Nat) : Int) else (r : Int)).natAbs := fun k r hk => by
    rw [if_pos (by omega), Int.natAbs_natCast]
    calc 2 ^ (e + 51) ≤ 2 ^ (52 + (k - 1)) := Nat.pow_le_pow_right (by decide) (by omega)
      _ = 2 ^ 52 * 2 ^ (k - 1) := by rw [← Nat.pow_add]
      _ ≤ (r + 2 ^ 52) * 2 ^ (k - 1) := Nat.mul_le_mul_right _ (by omega)
  have := key _ (x % 2 ^ 52) he
  unfold stp
  split
  · rw [Int.natAbs_neg]; exact this
  · exact this
structure Meas (x : Nat) : Prop where
  lt : x < 2 ^ 64
  bd : (st x).natAbs < 2 ^ 1134
  ge : x = 0 ∨ 2 ^ 1014 ≤ (st x).natAbs
theorem agj : st 0 = 0 := by rw [← ae3 (by decide)]; decide
theorem j4 {x : Nat} (h : Ql90.measure x = true) : Meas x := by
  unfold Ql90.measure at h
  by_cases h0 : x = 0
  · subst h0
    exact ⟨by decide, by rw [agj]; exact Nat.two_pow_pos _, .inl rfl⟩
  · simp [h0] at h
    obtain ⟨⟨h1, h2⟩, h3⟩ := h
    rw [dexp] at h2 h3
    have a := as5 (e := 1082) (by exact h1) h3 (by decide)
    have b := auv (e := 963) (by exact h1) h2 (by decide)
    exact ⟨h1, a, .inr b⟩
theorem Meas.ne {x : Nat} (h : Meas x) : st x = 0 ↔ x = 0 := by
  constructor
  · intro e
    rcases h.ge with h1 | h1
    · exact h1
    · rw [e] at h1
      have := Nat.two_pow_pos 1014
      exact absurd h1 (by rw [Int.natAbs_zero]; omega)
  · intro e; rw [e]; exact agj
structure aed (g : Gauge) : Prop where
  a : Meas g.a
  b : Meas g.b
  w : Meas g.w
  l0 : Meas g.l0
  l1 : Meas g.l1
  l2 : Meas g.l2
  l3 : Meas g.l3
  h : Meas g.h
  lo : Meas g.lo
  k : Meas g.k
  w0 : 0 < st g.w
  w1 : st g.w ≤ (S74 : Int)
theorem apy : st ONE = (S74 : Int) := by
  rw [← ae3 (by decide)]
  unfold stp ONE
  rw [if_neg (by decide), if_pos (by decide)]
  rw [show 1023 * 2 ^ 52 % 2 ^ 52 + 2 ^ 52 = 2 ^ 52 by decide, show 1023 * 2 ^ 52 / 2 ^ 52 % 2048 - 1 = 1022 by decide, ← Nat.pow_add]
  rfl
theorem aqz {g : Gauge} (h : g.good = true) : aed g := by
  unfold Gauge.good at h
  simp only [Bool.and_eq_true, List.all_cons, List.all_nil, Bool.not_eq_true'] at h
  obtain ⟨⟨⟨⟨⟨⟨⟨⟨ha, hb, hw, h0, h1, h2, h3, hh, hlo, hk, _⟩, q1⟩, q2⟩, _⟩, _⟩, _⟩, _⟩, _⟩ := h
  have w := j4 hw
  rw [j2 (by decide) w.lt, agj] at q1
  rw [j2 (by decide) w.lt, apy] at q2
  exact ⟨j4 ha, j4 hb, w, j4 h0, j4 h1, j4 h2, j4 h3, j4 hh, j4 hlo, j4 hk, of_decide_eq_true q1, by have := of_decide_eq_false q2; omega⟩
theorem aqy (g : Gauge) : g.good = true ↔ ([g.a, g.b, g.w, g.l0, g.l1, g.l2, g.l3, g.h, g.lo, g.k].all Ql90.measure = true ∧ 0 < st g.w ∧ st g.w ≤ (S74 : Int) ∧ st g.l0 ≤ st g.l1 ∧ st g.l1 ≤ st g.l2 ∧ st g.l2 ≤ st g.l3 ∧ 0 ≤ st g.h ∧ 0 < st g.k) := by
  by_cases hm : [g.a, g.b, g.w, g.l0, g.l1, g.l2, g.l3, g.h, g.lo, g.k].all Ql90.measure = true
  · unfold Gauge.good
    rw [hm]
    simp only [List.all_cons, List.all_nil, Bool.and_eq_true] at hm
    obtain ⟨ha, hb, hw, h0, h1, h2, h3, hh, hlo, hk, _⟩ := hm
    have w := (j4 hw).lt
    have l0 := (j4 h0).lt
    have l1 := (j4 h1).lt
    have l2 := (j4 h2).lt
    have l3 := (j4 h3).lt
    have h := (j4 hh).lt
    have k := (j4 hk).lt
    rw [j2 (by decide) w, j2 (by decide) w, j2 l1 l0, j2 l2 l1, j2 l3 l2, j2 h (by decide), j2 (by decide) k, agj, apy]
    simp only [Bool.and_eq_true, decide_eq_true_eq, Bool.not_eq_true', decide_eq_false_iff_not, true_and]
    omega
  · unfold Gauge.good
    rw [Bool.eq_false_iff.mpr hm]
    simp
structure Yok (z : Int) : Prop where
  rep : Rep 53 z
  bd : z.natAbs ≤ 2 ^ 1199
structure Sok (z : Int) : Prop where
  rep : Rep 53 z
  bd : z.natAbs ≤ 2 ^ 1200
theorem pw {a b : Nat} (h : a ≤ b) : 2 ^ a ≤ 2 ^ b := Nat.pow_le_pow_right (by decide) h
theorem Yok.good {z : Int} (h : Yok z) : Good z := ⟨h.rep, Nat.le_trans h.bd (pw (by decide))⟩
theorem Sok.good {z : Int} (h : Sok z) : Good z := ⟨h.rep, Nat.le_trans h.bd (pw (by decide))⟩
theorem Yok.sok {z : Int} (h : Yok z) : Sok z := ⟨h.rep, Nat.le_trans h.bd (pw (by decide))⟩
theorem yc {t : Int} {j : Nat} (h : t.natAbs ≤ 2 ^ j) : (nd t 1 53).natAbs ≤ 2 ^ j := ag9 (by decide) (by decide) (by rw [Int.mul_one]; exact_mod_cast h)
theorem ady {a b : Int} {j : Nat} (ha : a.natAbs ≤ 2 ^ j) (hb : b.natAbs ≤ 2 ^ j) : (a + b).natAbs ≤ 2 ^ (j + 1) := by
  rw [Nat.pow_succ]
  omega
theorem agq {a b : Int} {j : Nat} (ha : a.natAbs ≤ 2 ^ j) (hb : b.natAbs ≤ 2 ^ j) : (a - b).natAbs ≤ 2 ^ (j + 1) := by
  rw [Nat.pow_succ]
  omega
theorem adr {a b : Int} {i j : Nat} (ha : a.natAbs ≤ 2 ^ i) (hb : b.natAbs ≤ 2 ^ j) : (a * b).natAbs ≤ 2 ^ (i + j) := by
  rw [Int.natAbs_mul, Nat.pow_add]
  exact Nat.mul_le_mul ha hb
def mval (a b raw : Int) : Int := nd (a * nd raw 1 53 + b) 1 53
theorem ak2 {a b raw : Int} (ha : a.natAbs < 2 ^ 1134) (hb : b.natAbs < 2 ^ 1134) (hr : raw.natAbs ≤ 2 ^ 64) : Yok (mval a b raw) := by
  have h1 : (nd raw 1 53).natAbs ≤ 2 ^ 64 := yc hr
  have h2 := adr (Nat.le_of_lt ha) h1
  have h3 : b.natAbs ≤ 2 ^ (1134 + 64) := Nat.le_trans (Nat.le_of_lt hb) (pw (by decide))
  exact ⟨aal (by decide) (by decide), yc (ady h2 h3)⟩
theorem ai0 {g : Gauge} (G : aed g) {raw : Int} (hr : raw.natAbs ≤ 2 ^ 64) : g.value raw = DB (mval (st g.a) (st g.b) raw) ∧ Yok (mval (st g.a) (st g.b) raw) := by
  have hok := ak2 G.a.bd G.b.bd hr
  refine ⟨?_, hok⟩
  have h1 : (nd raw 1 53).natAbs ≤ 2 ^ 64 := yc hr
  obtain ⟨e, gd⟩ := aqw (raw := raw) (Nat.le_trans h1 (pw (by decide)))
  unfold Gauge.value
  have est : st (dbl (whole raw)) = nd raw 1 53 * ((2 ^ 1074 : Nat) : Int) := by rw [e]; exact gd.st
  have key : nd (st g.a * st (dbl (whole raw)) + st g.b * ((2 ^ 1074 : Nat) : Int)) ((2 ^ 1074 : Nat) : Int) 53 = mval (st g.a) (st g.b) raw := by
    rw [est, ← Int.mul_assoc, ← Int.add_mul]
    have := agx (top := st g.a * nd raw 1 53 + st g.b) (below := 1) (c := 2 ^ 1074) (p := 53) (by decide) (Nat.two_pow_pos _)
    rw [Int.one_mul] at this
    exact this
  have := agr (a := g.a) (b := dbl (whole raw)) (c := g.b) (by rw [key]; exact hok.good.2)
  rw [key] at this
  exact this
def msm (y s w : Int) : Int := nd (nd (y - s) 1 53 * w + s * (S74 : Int)) (S74 : Int) 53
theorem aox {t : Int} {p : Nat} (h : 0 ≤ t) : 0 ≤ nd t 1 p := by
  unfold nd
  refine Int.mul_nonneg (aio ?_ (by omega)) (by have := p2 (ag t 1 p); omega)
  have := p2 (ag t 1 p); omega
theorem aj7 {y s w : Int} (hy : y.natAbs ≤ 2 ^ 1199) (hs : s.natAbs ≤ 2 ^ 1200) (w0 : 0 < w) (w1 : w ≤ (S74 : Int)) :
    ((nd (y - s) 1 53 * w + s * (S74 : Int)).natAbs : Int) ≤ ((2 ^ 1200 : Nat) : Int) * (S74 : Int) := by
  have main : ∀ B T : Nat, ∀ y s w : Int, 0 < (T : Int) → 2 * y.natAbs ≤ B → s.natAbs ≤ B → 0 < w → w ≤ (T : Int) → 0 ≤ y - s → ((nd (y - s) 1 53 * w + s * (T : Int)).natAbs : Int) ≤ (B : Int) * (T : Int) := by
    intro B T y s w hT hy hs w0 w1 h0
    have hd := aox (p := 53) h0
    have hn := arp (top := y - s) (p := 53) (by decide)
    generalize nd (y - s) 1 53 = d at *
    have hdn : 8 * (d - (y - s)).natAbs ≤ (y - s).natAbs := Nat.le_trans (Nat.mul_le_mul_right _ (show 8 ≤ 2 ^ 53 by decide)) hn
    have hup : d + s ≤ (B : Int) := by omega
    have e1 : d * w ≤ d * (T : Int) := Int.mul_le_mul_of_nonneg_left w1 hd
    have e2 : 0 ≤ d * w := Int.mul_nonneg hd (by omega)
    have e3 : (d + s) * (T : Int) ≤ (B : Int) * (T : Int) := Int.mul_le_mul_of_nonneg_right hup (by omega)
    have e4 : -(B : Int) * (T : Int) ≤ s * (T : Int) := Int.mul_le_mul_of_nonneg_right (by omega) (by omega)
    rw [Int.add_mul] at e3
    rw [Int.neg_mul] at e4
    omega
  have hy2 : 2 * y.natAbs ≤ 2 ^ 1200 := by
    have e : 2 ^ 1200 = 2 * 2 ^ 1199 := by rw [← Nat.pow_add_one']
    rw [e]
    exact Nat.mul_le_mul_left 2 hy
  rcases Int.lt_or_le y s with hl | hl
  · have := main (2 ^ 1200) S74 (-y) (-s) w qw (by rw [Int.natAbs_neg]; exact hy2) (by rw [Int.natAbs_neg]; exact hs) w0 w1 (by omega)
    rw [show -y - -s = -(y - s) by omega, ade (by decide), Int.neg_mul, Int.neg_mul, ← Int.neg_add, Int.natAbs_neg] at this
    exact this
  · exact main (2 ^ 1200) S74 y s w qw hy2 hs w0 w1 (by omega)
theorem aq0 {y s w : Int} (hy : Yok y) (hs : Sok s) (w0 : 0 < w) (w1 : w ≤ (S74 : Int)) : Sok (msm y s w) :=
  ⟨aal (by decide) qw, ag9 (by decide) qw (aj7 hy.bd hs.bd w0 w1)⟩
theorem apt {y s : Int} {w : Nat} (hy : Yok y) (hs : Sok s) (w0 : 0 < st w) (w1 : st w ≤ (S74 : Int)) : fused (minus (DB y) (DB s)) w (DB s) = DB (msm y s (st w)) := by
  have hd : (nd (st (DB y) - st (DB s)) 1 53).natAbs ≤ 2 ^ 2000 := by
    rw [hy.good.st, hs.good.st]
    exact Nat.le_trans (yc (agq hy.sok.bd hs.bd)) (pw (by decide))
  have em := ado hd
  rw [hy.good.st, hs.good.st] at em hd
  have gd : Good (nd (y - s) 1 53) := aae (by decide) hd
  have := agr (a := minus (DB y) (DB s)) (b := w) (c := DB s)
  rw [em, gd.st, hs.good.st] at this
  rw [em]
  exact this (aq0 hy hs w0 w1).good.2
def su (y l0 l1 l2 l3 : Int) : Nat := if y < l0 then 0 else if y < l1 then 1 else if l3 < y then 4 else if l2 < y then 3 else 2
theorem aka {l0 l1 l2 l3 y : Nat} (h0 : l0 < 2 ^ 64) (h1 : l1 < 2 ^ 64) (h2 : l2 < 2 ^ 64) (h3 : l3 < 2 ^ 64) (hy : y < 2 ^ 64) : zone l0 l1 l2 l3 y = su (st y) (st l0) (st l1) (st l2) (st l3) := by
  unfold zone su
  rw [j2 hy h0, j2 hy h1, j2 h3 hy, j2 h2 hy]
  simp only [decide_eq_true_eq]
def afs (s : Nat) (y l0 l1 l2 l3 h : Int) : Nat :=
  if s = 2 then su y l0 l1 l2 l3
  else if s < 2 then (if su y l0 l1 l2 l3 < s then su y l0 l1 l2 l3 else max s (su y (nd (l0 + h) 1 53) (nd (l1 + h) 1 53) l2 l3))
  else (if s < su y l0 l1 l2 l3 then su y l0 l1 l2 l3 else min s (su y l0 l1 (nd (l2 - h) 1 53) (nd (l3 - h) 1 53)))
theorem ar4 {g : Gauge} (G : aed g) (s : Nat) {y : Int} (hy : Yok y) : g.next s (DB y) = afs s y (st g.l0) (st g.l1) (st g.l2) (st g.l3) (st g.h) := by
  have hlt := hy.good.lt
  have pl : ∀ l : Nat, Meas l → plus l g.h = DB (nd (st l + st g.h) 1 53) ∧ Good (nd (st l + st g.h) 1 53) := fun l hl => by
    have hb := Nat.le_trans (yc (ady (Nat.le_of_lt hl.bd) (Nat.le_of_lt G.h.bd))) (pw (show 1134 + 1 ≤ 2000 by decide))
    exact ⟨akg hb, aae (by decide) hb⟩
  have mi : ∀ l : Nat, Meas l → minus l g.h = DB (nd (st l - st g.h) 1 53) ∧ Good (nd (st l - st g.h) 1 53) := fun l hl => by
    have hb := Nat.le_trans (yc (agq (Nat.le_of_lt hl.bd) (Nat.le_of_lt G.h.bd))) (pw (show 1134 + 1 ≤ 2000 by decide))
    exact ⟨ado hb, aae (by decide) hb⟩
  obtain ⟨e0, g0⟩ := pl g.l0 G.l0
  obtain ⟨e1, g1⟩ := pl g.l1 G.l1
  obtain ⟨e2, g2⟩ := mi g.l2 G.l2
  obtain ⟨e3, g3⟩ := mi g.l3 G.l3
  unfold Gauge.next afs
  dsimp only
  rw [e0, e1, e2, e3, aka G.l0.lt G.l1.lt G.l2.lt G.l3.lt hlt, aka g0.lt g1.lt G.l2.lt G.l3.lt hlt, aka G.l0.lt G.l1.lt g2.lt g3.lt hlt, hy.good.st, g0.st, g1.st, g2.st, g3.st]
  by_cases h2 : s = 2
  · rw [if_pos h2, if_neg (by omega), if_neg (by omega)]
  · rw [if_neg h2]
    by_cases h3 : s < 2
    · rw [if_pos h3, if_pos h3]
    · rw [if_neg h3, if_neg h3, if_pos (by omega)]
structure Tok' (z : Int) : Prop where
  rep : Rep 24 z
  bd : z.natAbs ≤ 2 ^ 274
def msi (y : Int) : Int := nd y (S25 : Int) 24
theorem amp {y : Int} (hy : Yok y) : Tok' (msi y) := by
  refine ⟨aal (by decide) ajt, ag9 (by decide) ajt ?_⟩
  have h1 : ((2 ^ 274 : Nat) : Int) * (S25 : Int) = ((2 ^ (274 + 925) : Nat) : Int) := by rw [Nat.pow_add, Int.natCast_mul]; rfl
  rw [h1]
  have := hy.bd
  exact_mod_cast this
theorem ag5 {y : Int} (hy : Yok y) : single (DB y) = SB (msi y) := by
  have := aor (x := DB y)
  rw [hy.good.st] at this
  exact this (amp hy).bd
def aq8 (y lo k : Int) : Int := hold (nw (nd (nd (y - lo) 1 53 * k) (S74 : Int) 53) (S74 : Int)) 4
theorem as0 {g : Gauge} (G : aed g) {y : Int} (hy : Yok y) : g.dial (DB y) = aq8 y (st g.lo) (st g.k) := by
  have hlo : (st g.lo).natAbs ≤ 2 ^ 1199 := Nat.le_trans (Nat.le_of_lt G.lo.bd) (pw (by decide))
  have hd0 : (nd (y - st g.lo) 1 53).natAbs ≤ 2 ^ (1199 + 1) := yc (agq hy.bd hlo)
  have em := ado (x := DB y) (y := g.lo)
  rw [hy.good.st] at em
  have em := em (Nat.le_trans hd0 (pw (by decide)))
  have gd : Good (nd (y - st g.lo) 1 53) := aae (by decide) (Nat.le_trans hd0 (pw (by decide)))
  have hp : (nd (nd (y - st g.lo) 1 53 * st g.k) (S74 : Int) 53).natAbs ≤ 2 ^ 1260 := by
    refine ag9 (by decide) qw ?_
    have h1 : ((2 ^ 1260 : Nat) : Int) * (S74 : Int) = ((2 ^ (1199 + 1 + 1134) : Nat) : Int) := by
      rw [show 1199 + 1 + 1134 = 1260 + 1074 by decide, Nat.pow_add, Int.natCast_mul]; rfl
    rw [h1]
    have := adr hd0 (Nat.le_of_lt G.k.bd)
    exact_mod_cast this
  have et := arf (x := minus (DB y) g.lo) (y := g.k)
  rw [em, gd.st] at et
  have et := et (Nat.le_trans hp (pw (by decide)))
  have gt : Good (nd (nd (y - st g.lo) 1 53 * st g.k) (S74 : Int) 53) := aae qw (Nat.le_trans hp (pw (by decide)))
  unfold Gauge.dial aq8
  rw [akd, em, et, ahd]
  have := gt.st
  unfold S74 at this ⊢
  rw [this]
def acp (y b a : Int) : Int := nw (quo (nd (y - b) 1 53) a) (S74 : Int)
theorem ang {y : Nat} (hy : y < 2 ^ 64) (h : fair y = true) : (st y).natAbs < 2 ^ 1199 := by
  unfold fair at h
  have h := of_decide_eq_true h
  rw [dexp] at h
  exact as5 (e := 1147) hy h (by decide)
theorem aur {x : Nat} (h : st x ≠ 0) : (val x).n ≠ 0 := by
  intro e
  apply h
  show (val x).n * _ = 0
  rw [e, Int.zero_mul]
theorem at6 {s t : Int} {i j : Nat} (ht : 2 ^ j ≤ t.natAbs) (hs : s.natAbs ≤ 2 ^ i) (hij : j ≤ i + 1074) : (quo s t).natAbs ≤ 2 ^ (i + 1074 - j) := by
  have h0 := Nat.two_pow_pos j
  have ht0 : t ≠ 0 := by omega
  have key : (nd (((s.natAbs * 2 ^ 1074 : Nat)) : Int) (t.natAbs : Int) 53).natAbs ≤ 2 ^ (i + 1074 - j) := by
    refine ag9 (by decide) (by omega) ?_
    rw [Int.natAbs_natCast, ← Int.natCast_mul]
    have : s.natAbs * 2 ^ 1074 ≤ 2 ^ (i + 1074 - j) * t.natAbs := by
      calc s.natAbs * 2 ^ 1074 ≤ 2 ^ i * 2 ^ 1074 := Nat.mul_le_mul_right _ hs
        _ = 2 ^ (i + 1074 - j) * 2 ^ j := by rw [← Nat.pow_add, ← Nat.pow_add]; congr 1; omega
        _ ≤ 2 ^ (i + 1074 - j) * t.natAbs := Nat.mul_le_mul_left _ ht
    exact Int.ofNat_le.mpr this
  rw [anj s t ht0]
  split
  · exact key
  · rw [Int.natAbs_neg]; exact key
theorem asj {g : Gauge} (G : aed g) (ha : g.a ≠ 0) {y : Nat} (hy : y < 2 ^ 64) (hf : fair y = true) : rounded (over (minus y g.b) g.a) = acp (st y) (st g.b) (st g.a) := by
  have hlo : (st g.b).natAbs ≤ 2 ^ 1199 := Nat.le_trans (Nat.le_of_lt G.b.bd) (pw (by decide))
  have hd0 : (nd (st y - st g.b) 1 53).natAbs ≤ 2 ^ (1199 + 1) := yc (agq (Nat.le_of_lt (ang hy hf)) hlo)
  have em := ado (Nat.le_trans hd0 (pw (show 1199 + 1 ≤ 2000 by decide)))
  have gd : Good (nd (st y - st g.b) 1 53) := aae (by decide) (Nat.le_trans hd0 (pw (by decide)))
  have hge : 2 ^ 1014 ≤ (st g.a).natAbs := by
    rcases G.a.ge with h | h
    · exact absurd h ha
    · exact h
  have hne : st g.a ≠ 0 := fun e => ha (G.a.ne.mp e)
  have hq : (quo (nd (st y - st g.b) 1 53) (st g.a)).natAbs ≤ 2 ^ (1199 + 1 + 1074 - 1014) := at6 hge hd0 (by decide)
  have hq2 : (quo (nd (st y - st g.b) 1 53) (st g.a)).natAbs ≤ 2 ^ 2000 := Nat.le_trans hq (pw (by decide))
  have eo := asp (x := minus y g.b) (y := g.a) (aur hne)
  rw [em, gd.st] at eo
  have eo := eo hq2
  have gq : Good (quo (nd (st y - st g.b) 1 53) (st g.a)) := by
    refine ⟨?_, hq2⟩
    unfold quo
    split
    · exact aal (by decide) (by omega)
    · exact aal (by decide) (by omega)
  unfold acp
  rw [em, eo, ahd, gq.st]
  rfl
end GB
end

section
set_option linter.all false
namespace GB
open Ql90
def ku {α : Type} (f : α → α → α) (z : α) (l : List α) (j : Nat) : α := (l.zipIdx.filter fun (x : α × Nat) => x.2 % 4 == j).foldl (fun (s : α) (x : α × Nat) => f s x.1) z
theorem x9 {α : Type} (f : α → α → α) (z : α) (l : List α) (x : α) (j : Nat) : ku f z (l ++ [x]) j = if l.length % 4 = j then f (ku f z l j) x else ku f z l j := by
  unfold ku
  rw [List.zipIdx_append, List.filter_append, List.foldl_append]
  simp only [Nat.zero_add, List.zipIdx_singleton]
  by_cases h : l.length % 4 = j
  · rw [if_pos h, List.filter_cons_of_pos (by simp [h])]
    rfl
  · rw [if_neg h, List.filter_cons_of_neg (by simp [h])]
    rfl
theorem and {α : Type} {P : List α → Prop} (h0 : P []) (h1 : ∀ l x, P l → P (l ++ [x])) (l : List α) : P l := by
  have : ∀ r : List α, P r.reverse := by
    intro r
    induction r with
    | nil => exact h0
    | cons x r ih => rw [List.reverse_cons]; exact h1 _ _ ih
  have h := this l.reverse
  rw [List.reverse_reverse] at h
  exact h
def madd (s x : Int) : Int := nd (s + x) 1 53
def msq (s x : Int) : Int := nd (x * x + s * (S74 : Int)) (S74 : Int) 53
theorem atk : ((S74 : Int)).natAbs ≤ 2 ^ 1074 := by rw [Int.natAbs_natCast, ap6]; exact Nat.le_refl _
theorem arz (k : Nat) : ((2 ^ k : Nat) : Int) * (S74 : Int) = ((2 ^ (k + 1074) : Nat) : Int) := by rw [ap6, Nat.pow_add, Int.natCast_mul]
theorem asg {a b c : Nat} (hz : (nd (st a * st b + st c * (S74 : Int)) (S74 : Int) 53).natAbs ≤ 2 ^ 2000) : fused a b c = DB (nd (st a * st b + st c * (S74 : Int)) (S74 : Int) 53) := by
  unfold S74 at hz ⊢
  exact agr hz
theorem atv {s x : Int} {k : Nat} (hx : x.natAbs ≤ 2 ^ 1199) (hs : s.natAbs ≤ 2 ^ k) (hk : 1324 ≤ k) : (msq s x).natAbs ≤ 2 ^ (k + 1) := by
  unfold msq
  refine ag9 (by decide) qw ?_
  rw [arz]
  have h2 : (x * x).natAbs ≤ 2 ^ (k + 1074) := Nat.le_trans (adr hx hx) (pw (by omega))
  have h3 : (s * (S74 : Int)).natAbs ≤ 2 ^ (k + 1074) := adr hs atk
  have h4 := ady h2 h3
  rw [show k + 1 + 1074 = k + 1074 + 1 by omega]
  exact Int.ofNat_le.mpr h4
theorem ao0 {s x : Int} (gx : Good x) (gs : Good s) (h : (msq s x).natAbs ≤ 2 ^ 2000) : fused (DB x) (DB x) (DB s) = DB (msq s x) := by
  unfold msq at h ⊢
  have := asg (a := DB x) (b := DB x) (c := DB s)
  rw [gx.st, gs.st] at this
  exact this h
theorem alz : Rep 53 0 := ⟨0, 0, by decide, by decide, .inl rfl⟩
theorem anh : DB 0 = 0 := by decide
theorem abm (l : List Int) (h : ∀ x ∈ l, Yok x) (hl : l.length ≤ 600) (j : Nat) : lane plus (l.map DB) j = DB (ku madd 0 l j) ∧ Rep 53 (ku madd 0 l j) ∧ (ku madd 0 l j).natAbs ≤ 2 ^ (1199 + l.length) := by
  induction l using and with
  | h0 => exact ⟨by show 0 = DB 0; rw [anh], alz, Nat.zero_le _⟩
  | h1 l x ih =>
    have hll : l.length + 1 ≤ 600 := by rw [List.length_append] at hl; exact hl
    obtain ⟨e, r, b⟩ := ih (fun y hy => h y (List.mem_append_left _ hy)) (by omega)
    have hx : Yok x := h x (List.mem_append_right _ (by simp))
    have e2 : lane plus ((l ++ [x]).map DB) j = if l.length % 4 = j then plus (lane plus (l.map DB) j) (DB x) else lane plus (l.map DB) j := by
      rw [List.map_append]
      have := x9 plus 0 (l.map DB) (DB x) j
      rw [List.length_map] at this
      exact this
    rw [e2, x9, List.length_append]
    by_cases hj : l.length % 4 = j
    · rw [if_pos hj, if_pos hj]
      have hb : (madd (ku madd 0 l j) x).natAbs ≤ 2 ^ (1199 + l.length + 1) := yc (ady b (Nat.le_trans hx.bd (pw (by omega))))
      have g1 : Good (ku madd 0 l j) := ⟨r, Nat.le_trans b (pw (by omega))⟩
      have := akg (x := DB (ku madd 0 l j)) (y := DB x)
      rw [g1.st, hx.good.st] at this
      refine ⟨?_, aal (by decide) (by decide), hb⟩
      rw [e]
      exact this (Nat.le_trans hb (pw (by omega)))
    · rw [if_neg hj, if_neg hj]
      exact ⟨e, r, Nat.le_trans b (pw (by show 1199 + l.length ≤ 1199 + (l.length + 1); omega))⟩
theorem adz (l : List Int) (h : ∀ x ∈ l, Yok x) (hl : l.length ≤ 600) (j : Nat) : lane (fun (s x : Nat) => fused x x s) (l.map DB) j = DB (ku msq 0 l j) ∧ Rep 53 (ku msq 0 l j) ∧ (ku msq 0 l j).natAbs ≤ 2 ^ (1324 + l.length) := by
  induction l using and with
  | h0 => exact ⟨by show 0 = DB 0; rw [anh], alz, Nat.zero_le _⟩
  | h1 l x ih =>
    have hll : l.length + 1 ≤ 600 := by rw [List.length_append] at hl; exact hl
    obtain ⟨e, r, b⟩ := ih (fun y hy => h y (List.mem_append_left _ hy)) (by omega)
    have hx : Yok x := h x (List.mem_append_right _ (by simp))
    have e2 : lane (fun (s x : Nat) => fused x x s) ((l ++ [x]).map DB) j = if l.length % 4 = j then fused (DB x) (DB x) (lane (fun (s x : Nat) => fused x x s) (l.map DB) j) else lane (fun (s x : Nat) => fused x x s) (l.map DB) j := by
      rw [List.map_append]
      have := x9 (fun (s x : Nat) => fused x x s) 0 (l.map DB) (DB x) j
      rw [List.length_map] at this
      exact this
    rw [e2, x9, List.length_append]
    by_cases hj : l.length % 4 = j
    · rw [if_pos hj, if_pos hj]
      have hb : (msq (ku msq 0 l j) x).natAbs ≤ 2 ^ (1324 + l.length + 1) := atv hx.bd b (by omega)
      have g1 : Good (ku msq 0 l j) := ⟨r, Nat.le_trans b (pw (by omega))⟩
      refine ⟨?_, ?_, hb⟩
      · rw [e]
        exact ao0 hx.good g1 (Nat.le_trans hb (pw (by omega)))
      · unfold msq
        exact aal (by decide) qw
    · rw [if_neg hj, if_neg hj]
      exact ⟨e, r, Nat.le_trans b (pw (by show 1324 + l.length ≤ 1324 + (l.length + 1); omega))⟩
def mall (f : Int → Int → Int) (l : List Int) : Int := madd (madd (ku f 0 l 0) (ku f 0 l 1)) (madd (ku f 0 l 2) (ku f 0 l 3))
theorem acf {a b : Int} {k : Nat} (ha : Rep 53 a ∧ a.natAbs ≤ 2 ^ k) (hb : Rep 53 b ∧ b.natAbs ≤ 2 ^ k) (hk : k ≤ 1990) : plus (DB a) (DB b) = DB (madd a b) ∧ Rep 53 (madd a b) ∧ (madd a b).natAbs ≤ 2 ^ (k + 1) := by
  have h := yc (ady ha.2 hb.2)
  have ga : Good a := ⟨ha.1, Nat.le_trans ha.2 (pw (by omega))⟩
  have gb : Good b := ⟨hb.1, Nat.le_trans hb.2 (pw (by omega))⟩
  have := akg (x := DB a) (y := DB b)
  rw [ga.st, gb.st] at this
  exact ⟨this (Nat.le_trans h (pw (by omega))), aal (by decide) (by decide), h⟩
theorem agw (l : List Int) (h : ∀ x ∈ l, Yok x) (hl : l.length ≤ 256) : folded plus (l.map DB) = DB (mall madd l) ∧ Rep 53 (mall madd l) ∧ (mall madd l).natAbs ≤ 2 ^ 1500 := by
  have a0 := abm l h (by omega) 0
  have a1 := abm l h (by omega) 1
  have a2 := abm l h (by omega) 2
  have a3 := abm l h (by omega) 3
  have b0 := acf a0.2 a1.2 (by omega)
  have b1 := acf a2.2 a3.2 (by omega)
  have c := acf b0.2 b1.2 (by omega)
  unfold folded mall
  rw [a0.1, a1.1, a2.1, a3.1, b0.1, b1.1, c.1]
  exact ⟨rfl, c.2.1, Nat.le_trans c.2.2 (pw (by omega))⟩
theorem ai6 (l : List Int) (h : ∀ x ∈ l, Yok x) (hl : l.length ≤ 256) : folded (fun (s x : Nat) => fused x x s) (l.map DB) = DB (mall msq l) ∧ Rep 53 (mall msq l) ∧ (mall msq l).natAbs ≤ 2 ^ 1600 := by
  have a0 := adz l h (by omega) 0
  have a1 := adz l h (by omega) 1
  have a2 := adz l h (by omega) 2
  have a3 := adz l h (by omega) 3
  have b0 := acf a0.2 a1.2 (by omega)
  have b1 := acf a2.2 a3.2 (by omega)
  have c := acf b0.2 b1.2 (by omega)
  unfold folded mall
  rw [a0.1, a1.1, a2.1, a3.1, b0.1, b1.1, c.1]
  exact ⟨rfl, c.2.1, Nat.le_trans c.2.2 (pw (by omega))⟩
def mmin (a : Int) (r : List Int) : Int := r.foldl (fun m x => if x < m then x else m) a
def mmax (a : Int) (r : List Int) : Int := r.foldl (fun m x => if m < x then x else m) a
theorem afj : ∀ (r : List Int) (a : Int), mmin a r ∈ a :: r ∧ ∀ y ∈ a :: r, mmin a r ≤ y
  | [], a => ⟨by simp [mmin], by intro y hy; simp at hy; rw [hy]; exact Int.le_refl _⟩
  | x :: r, a => by
    obtain ⟨h1, h2⟩ := afj r (if x < a then x else a)
    have e : mmin a (x :: r) = mmin (if x < a then x else a) r := rfl
    rw [e]
    have h3 := h2 _ (List.mem_cons_self ..)
    refine ⟨?_, fun y hy => ?_⟩
    · rcases List.mem_cons.mp h1 with h | h
      · rw [h]
        split
        · simp
        · simp
      · simp [h]
    · have h4 : (if x < a then x else a) ≤ a ∧ (if x < a then x else a) ≤ x := by split <;> omega
      rcases List.mem_cons.mp hy with h | h
      · rw [h]
        exact Int.le_trans h3 h4.1
      · rcases List.mem_cons.mp h with h | h
        · rw [h]
          exact Int.le_trans h3 h4.2
        · exact h2 y (List.mem_cons_of_mem _ h)
theorem afd : ∀ (r : List Int) (a : Int), mmax a r ∈ a :: r ∧ ∀ y ∈ a :: r, y ≤ mmax a r
  | [], a => ⟨by simp [mmax], by intro y hy; simp at hy; rw [hy]; exact Int.le_refl _⟩
  | x :: r, a => by
    obtain ⟨h1, h2⟩ := afd r (if a < x then x else a)
    have e : mmax a (x :: r) = mmax (if a < x then x else a) r := rfl
    rw [e]
    have h3 := h2 _ (List.mem_cons_self ..)
    refine ⟨?_, fun y hy => ?_⟩
    · rcases List.mem_cons.mp h1 with h | h
      · rw [h]
        split
        · simp
        · simp
      · simp [h]
    · have h4 : a ≤ (if a < x then x else a) ∧ x ≤ (if a < x then x else a) := by split <;> omega
      rcases List.mem_cons.mp hy with h | h
      · rw [h]
        exact Int.le_trans h4.1 h3
      · rcases List.mem_cons.mp h with h | h
        · rw [h]
          exact Int.le_trans h4.2 h3
        · exact h2 y (List.mem_cons_of_mem _ h)
theorem ad4 {x y : Int} (hx : Good x) (hy : Good y) : below (DB x) (DB y) = decide (x < y) := by rw [j2 hx.lt hy.lt, hx.st, hy.st]
theorem aoa : ∀ (r : List Int) (a : Int), Good a → (∀ y ∈ r, Good y) → (r.map DB).foldl (fun (m x : Nat) => if below x m = true then x else m) (DB a) = DB (mmin a r) := by
  intro r
  induction r with
  | nil => intro a _ _; unfold mmin; rw [List.map_nil, List.foldl_nil, List.foldl_nil]
  | cons x r ih =>
    intro a ha hr
    have hx := hr x (List.mem_cons_self ..)
    have hr' : ∀ y ∈ r, Good y := fun y hy => hr y (List.mem_cons_of_mem _ hy)
    have e : mmin a (x :: r) = mmin (if x < a then x else a) r := by unfold mmin; rw [List.foldl_cons]
    rw [List.map_cons, List.foldl_cons, ad4 hx ha, e]
    by_cases h : x < a
    · rw [if_pos (decide_eq_true h), if_pos h]
      exact ih x hx hr'
    · rw [if_neg (by rw [decide_eq_false h]; exact Bool.false_ne_true), if_neg h]
      exact ih a ha hr'
theorem aou : ∀ (r : List Int) (a : Int), Good a → (∀ y ∈ r, Good y) → (r.map DB).foldl (fun (m x : Nat) => if below m x = true then x else m) (DB a) = DB (mmax a r) := by
  intro r
  induction r with
  | nil => intro a _ _; unfold mmax; rw [List.map_nil, List.foldl_nil, List.foldl_nil]
  | cons x r ih =>
    intro a ha hr
    have hx := hr x (List.mem_cons_self ..)
    have hr' : ∀ y ∈ r, Good y := fun y hy => hr y (List.mem_cons_of_mem _ hy)
    have e : mmax a (x :: r) = mmax (if a < x then x else a) r := by unfold mmax; rw [List.foldl_cons]
    rw [List.map_cons, List.foldl_cons, ad4 ha hx, e]
    by_cases h : a < x
    · rw [if_pos (decide_eq_true h), if_pos h]
      exact ih x hx hr'
    · rw [if_neg (by rw [decide_eq_false h]; exact Bool.false_ne_true), if_neg h]
      exact ih a ha hr'
theorem asz (a : Int) (r : List Int) (h : ∀ x ∈ a :: r, Yok x) (hl : (a :: r).length ≤ 256) : Ql90.sums ((a :: r).map DB) = [DB (mall madd (a :: r)), DB (mall msq (a :: r)), DB (mmin a r), DB (mmax a r)] := by
  unfold Ql90.sums
  rw [(agw _ h hl).1, (ai6 _ h hl).1]
  have ga : Good a := (h a (List.mem_cons_self ..)).good
  have gr : ∀ y ∈ r, Good y := fun y hy => (h y (List.mem_cons_of_mem _ hy)).good
  rw [List.map_cons, List.drop_one, List.tail_cons, List.headD_cons, aoa r a ga gr, aou r a ga gr]
end GB
end

section
set_option linter.all false
namespace GB
open Ql90
theorem ata (f : Nat → Bool) (l : List Nat) : (l.map fun (g : Nat) => if f g = true then 2 ^ g else 0).sum = ((l.filter f).map fun (g : Nat) => 2 ^ g).sum := by
  induction l with
  | nil => rfl
  | cons x r ih =>
    rw [List.map_cons, List.sum_cons, List.filter_cons]
    cases e : f x with
    | true => rw [if_pos rfl, if_pos rfl, List.map_cons, List.sum_cons, ih]
    | false => rw [if_neg (by simp), if_neg (by simp), Nat.zero_add, ih]
theorem akv {ks : List Nat} (hn : ks.Nodup) (hb : ∀ g ∈ ks, g < 64) (p f : Nat → Bool) (hf : ∀ g, g < 64 → f g = (decide (g ∈ ks) && p g)) : Ql90.bits f = ((ks.filter p).map fun (g : Nat) => 2 ^ g).sum := by
  unfold Ql90.bits GAUGES
  rw [ata]
  have h1 : ((List.range 64).filter f).Nodup := List.Nodup.sublist List.filter_sublist List.nodup_range
  have h2 : (ks.filter p).Nodup := List.Nodup.sublist List.filter_sublist hn
  have hp : ((List.range 64).filter f).Perm (ks.filter p) := by
    apply (List.perm_ext_iff_of_nodup h1 h2).mpr
    intro g
    rw [List.mem_filter, List.mem_filter, List.mem_range]
    constructor
    · rintro ⟨a, b⟩
      rw [hf g a, Bool.and_eq_true] at b
      exact ⟨of_decide_eq_true b.1, b.2⟩
    · rintro ⟨a, b⟩
      refine ⟨hb g a, ?_⟩
      rw [hf g (hb g a), decide_eq_true a, Bool.true_and]
      exact b
  exact (hp.map _).sum_nat
theorem z8 {α : Type} (n : Nat) (l : List α) : last n l = l.drop (l.length - n) := rfl
theorem ahx {α β : Type} (f : α → β) (n : Nat) (l : List α) : last n (l.map f) = (last n l).map f := by
  rw [z8, z8, List.length_map, List.map_drop]
theorem air {α : Type} (n : Nat) (l : List α) (x : α) (h : l.length ≤ n) : last n (l ++ [x]) = if n < (l ++ [x]).length then (l ++ [x]).drop 1 else l ++ [x] := by
  rw [z8]
  by_cases hc : n < (l ++ [x]).length
  · rw [if_pos hc]
    congr 1
    rw [List.length_append, List.length_singleton] at hc ⊢
    omega
  · rw [if_neg hc, show (l ++ [x]).length - n = 0 by omega, List.drop_zero]
end GB
end

section
set_option linter.all false
namespace GB
open Ql90
theorem atd : ((S25 : Int)).natAbs ≤ 2 ^ 925 := by
  unfold S25
  rw [Int.natAbs_natCast]
  exact Nat.le_refl _
theorem al8 {z : Int} (h : Tok' z) : Ql90.ofSingle (SB z) = DB (z * (S25 : Int)) ∧ Good (z * (S25 : Int)) := by
  unfold S25
  exact akw h.rep h.bd
theorem ai2 {z : Int} (h : Tok' z) : Ql90.ofSingle (SB z) = DB (z * (S25 : Int)) ∧ Yok (z * (S25 : Int)) := by
  obtain ⟨h1, h2⟩ := al8 h
  refine ⟨h1, h2.1, ?_⟩
  have h3 := adr h.bd atd
  rw [show 274 + 925 = 1199 by decide] at h3
  exact h3
theorem amk : ∀ {l : List Int}, (∀ z ∈ l, Tok' z) → (l.map SB).map Ql90.ofSingle = (l.map fun z => z * (S25 : Int)).map DB := by
  intro l
  induction l with
  | nil => intro _; simp only [List.map_nil]
  | cons z r ih =>
    intro h
    have e1 := (ai2 (h z (List.mem_cons_self ..))).1
    have e2 := ih fun y hy => h y (List.mem_cons_of_mem _ hy)
    generalize (S25 : Int) = s at *
    simp only [List.map_cons]
    rw [e2]
    congr 1
end GB
end

section
set_option linter.all false
namespace GB
open Ql90
def mput {α : Type} (f : List α) (p : Nat) (l : List α) : List α := f.take p ++ (l ++ f.drop (p + l.length))
theorem apm {α : Type} (f : List α) (p : Nat) (l : List α) (z : α) (h : p + l.length < f.length) : (mput f p l).set (p + l.length) z = mput f p (l ++ [z]) := by
  unfold mput
  have e : f.drop (p + l.length) = f[p + l.length] :: f.drop (p + l.length + 1) := List.drop_eq_getElem_cons h
  have hp : (f.take p).length = p := by rw [List.length_take]; omega
  rw [e, List.set_append_right _ _ (by rw [hp]; omega), hp, Nat.add_sub_cancel_left, List.set_append_right _ _ (Nat.le_refl _), Nat.sub_self, List.set_cons_zero, List.append_assoc, List.length_append, List.length_singleton]
  rfl
theorem ap3 {α : Type} (f : List α) (p : Nat) : mput f p [] = f := by
  unfold mput
  rw [List.nil_append, List.length_nil, Nat.add_zero, List.take_append_drop]
theorem aqq {α : Type} (f : List α) (p : Nat) (l : List α) (h : p + l.length ≤ f.length) : (mput f p l).length = f.length := by
  unfold mput
  rw [List.length_append, List.length_append, List.length_take, List.length_drop]
  omega
theorem asv {β : Type} (φ : UInt8 → β) (f : Bytes) (p : Nat) (l : Bytes) : (put f p l).map φ = mput (f.map φ) p (l.map φ) := by
  unfold put mput
  rw [List.map_append, List.map_append, List.map_take, List.map_drop, List.length_map]
theorem ant (f : Bytes) (p : Nat) (l : Bytes) (h : p + l.length ≤ f.length) : (put f p l).length = f.length := by
  unfold put
  rw [List.length_append, List.length_append, List.length_take, List.length_drop]
  omega
theorem ak5 {l : List Int} (h : ∀ x ∈ l, o8 x) : (l.map jh).map (fun (c : UInt8) => (c.toNat : Int)) = l := by
  induction l with
  | nil => rfl
  | cons x r ih =>
    rw [List.map_cons, List.map_cons, ih fun y hy => h y (List.mem_cons_of_mem _ hy), af2 (h x (List.mem_cons_self ..))]
theorem aeo {α : Type} (f : α → Bool) (l : List α) : (l.map f).all id = l.all f := by
  induction l with
  | nil => rfl
  | cons x r ih => rw [List.map_cons, List.all_cons, List.all_cons, ih]; rfl
theorem aqo {α : Type} (f g : α → Bool) (l : List α) : (l.all fun x => f x && g x) = (l.all f && l.all g) := by
  induction l with
  | nil => rfl
  | cons x r ih =>
    rw [List.all_cons, List.all_cons, List.all_cons, ih]
    cases f x <;> cases g x <;> cases r.all f <;> cases r.all g <;> rfl
theorem ap2 {ys : List Int} {g : Nat} {z : Int} (h : ys[g]? = some z) : (ys.map Int.toNat).getD g 0 = z.toNat := by
  rw [List.getD_eq_getElem?_getD, List.getElem?_map, h]
  rfl
end GB
end

section
set_option Elab.async false
set_option maxRecDepth 100000
namespace GB
open PySem L2
def top (i : Nat) : Stmt := PySem.Challenge.pw_gaugeboard_s01_answers.main.body.getD i (.Pass ⟨0, 0, 0, 0⟩)
abbrev gk : Stmt := inClass (top 2) 0
abbrev bz : Stmt := inClass (top 2) 1
abbrev bb : Stmt := inClass (top 2) 2
abbrev bo : Stmt := inClass (top 2) 3
abbrev bg : Stmt := inClass (top 2) 4
abbrev v0 : Stmt := top 11
abbrev qk : Stmt := top 12
abbrev yz : Stmt := top 13
abbrev qj : Stmt := top 14
abbrev y0 : Stmt := top 15
abbrev oo : Stmt := top 16
abbrev aff : Stmt := top 17
abbrev ua : Stmt := top 18
abbrev adb : Stmt := top 19
abbrev xu : Stmt := top 20
abbrev ae1 : Stmt := top 21
abbrev yx : Stmt := top 22
abbrev y8 : Stmt := top 23
abbrev ui : Stmt := top 24
abbrev ac4 : Stmt := top 25
abbrev z4 : Stmt := top 26
abbrev adc : Stmt := top 27
abbrev ae2 : Stmt := top 29
abbrev aac : Stmt := top 30
abbrev ac6 : Stmt := top 31
abbrev we : Stmt := top 32
abbrev abf : Stmt := top 33
abbrev aak : Stmt := top 34
abbrev amj : Stmt := top 35
abbrev abc : Stmt := top 36
abbrev aar : Stmt := top 37
abbrev amb : Stmt := top 41
abbrev xo : Stmt := top 42
abbrev wf : Stmt := top 43
abbrev y6 : Stmt := top 44
abbrev sx : Stmt := top 47
abbrev o6 : Stmt := top 48
abbrev mr : Stmt := inClass (top 49) 0
abbrev kz : Stmt := inClass (top 49) 1
abbrev gp : Stmt := inClass (top 49) 2
abbrev cr : Stmt := inClass (top 49) 3
abbrev lq : Stmt := inClass (top 49) 4
abbrev cf : Stmt := inClass (top 49) 5
abbrev qh : Stmt := inClass (top 49) 6
abbrev el : Stmt := inClass (top 49) 7
abbrev ajx : Stmt := top 52
abbrev abg : Stmt := top 53
abbrev afg : Stmt := top 54
abbrev yk : Stmt := top 62
abbrev adg : Stmt := top 63
abbrev z7 : Stmt := top 64
abbrev amm : Stmt := top 65
abbrev ab8 : Stmt := top 66
abbrev aa9 : Stmt := top 67
abbrev pb : Stmt := inClass (top 68) 0
abbrev aq : Stmt := inClass (top 68) 1
abbrev qf : Stmt := inClass (top 68) 2
abbrev fk : Stmt := inClass (top 68) 3
abbrev ef : Stmt := inClass (top 68) 4
abbrev br : Stmt := inClass (top 68) 5
abbrev eu : Stmt := inClass (top 68) 6
abbrev mf : Stmt := inClass (top 68) 7
abbrev eh : Stmt := inClass (top 68) 8
abbrev gw : Stmt := inClass (top 68) 9
abbrev iz : Stmt := inClass (top 68) 10
abbrev g4 : Stmt := inClass (top 68) 11
abbrev ic : Stmt := inClass (top 68) 12
abbrev bn : Stmt := inClass (top 68) 13
abbrev bm : Stmt := inClass (top 68) 14
abbrev fu : Stmt := inClass (top 68) 15
abbrev jp : Stmt := inClass (top 68) 16
abbrev dz : Stmt := inClass (top 68) 17
abbrev dq : Stmt := inClass (top 68) 18
abbrev ed : Stmt := inClass (top 68) 19
abbrev ahr : Stmt := top 69
abbrev ab9 : Stmt := top 70
structure Ad where
  fq : Addr
  gl : FuncData
  bq : Addr
  b3 : FuncData
  az : Addr
  ay : FuncData
  bt : Addr
  b4 : FuncData
  bh : Addr
  bf : FuncData
  jy : Addr
  j0 : FuncData
  dn : Addr
  dh : FuncData
  nq : Addr
  na : FuncData
  dk : Addr
  dj : FuncData
  nb : Addr
  m7 : FuncData
  cn : Addr
  cw : FuncData
  wv : Addr
  w9 : FuncData
  gc : Addr
  fx : FuncData
  ut : Addr
  ul : FuncData
  ll : Addr
  ky : FuncData
  xa : Addr
  w6 : FuncData
  nc : Addr
  ni : FuncData
  m8 : Addr
  nk : FuncData
  ij : Addr
  ie : FuncData
  vd : Addr
  uq : FuncData
  pc : Addr
  pj : FuncData
  vk : Addr
  uw : FuncData
  wz : Addr
  w8 : FuncData
  o9 : Addr
  ph : FuncData
  uy : Addr
  uv : FuncData
  jt : Addr
  jv : FuncData
  sh : Addr
  rm : FuncData
  qd : Addr
  pk : FuncData
  ae8 : Addr
  afn : FuncData
  si : Addr
  sf : FuncData
  vi : Addr
  uu : FuncData
  afc : Addr
  ae4 : FuncData
  lm : Addr
  lu : FuncData
  jk : Addr
  jo : FuncData
  nj : Addr
  nh : FuncData
  gh : Addr
  fo : FuncData
  md : Addr
  lf : FuncData
  px : Addr
  p5 : FuncData
  lw : Addr
  lg : FuncData
  fy : Addr
  fz : FuncData
  ck : Addr
  cb : FuncData
  lc : Addr
  me : FuncData
  cq : Addr
  cu : FuncData
  p4 : Addr
  p6 : FuncData
  dy : Addr
  eg : FuncData
  acd : Addr
  ab5 : FuncData
  rk : Addr
  sd : FuncData
  ww : Addr
  wy : FuncData
  rq : Addr
  r0 : FuncData
  vj : Addr
  vg : FuncData
  ug : Addr
  um : FuncData
  aet : Addr
  aeu : FuncData
  xh : Addr
  xb : FuncData
  se : Addr
  r8 : FuncData
  pi : Addr
  p9 : FuncData
  b5 : Addr
  bw : FuncData
  qe : Addr
  pz : FuncData
  gg : Addr
  gf : FuncData
  iq : Addr
  iu : FuncData
  bv : Addr
  bu : FuncData
  ej : Addr
  eq : FuncData
  la : Addr
  lh : FuncData
  ir : Addr
  im : FuncData
  jz : Addr
  jl : FuncData
  lj : Addr
  lx : FuncData
  ju : Addr
  jq : FuncData
  ig : Addr
  ib : FuncData
  fw : Addr
  fi : FuncData
  fv : Addr
  fj : FuncData
  gi : Addr
  gj : FuncData
  jn : Addr
  js : FuncData
  il : Addr
  ii : FuncData
  jw : Addr
  jr : FuncData
  io : Addr
  ip : FuncData
  zx : Addr
  z1 : FuncData
  xg : Addr
  vc : FuncData
  ad : Addr
  ac : Addr
  ah : Addr
  zo : Addr
structure Txt (K : PySem.W.Frag) (mg : Str → Option Value) (t : Ad) : Prop where
  j9 : Fun K "__init__" "CallReader.__init__" gk t.fq t.gl
  yw : Binds K t.gl ["self", "calls"] []
  dv : Fun K "has_more" "CallReader.has_more" bz t.bq t.b3
  ud : Binds K t.b3 ["self"] []
  jg : Meth K t.ad "has_more" t.bq
  b7 : Fun K "take_number" "CallReader.take_number" bb t.az t.ay
  fc : Binds K t.ay ["self"] []
  ba : Meth K t.ad "take_number" t.az
  du : Fun K "take_row" "CallReader.take_row" bo t.bt t.b4
  ue : Binds K t.b4 ["self"] []
  je : Meth K t.ad "take_row" t.bt
  cv : Fun K "take_parts" "CallReader.take_parts" bg t.bh t.bf
  r9 : Binds K t.bf ["self", "number"] []
  gm : Meth K t.ad "take_parts" t.bh
  gu : Fun K "nearest_whole" "nearest_whole" v0 t.jy t.j0
  wj : Binds K t.j0 ["top", "below"] []
  my : mg "nearest_whole" = some (.ref t.jy)
  bc : Fun K "nearest_of_digits" "nearest_of_digits" qk t.dn t.dh
  kr : Binds K t.dh ["top", "below", "digits"] []
  dl : mg "nearest_of_digits" = some (.ref t.dn)
  al : Fun K "made_double" "made_double" yz t.nq t.na
  aw : Binds K t.na ["top", "below"] []
  ao : mg "made_double" = some (.ref t.nq)
  di : Fun K "whole_made_double" "whole_made_double" qj t.dk t.dj
  wl : Binds K t.dj ["number"] []
  kq : mg "whole_made_double" = some (.ref t.dk)
  km : Fun K "made_single" "made_single" y0 t.nb t.m7
  zc : Binds K t.m7 ["steps"] []
  qm : mg "made_single" = some (.ref t.nb)
  cc : Fun K "single_made_double" "single_made_double" oo t.cn t.cw
  vw : Binds K t.cw ["single"] []
  j8 : mg "single_made_double" = some (.ref t.cn)
  xi : Fun K "product" "product" aff t.wv t.w9
  aja : Binds K t.w9 ["first", "second"] []
  acg : mg "product" = some (.ref t.wv)
  cz : Fun K "product_and_sum" "product_and_sum" ua t.gc t.fx
  tf : Binds K t.fx ["first", "second", "third"] []
  j5 : mg "product_and_sum" = some (.ref t.gc)
  va : Fun K "quotient" "quotient" adb t.ut t.ul
  ag3 : Binds K t.ul ["first", "second"] []
  aam : mg "quotient" = some (.ref t.ut)
  iw : Fun K "whole_number" "whole_number" xu t.ll t.ky
  xl : Binds K t.ky ["steps"] []
  o1 : mg "whole_number" = some (.ref t.ll)
  vh : Fun K "bits_of" "bits_of" ae1 t.xa t.w6
  aeq : Binds K t.w6 ["steps", "digits", "width"] []
  zi : mg "bits_of" = some (.ref t.xa)
  b6 : Fun K "double_bits" "double_bits" yx t.nc t.ni
  kl : Binds K t.ni ["steps"] []
  fb : mg "double_bits" = some (.ref t.nc)
  kj : Fun K "single_bits" "single_bits" y8 t.m8 t.nk
  zb : Binds K t.nk ["steps"] []
  qp : mg "single_bits" = some (.ref t.m8)
  cx : Fun K "exponent_field" "exponent_field" ui t.ij t.ie
  p8 : Binds K t.ie ["bits"] []
  ik : mg "exponent_field" = some (.ref t.ij)
  o4 : Fun K "steps_of" "steps_of" ac4 t.vd t.uq
  aaj : Binds K t.uq ["bits"] []
  uz : mg "steps_of" = some (.ref t.vd)
  qg : Fun K "is_measure" "is_measure" z4 t.pc t.pj
  adq : Binds K t.pj ["bits"] []
  wq : mg "is_measure" = some (.ref t.pc)
  rh : Fun K "is_point" "is_point" adc t.vk t.uw
  ac8 : Binds K t.uw ["bits"] []
  x8 : mg "is_point" = some (.ref t.vk)
  xc : Fun K "is_kind" "is_kind" ae2 t.wz t.w8
  aiz : Binds K t.w8 ["kind"] []
  aci : mg "is_kind" = some (.ref t.wz)
  bj : Fun K "byte_count" "byte_count" aac t.o9 t.ph
  g5 : Binds K t.ph ["kind"] []
  de : mg "byte_count" = some (.ref t.o9)
  ux : Fun K "has_sign" "has_sign" ac6 t.uy t.uv
  ahe : Binds K t.uv ["kind"] []
  aap : mg "has_sign" = some (.ref t.uy)
  gy : Fun K "highest_first" "highest_first" we t.jt t.jv
  wa : Binds K t.jv ["kind"] []
  m5 : mg "highest_first" = some (.ref t.jt)
  o7 : Fun K "lowest_of" "lowest_of" abf t.sh t.rm
  abd : Binds K t.rm ["kind"] []
  vq : mg "lowest_of" = some (.ref t.sh)
  ml : Fun K "highest_of" "highest_of" aak t.qd t.pk
  z6 : Binds K t.pk ["kind"] []
  sq : mg "highest_of" = some (.ref t.qd)
  abx : Fun K "held" "held" amj t.ae8 t.afn
  aj0 : Binds K t.afn ["number", "kind"] []
  afb : mg "held" = some (.ref t.ae8)
  rn : Fun K "number_at" "number_at" abc t.si t.sf
  afp : Binds K t.sf ["frame", "place", "kind"] []
  ye : mg "number_at" = some (.ref t.si)
  ve : Fun K "bytes_of" "bytes_of" aar t.vi t.uu
  ahb : Binds K t.uu ["number", "kind"] []
  aab : mg "bytes_of" = some (.ref t.vi)
  abl : Fun K "zone" "zone" amb t.afc t.ae4
  aj5 : Binds K t.ae4 ["value", "limits"] []
  ae9 : mg "zone" = some (.ref t.afc)
  kx : Fun K "raised_below" "raised_below" xo t.lm t.lu
  abj : Binds K t.lu ["limits", "slack"] []
  tj : mg "raised_below" = some (.ref t.lm)
  jm : Fun K "lowered_above" "lowered_above" wf t.jk t.jo
  aay : Binds K t.jo ["limits", "slack"] []
  rc : mg "lowered_above" = some (.ref t.jk)
  m9 : Fun K "state_after" "state_after" y6 t.nj t.nh
  acs : Binds K t.nh ["state", "value", "limits", "slack"] []
  vn : mg "state_after" = some (.ref t.nj)
  fm : Fun K "limits_in_order" "limits_in_order" sx t.gh t.fo
  yo : Binds K t.fo ["limits"] []
  nz : mg "limits_in_order" = some (.ref t.gh)
  le : Fun K "how_is_right" "how_is_right" o6 t.md t.lf
  ab2 : Binds K t.lf ["how"] []
  ub : mg "how_is_right" = some (.ref t.md)
  sr : Fun K "__init__" "Gauge.__init__" mr t.px t.p5
  aei : Binds K t.p5 ["self", "kind", "place", "how"] []
  oy : Fun K "forget" "Gauge.forget" kz t.lw t.lg
  xt : Binds K t.lg ["self"] []
  o0 : Meth K t.ac "forget" t.lw
  kb : Fun K "end_place" "Gauge.end_place" gp t.fy t.fz
  yl : Binds K t.fz ["self"] []
  n6 : Meth K t.ac "end_place" t.fy
  fg : Fun K "take_reading" "Gauge.take_reading" cr t.ck t.cb
  vv : Binds K t.cb ["self", "number"] []
  j1 : Meth K t.ac "take_reading" t.ck
  oz : Fun K "smooth" "Gauge.smooth" lq t.lc t.me
  abo : Binds K t.me ["self", "value"] []
  ss : Meth K t.ac "smooth" t.lc
  ff : Fun K "add_to_trace" "Gauge.add_to_trace" cf t.cq t.cu
  vt : Binds K t.cu ["self", "single"] []
  kd : Meth K t.ac "add_to_trace" t.cq
  s0 : Fun K "dial" "Gauge.dial" qh t.p4 t.p6
  ad0 : Binds K t.p6 ["self"] []
  wr : Meth K t.ac "dial" t.p4
  jc : Fun K "number_for" "Gauge.number_for" el t.dy t.eg
  xq : Binds K t.eg ["self", "value"] []
  mq : Meth K t.ac "number_for" t.dy
  wt : Fun K "added" "added" ajx t.acd t.ab5
  adn : Binds K t.ab5 ["first", "second"] []
  aad : mg "added" = some (.ref t.acd)
  oq : Fun K "all_parts" "all_parts" abg t.rk t.sd
  aby : Binds K t.sd ["parts"] []
  vo : mg "all_parts" = some (.ref t.rk)
  xk : Fun K "sums_of" "sums_of" afg t.ww t.wy
  ajb : Binds K t.wy ["numbers"] []
  ace : mg "sums_of" = some (.ref t.ww)
  ke : Fun K "gauges_in" "gauges_in" yk t.rq t.r0
  vx : Binds K t.r0 ["which"] []
  ot : mg "gauges_in" = some (.ref t.rq)
  mo : Fun K "is_gauge" "is_gauge" adg t.vj t.vg
  x6 : Binds K t.vg ["g"] []
  rf : mg "is_gauge" = some (.ref t.vj)
  rj : Fun K "as_which" "as_which" z7 t.ug t.um
  adh : Binds K t.um ["numbers"] []
  xn : mg "as_which" = some (.ref t.ug)
  aex : Fun K "told" "told" amm t.aet t.aeu
  aqg : Binds K t.aeu ["gauge", "form"] []
  akb : mg "told" = some (.ref t.aet)
  vf : Fun K "counted" "counted" ab8 t.xh t.xb
  aew : Binds K t.xb ["gauges", "numbers"] []
  zp : mg "counted" = some (.ref t.xh)
  o5 : Fun K "bytes_for" "bytes_for" aa9 t.se t.r8
  abn : Binds K t.r8 ["gauge", "y"] []
  vz : mg "bytes_for" = some (.ref t.se)
  sv : Fun K "__init__" "Board.__init__" pb t.pi t.p9
  aai : Binds K t.p9 ["self"] []
  dr : Fun K "with_readings" "Board.with_readings" aq t.b5 t.bw
  jf : Binds K t.bw ["self", "which"] []
  bp : Meth K t.ah "with_readings" t.b5
  tp : Fun K "fits" "Board.fits" qf t.qe t.pz
  aas : Binds K t.pz ["self", "g", "length"] []
  sy : Meth K t.ah "fits" t.qe
  j7 : Fun K "can_point" "Board.can_point" fk t.gg t.gf
  tu : Binds K t.gf ["self", "g"] []
  kf : Meth K t.ah "can_point" t.gg
  li : Fun K "in_state" "Board.in_state" ef t.iq t.iu
  zk : Binds K t.iu ["self", "state"] []
  pq : Meth K t.ah "in_state" t.iq
  dt : Fun K "last_of_trace" "Board.last_of_trace" br t.bv t.bu
  nu : Binds K t.bu ["self", "g", "n"] []
  dw : Meth K t.ah "last_of_trace" t.bv
  jb : Fun K "keep_event" "Board.keep_event" eu t.ej t.eq
  xp : Binds K t.eq ["self", "event"] []
  mh : Meth K t.ah "keep_event" t.ej
  om : Fun K "gb_set" "Board.gb_set" mf t.la t.lh
  abw : Binds K t.lh ["self", "g", "kind", "place", "how"] []
  uc : Meth K t.ah "gb_set" t.la
  kt : Fun K "gb_frame" "Board.gb_frame" eh t.ir t.im
  zu : Binds K t.im ["self", "which", "time", "frame"] []
  qc : Meth K t.ah "gb_frame" t.ir
  m3 : Fun K "gb_tell" "Board.gb_tell" gw t.jz t.jl
  aa0 : Binds K t.jl ["self", "which", "form"] []
  qy : Meth K t.ah "gb_tell" t.jz
  o3 : Fun K "gb_raw" "Board.gb_raw" iz t.lj t.lx
  abe : Binds K t.lx ["self", "which", "form"] []
  tz : Meth K t.ah "gb_raw" t.lj
  m6 : Fun K "gb_dial" "Board.gb_dial" g4 t.ju t.jq
  aaz : Binds K t.jq ["self", "which"] []
  rb : Meth K t.ah "gb_dial" t.ju
  ld : Fun K "gb_point" "Board.gb_point" ic t.ig t.ib
  zd : Binds K t.ib ["self", "g", "y"] []
  pd : Meth K t.ah "gb_point" t.ig
  j3 : Fun K "gb_points" "Board.gb_points" bn t.fw t.fi
  yg : Binds K t.fi ["self", "which", "y", "frame"] []
  ny : Meth K t.ah "gb_points" t.fw
  ka : Fun K "gb_states" "Board.gb_states" bm t.fv t.fj
  yr : Binds K t.fj ["self"] []
  n9 : Meth K t.ah "gb_states" t.fv
  j6 : Fun K "gb_events" "Board.gb_events" fu t.gi t.gj
  yq : Binds K t.gj ["self", "most"] []
  og : Meth K t.ah "gb_events" t.gi
  m4 : Fun K "gb_lost" "Board.gb_lost" jp t.jn t.js
  aax : Binds K t.js ["self"] []
  qt : Meth K t.ah "gb_lost" t.jn
  ly : Fun K "gb_trace" "Board.gb_trace" dz t.il t.ii
  ze : Binds K t.ii ["self", "g", "n"] []
  qi : Meth K t.ah "gb_trace" t.il
  mx : Fun K "gb_sums" "Board.gb_sums" dq t.jw t.jr
  aav : Binds K t.jr ["self", "g", "n"] []
  qx : Meth K t.ah "gb_sums" t.jw
  ma : Fun K "gb_clear" "Board.gb_clear" ed t.io t.ip
  zz : Binds K t.ip ["self", "which"] []
  pp : Meth K t.ah "gb_clear" t.io
  zj : Fun K "answer" "answer" ahr t.zx t.z1
  akx : Binds K t.z1 ["board", "number", "parts"] []
  aem : mg "answer" = some (.ref t.zx)
  xf : Fun K "answers" "answers" ab9 t.xg t.vc
  aob : Binds K t.vc ["calls"] []
  ach : mg "answers" = some (.ref t.xg)
  ak : Cls K t.ad
  vm : Mk K t.ad t.fq
  wo : mg "CallReader" = some (.ref t.ad)
  ca : NoAttr K t.ad "calls"
  b9 : NoAttr K t.ad "at"
  aa : Cls K t.ac
  aep : Mk K t.ac t.px
  agp : mg "Gauge" = some (.ref t.ac)
  g6 : NoAttr K t.ac "kind"
  ko : NoAttr K t.ac "place"
  ki : NoAttr K t.ac "scale"
  lb : NoAttr K t.ac "offset"
  on : NoAttr K t.ac "weight"
  oj : NoAttr K t.ac "limits"
  qo : NoAttr K t.ac "slack"
  ja : NoAttr K t.ac "dial_start"
  iy : NoAttr K t.ac "dial_scale"
  be : NoAttr K t.ac "has_reading"
  dm : NoAttr K t.ac "last_number"
  ia : NoAttr K t.ac "value"
  cg : NoAttr K t.ac "smoothed"
  g9 : NoAttr K t.ac "least"
  cj : NoAttr K t.ac "greatest"
  kh : NoAttr K t.ac "trace"
  cy : NoAttr K t.ac "state"
  ab : Cls K t.ah
  ab1 : Mk K t.ah t.pi
  ael : mg "Board" = some (.ref t.ah)
  aj : NoAttr K t.ah "gauges"
  dg : NoAttr K t.ah "events"
  pf : NoAttr K t.ah "lost"
  aef : mg "SHAPES" = some (.ref t.zo)
  aeh : ∃ as : List Addr, (∀ H, SqT K H t.zo (as.map V.ref)) ∧ as.length = 14 ∧ ∀ (i : Nat) (a b : Int), ([(0, 0), (3, 1), (2, 1), (2, 0), (2, 0), (1, 0), (2, 0), (1, 2), (0, 0), (1, 0), (0, 0), (2, 0), (2, 0), (1, 0)] : List (Int × Int))[i]? = some (a, b) → ∃ p, as[i]? = some p ∧ ∀ H, SqT K H p [.int a, .int b]
  wc : ∃ u, mg "STEP" = some u ∧ RelV (.int 1074) u
  ql : ∃ u, mg "SINGLE_STEP" = some u ∧ RelV (.int 149) u
  jj : ∃ u, mg "DOUBLE_DIGITS" = some u ∧ RelV (.int 53) u
  mw : ∃ u, mg "SINGLE_DIGITS" = some u ∧ RelV (.int 24) u
  mn : ∃ u, mg "SMALLEST_MEASURE" = some u ∧ RelV (.int 963) u
  n8 : ∃ u, mg "BEYOND_MEASURES" = some u ∧ RelV (.int 1083) u
  ra : ∃ u, mg "BEYOND_POINTS" = some u ∧ RelV (.int 1148) u
  adv : ∃ u, mg "STATES" = some u ∧ RelV (.int 5) u
  ae7 : ∃ u, mg "FINE" = some u ∧ RelV (.int 2) u
  lv : ∃ u, mg "TRACE_LENGTH" = some u ∧ RelV (.int 256) u
  acb : ∃ u, mg "PARTS" = some u ∧ RelV (.int 4) u
  abh : ∃ u, mg "GAUGES" = some u ∧ RelV (.int 64) u
  qz : ∃ u, mg "LONGEST_FRAME" = some u ∧ RelV (.int 1024) u
  qr : ∃ u, mg "MOST_EVENTS" = some u ∧ RelV (.int 256) u
  yh : ∃ u, mg "DIAL_KIND" = some u ∧ RelV (.int 4) u
  yt : ∃ u, mg "NO_DOUBLE" = some u ∧ RelV (.int 9221120237041090560) u
  yi : ∃ u, mg "NO_SINGLE" = some u ∧ RelV (.int 2143289344) u
  alx : mg "abs" = none
  aej : mg "max" = none
  ah2 : mg "min" = none
  zr : mg "len" = none
  yn : mg "range" = none
  afu : mg "all" = none
  aes : mg "list" = none
  xw : mg "reversed" = none
  am8 : mg "sum" = none
  vp : mg "enumerate" = none
end GB
end

section
set_option Elab.async false
set_option maxRecDepth 100000
namespace GB
open PySem L2 PySem.Spec PyProof.Rows
section
variable {X : Cx}
def Sm (k : Nat) (z : Int) : Prop := z.natAbs < 2 ^ k
theorem Sm.bits {k : Nat} {z : Int} (h : Sm k z) : Builtin.Int.intBits z ≤ k := by
  unfold Builtin.Int.intBits
  by_cases h0 : z = 0
  · subst h0; exact Nat.zero_le _
  · rw [if_neg (by simpa using h0)]
    exact (Nat.log2_lt (by omega)).mpr h
theorem Sm.log {k : Nat} {z : Int} (h : Sm k z) (hk : k ≤ 8999) : z.natAbs.log2 < 9000 := by
  by_cases h0 : z.natAbs = 0
  · rw [h0]; decide
  · exact Nat.lt_of_lt_of_le ((Nat.log2_lt h0).mpr h) (by omega)
theorem Sm.mono {j k : Nat} {z : Int} (h : Sm j z) (hk : j ≤ k) : Sm k z := Nat.lt_of_lt_of_le h (Nat.pow_le_pow_right (by decide) hk)
theorem aud {i j : Int} (hi : Sm 9000 i) (hj : Sm 9000 j) : IntMulOk i j := IntMulOk.of_le hi.bits hj.bits (by decide)
theorem qu : OpR X (binaryOp .Mult) (rI (fun i j => Sm 9000 i ∧ Sm 9000 j) fun i j => .int (i * j)) := opI fun _ _ _ _ _ _ _ hc q => mul_int q (aud hc.1 hc.2)
theorem aea : OpR X (binaryOp .FloorDiv) (rI (fun _ j => 0 < j ∧ Sm 8999 j) fun i j => .int (i / j)) := opI fun i j _ _ _ _ _ hc q =>
  floordiv_int (by have := hc.1; omega) (by rw [Int.fdiv_eq_ediv_of_nonneg i (by have := hc.1; omega)]; exact q) (.inl (PyProof.noPylong_of_log2 (hc.2.log (Nat.le_refl _))))
theorem fe : OpR X (binaryOp .LShift) (rI (fun i j => Sm 9000 i ∧ 0 ≤ j ∧ j ≤ 9000) fun i j => .int (i * ((2 ^ j.toNat : Nat) : Int))) := opI fun i j _ _ _ _ _ hc q => by
  refine lshift_int hc.2.1 ?_ ?_
  · have := hc.1.bits
    have := hc.2.2
    omega
  · rw [show ((2 : Int) ^ j.toNat) = ((2 ^ j.toNat : Nat) : Int) by exact (Int.natCast_pow 2 j.toNat).symm]
    exact q
theorem adw : OpR X (binaryOp .RShift) (rI (fun _ j => 0 ≤ j) fun i j => .int (i / ((2 ^ j.toNat : Nat) : Int))) := by
  intro pins s σ H x y v u Q I rx ry h
  obtain ⟨i, j, e1, e2, hc, q⟩ := h
  refine op_shr pins s σ H x y v u Q I rx ry ⟨i, j, e1, e2, hc, ?_⟩
  show Q (V.int (i / (2 : Int) ^ j.toNat)) H
  rw [show ((2 : Int) ^ j.toNat) = ((2 ^ j.toNat : Nat) : Int) by exact (Int.natCast_pow 2 j.toNat).symm]
  exact q
theorem am6 (n : Nat) : Builtin.Int.intBits (n : Int) = bl n := by
  unfold Builtin.Int.intBits bl
  by_cases h0 : n = 0
  · subst h0; rfl
  · rw [if_neg (by simpa using h0), if_neg h0, Int.natAbs_natCast]
variable {C : Int → Int → Prop} {g : Int → Int → V} {i j k : Int} {H : Hp} {Q : VK} {E : XK}
theorem aju : rI C g (.int i) (.int j) H Q = (C i j ∧ Q (g i j) H) := by
  apply propext
  exact ⟨fun ⟨_, _, e1, e2, h⟩ => by cases e1; cases e2; exact h, fun h => ⟨_, _, rfl, rfl, h⟩⟩
theorem agm : rI0 g (.int i) (.int j) H Q = Q (g i j) H := by
  apply propext
  exact ⟨fun ⟨_, _, e1, e2, h⟩ => by cases e1; cases e2; exact h, fun h => ⟨_, _, rfl, rfl, h⟩⟩
theorem aq9 {f : Int → V} : rU f (.int i) H Q = Q (f i) H := by
  apply propext
  exact ⟨fun ⟨_, e1, h⟩ => by cases e1; exact h, fun h => ⟨_, rfl, h⟩⟩
theorem aj3 : rEq (.int i) (.int j) H Q = Q (.bl (decide (i = j))) H := by
  unfold rEq
  rw [show scal (V.int i) (V.int j) = true from rfl]
  have e : decide (V.int i = V.int j) = decide (i = j) := by
    apply decide_eq_decide.mpr
    exact ⟨fun h => by cases h; rfl, fun h => by rw [h]⟩
  rw [e]
  simp
theorem agk : rNe (.int i) (.int j) H Q = Q (.bl (!decide (i = j))) H := by
  unfold rNe
  rw [show scal (V.int i) (V.int j) = true from rfl]
  have e : decide (V.int i = V.int j) = decide (i = j) := by
    apply decide_eq_decide.mpr
    exact ⟨fun h => by cases h; rfl, fun h => by rw [h]⟩
  rw [e]
  simp
def sp1 (C : Int → Prop) (f : Int → Int) : Sp := fun vs H Q _ => ∃ a : Int, vs = [.int a] ∧ C a ∧ Q (.int (f a)) H
def sp2 (C : Int → Int → Prop) (f : Int → Int → Int) : Sp := fun vs H Q _ => ∃ a b : Int, vs = [.int a, .int b] ∧ C a b ∧ Q (.int (f a b)) H
def sp3 (C : Int → Int → Int → Prop) (f : Int → Int → Int → Int) : Sp := fun vs H Q _ => ∃ a b c : Int, vs = [.int a, .int b, .int c] ∧ C a b c ∧ Q (.int (f a b c)) H
def spb (C : Int → Prop) (f : Int → Bool) : Sp := fun vs H Q _ => ∃ a : Int, vs = [.int a] ∧ C a ∧ Q (.bl (f a)) H
theorem ajk {C : Int → Prop} {f : Int → Int} : sp1 C f [.int i] H Q E = (C i ∧ Q (.int (f i)) H) := by
  apply propext
  exact ⟨fun ⟨_, e1, h⟩ => by cases e1; exact h, fun h => ⟨_, rfl, h⟩⟩
theorem anc {C : Int → Prop} {f : Int → Bool} : spb C f [.int i] H Q E = (C i ∧ Q (.bl (f i)) H) := by
  apply propext
  exact ⟨fun ⟨_, e1, h⟩ => by cases e1; exact h, fun h => ⟨_, rfl, h⟩⟩
theorem aj2 {f : Int → Int → Int} : sp2 C f [.int i, .int j] H Q E = (C i j ∧ Q (.int (f i j)) H) := by
  apply propext
  exact ⟨fun ⟨_, _, e1, h⟩ => by cases e1; exact h, fun h => ⟨_, _, rfl, h⟩⟩
theorem am7 {C : Int → Int → Int → Prop} {f : Int → Int → Int → Int} : sp3 C f [.int i, .int j, .int k] H Q E = (C i j k ∧ Q (.int (f i j k)) H) := by
  apply propext
  exact ⟨fun ⟨_, _, _, e1, h⟩ => by cases e1; exact h, fun h => ⟨_, _, _, rfl, h⟩⟩
theorem ajd : bootBuiltins "abs" = some (.builtin "abs") := by decide +kernel
theorem wx : bootBuiltins "max" = some (.builtin "max") := by decide +kernel
theorem acj : bootBuiltins "min" = some (.builtin "min") := by decide +kernel
theorem zf : bootBuiltins "all" = some (.builtin "all") := by decide +kernel
theorem aho : bootBuiltins "list" = some (.type "list") := by decide +kernel
def rAb : List V → Hp → VK → Prop := fun xs H Q => ∃ i, xs = [.int i] ∧ Q (.int (i.natAbs : Nat)) H
def rMx : List V → Hp → VK → Prop := fun xs H Q => ∃ i j, xs = [.int i, .int j] ∧ Q (.int (max i j)) H
def rMn : List V → Hp → VK → Prop := fun xs H Q => ∃ i j, xs = [.int i, .int j] ∧ Q (.int (min i j)) H
theorem ane : rAb [.int i] H Q = Q (.int (i.natAbs : Nat)) H := by
  apply propext
  exact ⟨fun ⟨_, e1, h⟩ => by cases e1; exact h, fun h => ⟨_, rfl, h⟩⟩
theorem ago : rMx [.int i, .int j] H Q = Q (.int (max i j)) H := by
  apply propext
  exact ⟨fun ⟨_, _, e1, h⟩ => by cases e1; exact h, fun h => ⟨_, _, rfl, h⟩⟩
theorem agn : rMn [.int i, .int j] H Q = Q (.int (min i j)) H := by
  apply propext
  exact ⟨fun ⟨_, _, e1, h⟩ => by cases e1; exact h, fun h => ⟨_, _, rfl, h⟩⟩
theorem cAbs : CallR X (.builtin "abs") rAb := by
  intro pins s σ H xs us Q I r h
  obtain ⟨i, rfl, q⟩ := h
  refine call_abs pins s σ H _ us Q I r ⟨i, rfl, ?_⟩
  rw [show (if i < 0 then -i else i) = ((i.natAbs : Nat) : Int) by split <;> omega]
  exact q
theorem cMax (hc : X.calm = true) : CallR X (.builtin "max") rMx := by
  intro pins s σ H xs us Q I r h
  obtain ⟨i, j, rfl, q⟩ := h
  refine call_max2 hc pins s σ H _ us Q I r ⟨i, j, rfl, ?_⟩
  rw [show (if j > i then j else i) = max i j by split <;> omega]
  exact q
theorem cMin (hc : X.calm = true) : CallR X (.builtin "min") rMn := by
  intro pins s σ H xs us Q I r h
  obtain ⟨i, j, rfl, q⟩ := h
  refine call_min2 hc pins s σ H _ us Q I r ⟨i, j, rfl, ?_⟩
  rw [show (if j < i then j else i) = min i j by split <;> omega]
  exact q
def as6 : V → List V → Hp → VK → Prop := fun x xs H Q => ∃ z : Int, x = .int z ∧ 0 ≤ z ∧ xs = [] ∧ Q (.int (bl z.natAbs : Nat)) H
theorem ai9 {K : PySem.W.Frag} : (tyV K "int" (.int i) H ∧ as6 (.int i) [] H Q) = (0 ≤ i ∧ Q (.int (bl i.natAbs : Nat)) H) := by
  apply propext
  constructor
  · rintro ⟨_, z, e, h0, _, h⟩
    cases e
    exact ⟨h0, h⟩
  · rintro ⟨h0, h⟩
    exact ⟨rfl, _, rfl, h0, rfl, h⟩
theorem anx : MtR X "int.bit_length" as6 := by
  intro pins s σ H x xs v us Q I rx rs h
  obtain ⟨z, rfl, h0, rfl, q⟩ := h
  obtain ⟨t, rfl⟩ := rx
  cases rs
  refine call_int_bit_length ⟨.int (bl z.natAbs : Nat), H, I.tok _, ⟨s.toks, ?_⟩, q⟩
  rw [← am6, show ((z.natAbs : Nat) : Int) = z by omega]
theorem ai {x : Str} {v : V} {pos : Pos} (h : ∃ u, X.mg x = some u ∧ RelV v u) (hg : Gl X x) (hd : (x == ("__debug__" : Str)) = false := by decide) : PE X (.Name x pos) (tC v) := by
  obtain ⟨u, h1, h2⟩ := h
  exact pe_glob hg h1 h2 hd
theorem atr : PIp X .Add rAdd := fun pins s σ H x y v u Q I rx ry h => in_add pins s σ H x y v u Q I rx ry h
theorem aty : PIp X .Sub rSub := fun pins s σ H x y v u Q I rx ry h => in_sub pins s σ H x y v u Q I rx ry h
theorem abt : rAdd (.int i) (.int j) H Q = Q (.int (i + j)) H := by
  apply propext
  exact ⟨fun ⟨_, _, e1, e2, h⟩ => by cases e1; cases e2; exact h, fun h => ⟨_, _, rfl, rfl, h⟩⟩
theorem al1 : rSub (.int i) (.int j) H Q = Q (.int (i - j)) H := by
  apply propext
  exact ⟨fun ⟨_, _, e1, e2, h⟩ => by cases e1; cases e2; exact h, fun h => ⟨_, _, rfl, rfl, h⟩⟩
end
end GB
end

section
set_option Elab.async false
set_option maxRecDepth 100000
namespace GB
open PySem L2 PySem.Spec PyProof.Rows
theorem al3 : typeLookup (.type "list_reverseiterator") "__len__" = pure none := by rw [typeLookup_type, builtinLookup_eq_fast]; kernel_rfl
theorem apw : typeLookup (.type "list_reverseiterator") "__length_hint__" = pure (some (.builtin "list_reverseiterator.__length_hint__")) := by rw [typeLookup_type, builtinLookup_eq_fast]; kernel_rfl
section
variable {prog : Program} {w : World} {A : Around} {E : Value → Shared → Prop} {s : Shared}
theorem aqc {I l : Addr} {i : Int} {Q : Bool → Shared → Prop} (hit : s.heap.IsRevIter I l i) (h : Q false s) : wpAny (model prog w) A (Builtin.List.listLengthHint (.ref I)) Q E s := by
  unfold Builtin.List.listLengthHint
  refine wpAny_bind (wpAny_specialOf hit.typeIs al3 ?_)
  wp_delta
  refine wpAny_ite_split (fun hab => absurd hab (by decide +kernel)) (fun _ => ?_)
  refine wpAny_ite_split (fun hab => absurd hab (by decide +kernel)) (fun _ => ?_)
  refine wpAny_bind (wpAny_specialOf hit.typeIs apw ?_)
  generalize hid : ("list_reverseiterator.__length_hint__" : String) = id0
  wp_delta
  rw [show splitId id0 = some ("list_reverseiterator", "__length_hint__") from by subst hid; decide +kernel]
  subst hid
  refine wpAny_bind (wpAny_isInstance (T := "list_reverseiterator") (b := true) hit.typeIs (by rw [isSubtype_type]; kernel_rfl) ?_)
  refine wpAny_ite_split (fun hab => absurd hab (by decide)) (fun _ => ?_)
  refine wpAny_ite_split (fun _ => ?_) (fun hab => absurd (by decide +kernel) hab)
  refine wpAny_ite_split (fun hab => absurd hab (by decide +kernel)) (fun _ => ?_)
  exact wpAny_pure h
theorem amd {R : Result → Shared → Prop} {I l : Addr} {items : Array Value} (hh : A.handled = none) (hit : s.heap.IsRevIter I l ((items.size : Int) - 1)) (hl : s.heap.IsList l items) (hn : items.size ≤ sizeLine) (hne : l ≠ I) (S : Addr) (hSI : S ≠ I) (hSl : S ≠ l) (res : Value) (c₀ : Nat)
    (hS : s.heap.get? S = some { cls := .type "list", data := .seq #[] c₀ })
    (hR : ∀ h' tk acc' c', (∀ b o, b ≠ S → b ≠ I → s.heap.get? b = some o → h'.get? b = some o) → h'.get? S = some { cls := .type "list", dict := none, data := .seq acc' c', slots := #[] } →
      ItemsOf (fun i v => items[items.size - 1 - i]? = some v) acc' items.size → R (.ok (.ret res)) { s with heap := h', toks := tk }) :
    wpAny (model prog w) A.in1 (Builtin.List.listExtendWith (.ref S) (.ref I) res)
      (fun fin s' => match fin with | .done f => R (.ok f) s' | .again c' => c'.quiet = true ∧ codeAny (model prog w) A c' R s') (fun e s' => R (.error e) s') s := by
  have W := (Walks.listRev (prog := prog) (w := w) (A := A.in1) hh I l hne items).toS
  have hSf : S ∉ [I, l] := fun hm => by
    rcases List.mem_cons.mp hm with e | hm
    · exact hSI e
    · exact hSl (List.mem_singleton.mp hm)
  unfold Builtin.List.listExtendWith
  refine wpAny_bind (wpAny_typeOf hit.typeIs ?_)
  have h1 : Builtin.List.listSameRef (.ref S) (.ref I) = false := by simp [Builtin.List.listSameRef, hSI]
  have h2 : (Value.type "list_reverseiterator" == Value.type "list") = false := by decide
  have h3 : (Value.type "list_reverseiterator" == Value.type "tuple") = false := by decide
  simp only [h1, h2, h3, Bool.or_false, Bool.false_eq_true, if_false]
  refine wpAny_bind (wpAny_pyIter_revIter hit ?_)
  refine wpAny_bind (wpAny_holding (aqc hit ?_))
  refine wpAny_ite_split (fun hab => absurd hab (by decide +kernel)) (fun _ => ?_)
  refine wpAny_pure ⟨plainId_quiet F.plain_extend_loop _, ?_⟩
  refine codeAny_extend_loopS W hn S hSf res items.size 0 s #[] c₀ rfl (Nat.zero_le _) ⟨Nat.zero_le _, by simpa using hit, hl⟩ hS (ItemsOf.nil _) fun s' acc' c' hm hS' hacc => ?_
  rw [Moved.eq_with hm]
  refine hR s'.heap s'.toks acc' c' (fun b o hb hb2 e => hm.heap b o (fun hmem => ?_) e) hS' hacc
  rcases List.mem_cons.mp hmem with e' | hmem
  · exact hb e'
  · exact hb2 (List.mem_singleton.mp hmem)
theorem aif {Q : Value → Shared → Prop} {I l : Addr} {items : Array Value} (hh : A.handled = none) (hit : s.heap.IsRevIter I l ((items.size : Int) - 1)) (hl : s.heap.IsList l items) (hn : items.size ≤ sizeLine) (hne : l ≠ I)
    (hQ : ∀ h' tk acc' c', (∀ b o, b ≠ I → s.heap.get? b = some o → h'.get? b = some o) →
      h'.get? s.heap.objs.size = some { cls := .type "list", dict := none, data := .seq acc' c', slots := #[] } → ItemsOf (fun i v => items[items.size - 1 - i]? = some v) acc' items.size → Q (.ref s.heap.objs.size) { s with heap := h', toks := tk }) :
    wpAny (model prog w) A (call (.type "list") [.ref I]) Q E s := by
  obtain ⟨oI, hoI, _, _⟩ := id hit
  obtain ⟨ol, hol, _, _, _⟩ := id hl
  have hSI : s.heap.objs.size ≠ I := Ne.symm (Nat.ne_of_lt (Heap.lt_size hoI))
  have hSl : s.heap.objs.size ≠ l := Ne.symm (Nat.ne_of_lt (Heap.lt_size hol))
  refine callType_codes (Q₁ := fun obj s₁ => obj = .ref s.heap.objs.size ∧ s₁ = { s with heap := s.heap.push { cls := .type "list", data := .seq #[] } }) F.called_list (F.typeCall_list_1 _) F.entry_list_init
    (code_list_new _ ⟨rfl, rfl⟩) fun obj s₁ h₁ => ?_
  obtain ⟨rfl, rfl⟩ := h₁
  have hS : (s.heap.push { cls := .type "list", data := .seq #[] }).get? s.heap.objs.size = some { cls := .type "list", data := .seq #[] } := Heap.get?_push_size _ rfl
  refine ⟨⟨_, hS, rfl⟩, F.args_list_init_2 _ _, ?_⟩
  show wpAny _ _ (do let old ← Builtin.List.listItems (.ref s.heap.objs.size); Builtin.List.listUpdate (.ref s.heap.objs.size) (fun _ => #[]); letGo old.toList.reverse; Builtin.List.listExtendWith (.ref s.heap.objs.size) (.ref I) .none) _ _ _
  refine wpAny_bind ?_
  unfold Builtin.List.listItems
  refine wpAny_bind (wpAny_seqItems hS rfl (wpAny_pure ?_))
  show wpAny _ _ (updateSeq s.heap.objs.size (fun _ => #[]) >>= fun _ => letGo (#[] : Array Value).toList.reverse >>= fun _ => Builtin.List.listExtendWith (.ref s.heap.objs.size) (.ref I) .none) _ _ _
  refine wpAny_bind (wpAny_updateSeq hS rfl ?_)
  have hS₂ := Heap.get?_update_self (Obj.mapSeq (fun _ => (#[] : Array Value))) hS rfl
  have oth : ∀ b o, b ≠ s.heap.objs.size → (s.heap.push { cls := .type "list", data := .seq #[] }).get? b = some o → ((s.heap.push { cls := .type "list", data := .seq #[] }).update s.heap.objs.size (Obj.mapSeq (fun _ => (#[] : Array Value)))).get? b = some o :=
    fun b o hb e => (Heap.get?_update_other _ _ (Ne.symm hb)).trans e
  refine wpAny_bind (wpAny_letGo ?_)
  refine amd (A := A.in1) hh (hit.at fun o e => oth _ _ hSI.symm (Heap.get?_push_of_some _ e)) (hl.at fun o e => oth _ _ hSl.symm (Heap.get?_push_of_some _ e)) hn hne _ hSI hSl .none _ hS₂ fun h' tk acc' c' hk hS' hacc => ?_
  exact ⟨rfl, hQ h' tk acc' c' (fun b o hb e => hk b o (Nat.ne_of_lt (Heap.lt_size e)) hb (oth b o (Nat.ne_of_lt (Heap.lt_size e)) (Heap.get?_push_of_some _ e))) hS' hacc⟩
end
section
variable {X : Cx} {e : Expr} {ta : TA} {p p' pos pos' : Pos}
theorem aon {xs : List V} {its : List Value} {acc : Array Value} (r : Vals xs its) (h : ItemsOf (fun i v => its.toArray[its.toArray.size - 1 - i]? = some v) acc its.toArray.size) : Vals xs.reverse acc.toList := by
  have e : acc.toList = its.reverse := by
    refine List.ext_getElem? fun i => ?_
    by_cases hi : i < its.length
    · have h1 : i < acc.size := by rw [h.1]; simpa using hi
      have h2 := h.2 i (acc[i]) (Array.getElem?_eq_getElem h1)
      rw [List.getElem?_reverse hi]
      have e1 : acc.toList[i]? = some acc[i] := by rw [Array.getElem?_toList]; exact Array.getElem?_eq_getElem h1
      rw [e1]
      simpa using h2.symm
    · rw [List.getElem?_eq_none (by simpa using h.1 ▸ (by simpa using hi)), List.getElem?_eq_none (by simpa using hi)]
  rw [e]
  have rev : ∀ {xs : List V} {us : List Value}, Vals xs us → Vals xs.reverse us.reverse := fun {xs us} r => by
    induction r with
    | nil => exact .nil
    | cons r t ih =>
      rw [List.reverse_cons, List.reverse_cons]
      exact ih.append (.cons r .nil)
  exact rev r
def ahp (K : PySem.W.Frag) (ta : TA) : TE := fun σ H Q => ta σ H fun vs H1 => ∃ a xs, vs = [.ref a] ∧ SqL K H1 a xs ∧ ∀ l, H1 l = none → Q (.ref l) (upd H1 l (.lst xs.reverse))
theorem ag4 (hg : Gl X "list") (hg' : Gl X "reversed") (hm : X.mg "list" = none) (hm' : X.mg "reversed" = none) (ha : PA X [e] ta) (hc : X.calm = true := by rfl) (hs : starEach [e] X.env = [(false, eval e X.env)] := by rfl)
    (hs' : starEach [Expr.Call (.Name "reversed" p') [e] [] pos'] X.env = [(false, eval (Expr.Call (.Name "reversed" p') [e] [] pos') X.env)] := by rfl) :
    PE X (.Call (.Name "list" p) [.Call (.Name "reversed" p') [e] [] pos'] [] pos) (ahp X.K ta) := by
  intro pins s σ H Q I h
  refine wpAny_Call_Name_kw (ld_blt I hg hm aho ?_)
  refine PyProof.Rows.callWith_type1 ?_ hs' rfl
  rw [hs']
  show wpAny _ _ (spliced ((false, eval (Expr.Call (.Name "reversed" p') [e] [] pos') X.env) :: [])) _ _ s
  refine Calls.spliced_cons ?_
  refine Call_ (ld_blt I hg' hm' boot_reversed5 (PyProof.Rows.callWith_type1 (thn (ha pos' pins s σ H _ I h) fun us s1 ⟨vs, H1, I1, r1, q1⟩ => ?_) hs rfl))
  obtain ⟨a, xs, e, hq, q⟩ := q1
  subst e
  cases r1 with
  | cons r rr =>
    cases rr
    cases r
    obtain ⟨its, rv, p', hz⟩ := I1.list hq
    have hl := rv.length
    obtain ⟨oa, hoa, _, _⟩ := id p'.isList
    refine call_reversed_list p'.isList (Calls.spliced_nil ?_)
    refine aif (items := its.toArray) (I1.ok.hd hc) ⟨_, Heap.get?_push_size _ rfl, rfl, rfl⟩ (p'.isList.at fun o eo => Heap.get?_push_of_some _ eo) (by rw [List.size_toArray]; omega) (Nat.ne_of_lt (Heap.lt_size hoa)) fun h' tk acc' c' hk hS hacc => ?_
    have hv := aon rv hacc
    rw [Heap.size_push] at hS ⊢
    refine ⟨.ref (s1.heap.objs.size + 1), _, I1.laid (t' := tk) (fun b o eo => hk b o (Nat.ne_of_lt (Heap.lt_size eo)) (Heap.get?_push_of_some _ eo)) (Nat.le_succ _) (show ObjOk X.prog X.w _ h' _ (.lst xs.reverse) from ⟨by rw [List.length_reverse]; exact hz, acc'.toList, c', hv, by simpa using hS⟩), rfl, q _ (I1.hok.fresh (Nat.le_succ _))⟩
end
end GB
end

section
set_option Elab.async false
set_option maxRecDepth 100000
namespace GB
open PySem L2 PySem.Spec PyProof.Rows
section
variable {X : Cx} {a b c d : Expr} {ta tb tc td : TE} {pos : Pos}
def ana (r r' r'' : R2) (ta tb tc td : TE) : TE := fun σ H Q => ta σ H fun x H1 => tb σ H1 fun y H2 => r x y H2 fun z H3 => ∃ k, z = .bl k ∧
  (if k = true then tc σ H3 fun w' H4 => r' y w' H4 fun z' H5 => ∃ k', z' = .bl k' ∧ (if k' = true then td σ H5 fun v' H6 => r'' w' v' H6 Q else Q (.bl false) H5) else Q (.bl false) H3)
theorem ao9 {op op' op'' : CmpOp} {r r' r'' : R2} (ho : OpR X (compareOp op) r) (ho' : OpR X (compareOp op') r') (ho'' : OpR X (compareOp op'') r'') (ha : PE X a ta) (hb : PE X b tb) (hc : PE X c tc) (hd : PE X d td)
    (hm : lastMarks [op, op', op''] [b, c, d] = false := by with_unfolding_all rfl) : PE X (.Compare a [op, op', op''] [b, c, d] pos) (ana r r' r'' ta tb tc td) := by
  intro pins s σ H Q I h
  refine Compare_chain (thn (ha pins s σ H _ I h) fun v s1 ⟨x, H1, I1, r1, q1⟩ => chain_link (thn (hb pins s1 σ H1 _ I1 q1) fun u s2 ⟨y, H2, I2, r2, q2⟩ =>
    thn (ho pins s2 σ H2 x y v u _ I2 r1 r2 q2) fun d s3 ⟨z, H3, I3, r3, k, e, q3⟩ => ?_)) hm
  subst e
  cases r3
  refine wpAny_truthy_bool ?_
  cases k with
  | false => exact ite_ff ⟨.bl false, H3, I3, rfl, q3⟩
  | true =>
    refine ite_tt (chain_link (thn (hc pins s3 σ H3 _ I3 q3) fun w' s4 ⟨z', H4, I4, r4, q4⟩ => thn (ho' pins s4 σ H4 y z' u w' _ I4 r2 r4 q4) fun d' s5 ⟨z2, H5, I5, r5, k', e', q5⟩ => ?_))
    subst e'
    cases r5
    refine wpAny_truthy_bool ?_
    cases k' with
    | false => exact ite_ff ⟨.bl false, H5, I5, rfl, q5⟩
    | true => exact ite_tt (chain_last (thn (hd pins s5 σ H5 _ I5 q5) fun w2 s6 ⟨z3, H6, I6, r6, q6⟩ => ho'' pins s6 σ H6 z' z3 w' w2 Q I6 r4 r6 q6))
end
end GB
end

section
set_option Elab.async false
set_option maxRecDepth 100000
namespace GB
open PySem L2
theorem cxK {CX : CXT} {P : Program} {w : World} {K : PySem.W.Frag} {mg : Str → Option Value} {base : Heap} {N : List Str} {q : Str} {sc : Scope} {f : Addr} {cd : Value} {A : Around} {outer : List Env} {s : Shared} {H : Hp} {E : XK} : (cxOf CX P w K mg base N q sc f cd A outer s H E).K = K := rfl
theorem cxKn {CX : CXT} {P : Program} {w : World} {K : PySem.W.Frag} {mg : Str → Option Value} {base : Heap} {N : List Str} {q : Str} {sc : Scope} {f : Addr} {cd : Value} {A : Around} {outer : List Env} {s : Shared} {H : Hp} {E : XK} : (cxOf CX P w K mg base N q sc f cd A outer s H E).nox.K = K := rfl
section
variable {K : PySem.W.Frag} {H : Hp} {Q : VK}
theorem ixL {xs : List V} {p : Addr} {i : Int} {v : V} (h : SqL K H p xs) (e : atI xs i = some v) (q : Q v H) : rIxL K (.ref p) (.int i) H Q := ⟨p, xs, i, v, rfl, rfl, h, e, q⟩
theorem ixT {xs : List V} {p : Addr} {i : Int} {v : V} (h : SqT K H p xs) (e : atI xs i = some v) (q : Q v H) : rIxT K (.ref p) (.int i) H Q := ⟨p, xs, i, v, rfl, rfl, h, e, q⟩
theorem slL {xs : List V} {p : Addr} {lo hi : Option Int} (h : SqL K H p xs) (q : ∀ l, H l = none → Q (.ref l) (upd H l (.lst (cutV xs lo hi)))) : rSlL K (.ref p) lo hi H Q := ⟨p, xs, rfl, h, q⟩
theorem ak8 (ns : List Int) {a b : Nat} (hab : a ≤ b) (hb : b ≤ ns.length) : cutV (ns.map V.int) (some (a : Int)) (some (b : Int)) = ((ns.drop a).take (b - a)).map V.int := by
  unfold cutV HT.sIx
  simp only [List.length_map]
  rw [if_neg (by omega), if_neg (by omega), ← List.map_drop, ← List.map_take]
  congr 2
  · omega
  · congr 1
    omega
theorem Same.new {l : Addr} {o : HO} (h : H l = none) : Same H (upd H l o) := fun b u e => by rw [upd_ne (ne_of_none e h)]; exact e
theorem forL {a : Addr} {xs : List V} {g : TG} {tb : TS} {D : Ends} {σ : St} {i : Nat} (hσ : σ[i]? = some (some (.ref a))) (hS : SqL K H a xs) (Pv : Nat → St → Hp → Prop) (h0 : Pv 0 σ H) (hl : ∀ i σ H, i ≤ xs.length → Pv i σ H → SqL K H a xs)
    (hs : ∀ i x σ H, xs[i]? = some x → Pv i σ H → g x σ H fun σ2 H2 => tb { D with nx := Pv (i + 1), ct := Pv (i + 1), bk := D.nx } σ2 H2) (hd : ∀ σ H, Pv xs.length σ H → D.nx σ H) : tFor (iList K (tVar i)) g tb D σ H :=
  ⟨_, hσ, a, rfl, ⟨xs, hS⟩, for_list Pv h0 hl hs hd⟩
theorem blkG {N N' : List Str} {sc sc' scope : Scope} {own : List (Str × Nat)} (hN : N' = N) (hs : sc' = sc) (k : scope.kind = .function) (u : ∀ y ∈ scope.names, scope.names.lookup y.1 = some y.2) (ix : ∀ p ∈ own, N[p.2]? = some p.1)
    (fr : ∀ y ∈ scope.names, y.2 = .free → sc.names.lookup y.1 = some .cell ∨ sc.names.lookup y.1 = some .free) (ow : ∀ y ∈ scope.names, y.2 = .local ∨ y.2 = .cell → y.1 ∈ own.map (·.1) ∨ y.1 ∉ N) : BlkOk N' sc' scope own := by
  subst hN hs
  exact ⟨k, u, ix, fr, ow⟩
def afq (H1 H' : Hp) : Prop := ∃ D acc, H1 D = none ∧ H' = upd H1 D (.lst acc)
theorem afq.same {H1 H' : Hp} (h : afq H1 H') : Same H1 H' := by
  obtain ⟨D, acc, hD, rfl⟩ := h
  exact Same.new hD
def outs (out : Nat → Option V) (n : Nat) : List V := (List.range n).filterMap out
theorem ain (out : Nat → Option V) (n : Nat) : outs out (n + 1) = outs out n ++ (out n).toList := by
  unfold outs
  rw [List.range_succ, List.filterMap_append]
  congr 1
theorem ak9 (out : Nat → Option V) (n : Nat) : (outs out n).length ≤ n := by
  unfold outs
  have := List.length_filterMap_le out (List.range n)
  rw [List.length_range] at this
  exact this
theorem ati {J : It} {g : TG} {tt : TT} {te : TE} {vs : List Nat} {σ : St} {H1 : Hp} (n : Nat) (hn : n ≤ sizeLine) (val : Nat → V) (out : Nat → Option V)
    (hgo : ∀ i H', i < n → afq H1 H' → J.go i H') (hstop : ∀ H', afq H1 H' → J.stop n H') (hyld : ∀ i H' x H'', i < n → afq H1 H' → J.yld i H' x H'' → x = val i ∧ H'' = H')
    (step : ∀ i H', i < n → afq H1 H' → ∀ R : Option V → Hp → Prop, R (out i) H' → g (val i) (wipe σ vs) H' fun σ2 H2 => wipe σ2 vs = wipe σ vs ∧ tt σ2 H2 fun b H3 => if b = true then te σ2 H3 fun y H4 => R (some y) H4 else R none H3)
    (mono : ∀ v σ H (R R' : St → Hp → Prop), (∀ σ H, R σ H → R' σ H) → g v σ H R → g v σ H R')
    (fin : ∀ D, H1 D = none → Q (.ref D) (upd H1 D (.lst (outs out n)))) :
    ∀ D, H1 D = none → ∃ W : Nat → Nat → Hp → Prop, (∃ m, W 0 m (upd H1 D (.lst []))) ∧ ∀ i m H, W i m H →
      (J.stop i H ∧ Q (.ref D) H) ∨ (J.go i H ∧ ∃ Nx : Hp → Prop, (∀ H', Nx H' → ∃ m', m' < m ∧ W (i + 1) m' H') ∧ ∀ x H', J.yld i H x H' → g x (wipe σ vs) H' fun σ2 H2 => wipe σ2 vs = wipe σ vs ∧ tt σ2 H2 fun b H3 =>
        if b = true then te σ2 H3 fun y H4 => ∃ acc, H4 D = some (.lst acc) ∧ acc.length < sizeLine ∧ Nx (upd H4 D (.lst (acc ++ [y]))) else Nx H3) := by
  intro D hD
  refine ⟨fun i m H => m = n - i ∧ i ≤ n ∧ H = upd H1 D (.lst (outs out i)), ⟨n, by simp, Nat.zero_le _, rfl⟩, ?_⟩
  rintro i m H ⟨rfl, hi, rfl⟩
  have hG : afq H1 (upd H1 D (.lst (outs out i))) := ⟨D, _, hD, rfl⟩
  by_cases hlt : i < n
  · refine .inr ⟨hgo i _ hlt hG, fun H' => H' = upd H1 D (.lst (outs out (i + 1))), fun H' e => ⟨n - (i + 1), by omega, rfl, hlt, e⟩, fun x H' y => ?_⟩
    obtain ⟨rfl, rfl⟩ := hyld i _ x H' hlt hG y
    refine step i _ hlt hG (fun o H4 => match o with
      | some y => ∃ acc, H4 D = some (.lst acc) ∧ acc.length < sizeLine ∧ upd H4 D (.lst (acc ++ [y])) = upd H1 D (.lst (outs out (i + 1)))
      | none => H4 = upd H1 D (.lst (outs out (i + 1)))) ?_
    have hs := ain out i
    cases ho : out i with
    | none =>
      rw [ho] at hs
      simp only [Option.toList_none, List.append_nil] at hs
      rw [hs]
    | some y =>
      rw [ho] at hs
      refine ⟨outs out i, upd_same, Nat.lt_of_le_of_lt (ak9 out i) (by omega), ?_⟩
      rw [upd_upd, hs]
      rfl
  · have e : i = n := by omega
    subst e
    exact .inl ⟨hstop _ hG, fin D hD⟩
theorem al7 {i : Nat} : ∀ v σ H (R R' : St → Hp → Prop), (∀ σ H, R σ H → R' σ H) → gName i v σ H R → gName i v σ H R' := fun _ _ _ _ _ h q => h _ _ q
theorem arl {i : Nat} {ta : TA} {tt : TT} {te : TE} {vs : List Nat} {σ : St} {n : Nat} (hn : n ≤ sizeLine) (out : Nat → Option V)
    (src : ∀ R : List V → Hp → Prop, R [.int n] H → ta σ H R)
    (step : ∀ j, j < n → ∀ H', afq H H' → ∀ R : Option V → Hp → Prop, R (out j) H' → wipe ((wipe σ vs).set i (some (.int j))) vs = wipe σ vs ∧ tt ((wipe σ vs).set i (some (.int j))) H' fun b H3 => if b = true then te ((wipe σ vs).set i (some (.int j))) H3 fun y H4 => R (some y) H4 else R none H3)
    (fin : ∀ D, H D = none → Q (.ref D) (upd H D (.lst ((List.range n).filterMap out)))) : tLc (iRng1 ta) (gName i) tt te vs σ H Q := by
  have hz : sizeLine = 16777216 := sizeLine_eq
  refine src _ ⟨(n : Int), rfl, by omega, by omega, ?_⟩
  refine ati (J := Itr 0 (n : Int).toNat) n hn (fun j => .int j) out (fun j H' hj _ => by show j < (n : Int).toNat; omega) (fun H' _ => by show (n : Int).toNat ≤ n; omega) (fun j H' x H'' hj G y => ?_) (fun j H' hj G R r => step j hj H' G R r) al7 fin
  obtain ⟨e1, y⟩ := y
  exact ⟨by rw [y, Int.zero_add], e1⟩
end
end GB
end

section
set_option Elab.async false
set_option maxRecDepth 100000
namespace GB
open PySem L2
section
variable {K : PySem.W.Frag} {H : Hp} {p C dx : Addr} {fs : List (Str × V)} {f : Str} {v y : V}
def Fld (K : PySem.W.Frag) (f : Str) (x : V) (H : Hp) (Q : VK) : Prop := ∃ a C dx fs v, x = .ref a ∧ H a = some (.ins C dx fs) ∧ Cls K C ∧ NoAttr K C f ∧ fs.lookup f = some v ∧ Q v H
theorem anb {ta : TE} {σ : St} {Q : VK} : tFld K ta f σ H Q = ta σ H fun x H1 => Fld K f x H1 Q := rfl
theorem af (hp : H p = some (.ins C dx fs)) (c : Cls K C) (n : NoAttr K C f) (l : fs.lookup f = some v) (Q : VK) : Fld K f (.ref p) H Q = Q v H := by
  apply propext
  constructor
  · rintro ⟨a, C', dx', fs', v', e, h1, _, _, h4, q⟩
    cases e
    rw [hp] at h1
    cases h1
    rw [l] at h4
    cases h4
    exact q
  · intro q
    exact ⟨p, C, dx, fs, v, rfl, hp, c, n, l, q⟩
def Sto (K : PySem.W.Frag) (f : Str) (y x : V) (H : Hp) (R : Hp → Prop) : Prop := ∃ a C dx fs, x = .ref a ∧ H a = some (.ins C dx fs) ∧ Cls K C ∧ NoAttr K C f ∧ fs.length < 1000 ∧ R (upd H a (.ins C dx (putF f y fs)))
theorem anr {ta tv : TE} {D : Ends} {σ : St} : sFld K ta tv f D σ H = tv σ H fun y H1 => ta σ H1 fun x H2 => Sto K f y x H2 fun H3 => D.nx σ H3 := rfl
theorem wg (hp : H p = some (.ins C dx fs)) (c : Cls K C) (n : NoAttr K C f) (hl : fs.length < 1000) (R : Hp → Prop) : Sto K f y (.ref p) H R = R (upd H p (.ins C dx (putF f y fs))) := by
  apply propext
  constructor
  · rintro ⟨a, C', dx', fs', e, h1, _, _, _, q⟩
    cases e
    rw [hp] at h1
    cases h1
    exact q
  · intro q
    exact ⟨p, C, dx, fs, rfl, hp, c, n, hl, q⟩
theorem ac0 {ta tv : TE} {rd : V → V → Hp → VK → Prop} {D : Ends} {σ : St} : sFldAug K ta tv rd f D σ H = ta σ H fun x H1 => ∃ a C dx fs v, x = .ref a ∧ H1 a = some (.ins C dx fs) ∧ Cls K C ∧ NoAttr K C f ∧ fs.lookup f = some v ∧
  tv σ H1 fun y H2 => rd v y H2 fun z H3 => ∃ dx' fs', H3 a = some (.ins C dx' fs') ∧ fs'.length < 1000 ∧ D.nx σ (upd H3 a (.ins C dx' (putF f z fs'))) := rfl
def Mth (C : Addr) (m : Str) (x : V) (H : Hp) (R : Prop) : Prop := ∃ a dx fs, x = .ref a ∧ H a = some (.ins C dx fs) ∧ fs.lookup m = none ∧ R
theorem als {m : Str} {sp : Sp} {dvs : List V} {E : XK} {ta : TE} {t : TA} {σ : St} {Q : VK} : tMeth C m sp dvs E ta t σ H Q = ta σ H fun x H1 => Mth C m x H1 (t σ H1 fun vs H2 => sp (x :: (vs ++ dvs)) H2 Q E) := rfl
theorem ax {m : Str} {R : Prop} (hp : H p = some (.ins C dx fs)) (l : fs.lookup m = none) : Mth C m (.ref p) H R = R := by
  apply propext
  constructor
  · rintro ⟨_, _, _, _, _, _, q⟩
    exact q
  · intro q
    exact ⟨p, dx, fs, rfl, hp, l, q⟩
theorem ap4 {K : PySem.W.Frag} {l : Addr} {xs : List V} (h : H l = some (.lst xs)) (hz : xs.length < sizeLine) (Q : VK) : (tyV K "list" (.ref l) H ∧ rAppend (.ref l) [y] H Q) = Q .non (upd H l (.lst (xs ++ [y]))) := by
  apply propext
  constructor
  · rintro ⟨_, l', xs', y', e, e2, h1, _, q⟩
    cases e; cases e2
    rw [h] at h1
    cases h1
    exact q
  · intro q
    exact ⟨.inl ⟨rfl, xs, SqL.of h⟩, l, xs, y, rfl, rfl, h, hz, q⟩
theorem pop0 {K : PySem.W.Frag} {l : Addr} {z : V} {xs : List V} {Q : VK} (h : H l = some (.lst (z :: xs))) (q : Q z (upd H l (.lst xs))) : tyV K "list" (.ref l) H ∧ rPopAt (.ref l) [.int 0] H Q := by
  refine ⟨.inl ⟨rfl, _, SqL.of h⟩, l, z :: xs, 0, 0, z, rfl, rfl, h, by decide, by decide, ?_, rfl, q⟩
  simp [seqIndex?]
def apx (t : TS) : TS := fun D σ H => ∃ J : St → Hp → Prop, t { D with nx := J } σ H ∧ ∀ σ' H', J σ' H' → D.nx σ' H'
theorem ano {X : Cx} {st : Stmt} {t : TS} (h : PS X st t) : PS X st (apx t) := by
  intro pins s σ H D I ⟨J, h1, h2⟩
  refine thn (h pins s σ H { D with nx := J } I h1) fun f s' q => ?_
  cases f with
  | next =>
    obtain ⟨σ', H', I', q⟩ := q
    exact ⟨σ', H', I', h2 _ _ q⟩
  | ret u => exact q
  | brk => exact q
  | cont => exact q
end
end GB
end

section
set_option Elab.async false
set_option maxRecDepth 100000
set_option linter.all false
namespace GB
open PySem L2
theorem RD : type_of% (And.intro @anb (And.intro @anr (And.intro @als (And.intro @cxK (And.intro @cxKn (And.intro @tSeq.eq_1 (And.intro @tAsg.eq_1 (And.intro @gName.eq_1 (And.intro @tOp.eq_1 (And.intro @tUn.eq_1 (And.intro @tVar.eq_1 (And.intro @tC.eq_1 (And.intro @aju (And.intro @agm (And.intro @aj3 (And.intro @agk (And.intro @aq9 (And.intro @tIfS.eq_1 (And.intro @tIf.eq_1 (And.intro @tOr.eq_1 (And.intro @tAnd.eq_1 (And.intro @tNot.eq_1 (And.intro @tTest.eq_1 (And.intro @tB.eq_1 (And.intro @tRet.eq_1 (And.intro @tNext.eq_1 (And.intro @tDrop.eq_1 (And.intro @tCall.eq_1 (And.intro @tCB.eq_1 (And.intro @tCons.eq_1 (And.intro @tNil.eq_1 (And.intro @tBM0.eq_1 (And.intro @tBM.eq_1 (And.intro @apx.eq_1 (And.intro @tAug.eq_1 (And.intro @abt (And.intro @al1 (And.intro @tChain.eq_1 (And.intro @ajk (And.intro @aj2 (And.intro @am7 (And.intro @anc (And.intro @ane (And.intro @ago (And.intro @agn (And.intro @ai9 (And.intro @tSl.eq_1 (And.intro @tPart.eq_1 (And.intro @tNoPart.eq_1 (And.intro @ahp.eq_1 (And.intro @tLst.eq_1 (And.intro @tTup.eq_1 (And.intro @tAndV.eq_1 (And.intro @tOrV.eq_1 (And.intro @tNotV.eq_1 (And.intro @L2.start.eq_1 (And.intro @List.map_cons.{0,0} (And.intro @List.map_nil.{0,0} (And.intro @List.cons_append.{0} (And.intro @List.nil_append.{0} (And.intro @List.append_nil.{0} (And.intro @List.length_cons.{0} (And.intro @List.length_nil.{0} (And.intro @List.getElem?_cons_zero.{0} (And.intro @List.getElem?_cons_succ.{0} (And.intro @Option.some.injEq.{0} (And.intro @V.int.injEq (And.intro @V.bl.injEq (And.intro @V.ref.injEq (And.intro @exists_eq_left'.{1} (And.intro @exists_eq_left.{1} (And.intro @decide_eq_true_eq (And.intro @decide_eq_false_iff_not (And.intro @Bool.false_eq_true (And.intro @if_true.{1} (And.intro @if_false.{1} (And.intro @Bool.not_eq_true' (And.intro @Bool.not_true @Bool.not_false)))))))))))))))))))))))))))))))))))))))))))))))))))))))))))))))))))))))))))))) :=
  (And.intro @anb (And.intro @anr (And.intro @als (And.intro @cxK (And.intro @cxKn (And.intro @tSeq.eq_1 (And.intro @tAsg.eq_1 (And.intro @gName.eq_1 (And.intro @tOp.eq_1 (And.intro @tUn.eq_1 (And.intro @tVar.eq_1 (And.intro @tC.eq_1 (And.intro @aju (And.intro @agm (And.intro @aj3 (And.intro @agk (And.intro @aq9 (And.intro @tIfS.eq_1 (And.intro @tIf.eq_1 (And.intro @tOr.eq_1 (And.intro @tAnd.eq_1 (And.intro @tNot.eq_1 (And.intro @tTest.eq_1 (And.intro @tB.eq_1 (And.intro @tRet.eq_1 (And.intro @tNext.eq_1 (And.intro @tDrop.eq_1 (And.intro @tCall.eq_1 (And.intro @tCB.eq_1 (And.intro @tCons.eq_1 (And.intro @tNil.eq_1 (And.intro @tBM0.eq_1 (And.intro @tBM.eq_1 (And.intro @apx.eq_1 (And.intro @tAug.eq_1 (And.intro @abt (And.intro @al1 (And.intro @tChain.eq_1 (And.intro @ajk (And.intro @aj2 (And.intro @am7 (And.intro @anc (And.intro @ane (And.intro @ago (And.intro @agn (And.intro @ai9 (And.intro @tSl.eq_1 (And.intro @tPart.eq_1 (And.intro @tNoPart.eq_1 (And.intro @ahp.eq_1 (And.intro @tLst.eq_1 (And.intro @tTup.eq_1 (And.intro @tAndV.eq_1 (And.intro @tOrV.eq_1 (And.intro @tNotV.eq_1 (And.intro @L2.start.eq_1 (And.intro @List.map_cons.{0,0} (And.intro @List.map_nil.{0,0} (And.intro @List.cons_append.{0} (And.intro @List.nil_append.{0} (And.intro @List.append_nil.{0} (And.intro @List.length_cons.{0} (And.intro @List.length_nil.{0} (And.intro @List.getElem?_cons_zero.{0} (And.intro @List.getElem?_cons_succ.{0} (And.intro @Option.some.injEq.{0} (And.intro @V.int.injEq (And.intro @V.bl.injEq (And.intro @V.ref.injEq (And.intro @exists_eq_left'.{1} (And.intro @exists_eq_left.{1} (And.intro @decide_eq_true_eq (And.intro @decide_eq_false_iff_not (And.intro @Bool.false_eq_true (And.intro @if_true.{1} (And.intro @if_false.{1} (And.intro @Bool.not_eq_true' (And.intro @Bool.not_true @Bool.not_false))))))))))))))))))))))))))))))))))))))))))))))))))))))))))))))))))))))))))))))
end GB
end

section
set_option Elab.async false
set_option maxRecDepth 100000
set_option linter.all false
namespace GB
open PySem L2
section
variable {K : PySem.W.Frag} {H : Hp} {Q : VK}
def gkv (ks : List Nat) (f : Nat → V) : List (Key × V) := ks.map fun (g : Nat) => ((Sum.inl (g : Int) : Key), f g)
theorem ada (ks : List Nat) (f : Nat → V) : (gkv ks f).length = ks.length := List.length_map _
theorem asl (ks : List Nat) (f : Nat → V) (j : Nat) : (gkv ks f)[j]? = (ks[j]?).map fun (g : Nat) => ((Sum.inl (g : Int) : Key), f g) := List.getElem?_map ..
theorem agl {J : It} {g : TG} {tt : TT} {te : TE} {vs : List Nat} {σ : St} {H1 : Hp} (n : Nat) (hn : n ≤ sizeLine) (val : Nat → V) (out : Nat → Option V)
    (hgo : ∀ i H', i < n → Same H1 H' → J.go i H') (hstop : ∀ H', Same H1 H' → J.stop n H') (hyld : ∀ i H' x H'', i < n → Same H1 H' → J.yld i H' x H'' → x = val i ∧ H'' = H')
    (step : ∀ i H', i < n → Same H1 H' → ∀ R : Option V → Hp → Prop, (∀ H'', Same H' H'' → R (out i) H'') → g (val i) (wipe σ vs) H' fun σ2 H2 => wipe σ2 vs = wipe σ vs ∧ tt σ2 H2 fun b H3 => if b = true then te σ2 H3 fun y H4 => R (some y) H4 else R none H3)
    (fin : ∀ D H', H1 D = none → Same H1 H' → H' D = some (.lst (outs out n)) → Q (.ref D) H') :
    ∀ D, H1 D = none → ∃ W : Nat → Nat → Hp → Prop, (∃ m, W 0 m (upd H1 D (.lst []))) ∧ ∀ i m H, W i m H →
      (J.stop i H ∧ Q (.ref D) H) ∨ (J.go i H ∧ ∃ Nx : Hp → Prop, (∀ H', Nx H' → ∃ m', m' < m ∧ W (i + 1) m' H') ∧ ∀ x H', J.yld i H x H' → g x (wipe σ vs) H' fun σ2 H2 => wipe σ2 vs = wipe σ vs ∧ tt σ2 H2 fun b H3 =>
        if b = true then te σ2 H3 fun y H4 => ∃ acc, H4 D = some (.lst acc) ∧ acc.length < sizeLine ∧ Nx (upd H4 D (.lst (acc ++ [y]))) else Nx H3) := by
  intro D hD
  refine ⟨fun i m H => m = n - i ∧ i ≤ n ∧ Same H1 H ∧ H D = some (.lst (outs out i)), ⟨n, by simp, Nat.zero_le _, Same.new hD, upd_same⟩, ?_⟩
  rintro i m H ⟨rfl, hi, hS, hDi⟩
  by_cases hlt : i < n
  · refine .inr ⟨hgo i _ hlt hS, fun H' => Same H1 H' ∧ H' D = some (.lst (outs out (i + 1))), fun H' e => ⟨n - (i + 1), by omega, rfl, hlt, e⟩, fun x H' y => ?_⟩
    obtain ⟨rfl, rfl⟩ := hyld i _ x H' hlt hS y
    refine step i _ hlt hS (fun o H4 => match o with
      | some y => ∃ acc, H4 D = some (.lst acc) ∧ acc.length < sizeLine ∧ (Same H1 (upd H4 D (.lst (acc ++ [y]))) ∧ (upd H4 D (.lst (acc ++ [y]))) D = some (.lst (outs out (i + 1))))
      | none => Same H1 H4 ∧ H4 D = some (.lst (outs out (i + 1)))) fun H'' hS' => ?_
    have hs := ain out i
    cases ho : out i with
    | none =>
      rw [ho] at hs
      simp only [Option.toList_none, List.append_nil] at hs
      exact ⟨hS.trans hS', by rw [hs]; exact hS' _ _ hDi⟩
    | some y =>
      rw [ho] at hs
      refine ⟨outs out i, hS' _ _ hDi, Nat.lt_of_le_of_lt (ak9 out i) (by omega), fun b u e => ?_, ?_⟩
      · rw [upd_ne (ne_of_none e hD)]
        exact hS' _ _ (hS _ _ e)
      · rw [upd_same, hs]
        rfl
  · have e : i = n := by omega
    subst e
    exact .inl ⟨hstop _ hS, fin D _ hD hS hDi⟩
theorem aer (out : V → Option V) (xs : List V) : outs (fun j => (xs[j]?).bind out) xs.length = xs.filterMap out := by
  unfold outs
  have : ∀ ys : List V, (List.range ys.length).filterMap (fun j => (ys[j]?).bind out) = ys.filterMap out := by
    intro ys
    induction ys with
    | nil => rfl
    | cons y r ih =>
      rw [List.length_cons, List.range_succ_eq_map, List.filterMap_cons, List.filterMap_map]
      have e2 : ((fun j => ((y :: r)[j]?).bind out) ∘ Nat.succ) = fun j => (r[j]?).bind out := by
        funext j
        simp
      rw [e2, ih]
      simp only [List.getElem?_cons_zero, Option.bind_some, List.filterMap_cons]
  exact this xs
theorem zm {i : Nat} {tl : TE} {tt : TT} {te : TE} {vs : List Nat} {σ : St} {a : Addr} {xs : List V} {H1 : Hp} (hn : xs.length ≤ sizeLine) (out : V → Option V)
    (src : ∀ R : V → Hp → Prop, R (.ref a) H1 → tl σ H R) (hS : SqL K H1 a xs)
    (step : ∀ x, x ∈ xs → ∀ H', Same H1 H' → ∀ R : Option V → Hp → Prop, (∀ H'', Same H' H'' → R (out x) H'') → wipe ((wipe σ vs).set i (some x)) vs = wipe σ vs ∧ tt ((wipe σ vs).set i (some x)) H' fun b H3 => if b = true then te ((wipe σ vs).set i (some x)) H3 fun y H4 => R (some y) H4 else R none H3)
    (fin : ∀ D H', H1 D = none → Same H1 H' → H' D = some (.lst (xs.filterMap out)) → Q (.ref D) H') : tLc (iList K tl) (gName i) tt te vs σ H Q := by
  refine src _ ⟨a, rfl, ⟨xs, hS⟩, ?_⟩
  refine agl (J := Itl K a) xs.length hn (fun j => (xs[j]?).getD .non) (fun j => (xs[j]?).bind out) (fun j H' hj G => ⟨xs, xs[j], G.seq hS, List.getElem?_eq_getElem hj⟩) (fun H' G => ⟨xs, G.seq hS, Nat.le_refl _⟩) (fun j H' x H'' hj G y => ?_) (fun j H' hj G R r => ?_) (fun D H' hD hG => by rw [aer]; exact fin D H' hD hG)
  · obtain ⟨e1, y⟩ := y
    have := y xs (G.seq hS)
    rw [this]
    exact ⟨rfl, e1⟩
  · have hx : xs[j]? = some xs[j] := List.getElem?_eq_getElem hj
    rw [hx] at r ⊢
    exact step xs[j] (List.getElem_mem hj) H' G R r
theorem ajf {i : Nat} {ta : TA} {tt : TT} {te : TE} {vs : List Nat} {σ : St} {n : Nat} (hn : n ≤ sizeLine) (out : Nat → Option V)
    (src : ∀ R : List V → Hp → Prop, R [.int n] H → ta σ H R)
    (step : ∀ j, j < n → ∀ H', Same H H' → ∀ R : Option V → Hp → Prop, (∀ H'', Same H' H'' → R (out j) H'') → wipe ((wipe σ vs).set i (some (.int j))) vs = wipe σ vs ∧ tt ((wipe σ vs).set i (some (.int j))) H' fun b H3 => if b = true then te ((wipe σ vs).set i (some (.int j))) H3 fun y H4 => R (some y) H4 else R none H3)
    (fin : ∀ D H', H D = none → Same H H' → H' D = some (.lst ((List.range n).filterMap out)) → Q (.ref D) H') : tLc (iRng1 ta) (gName i) tt te vs σ H Q := by
  have hz : sizeLine = 16777216 := sizeLine_eq
  refine src _ ⟨(n : Int), rfl, by omega, by omega, ?_⟩
  refine agl (J := Itr 0 (n : Int).toNat) n hn (fun j => .int j) out (fun j H' hj _ => by show j < (n : Int).toNat; omega) (fun H' _ => by show (n : Int).toNat ≤ n; omega) (fun j H' x H'' hj G y => ?_) (fun j H' hj G R r => step j hj H' G R r) fin
  obtain ⟨e1, y⟩ := y
  exact ⟨by rw [y, Int.zero_add], e1⟩
theorem ald {i : Nat} {tl : TE} {tt : TT} {te : TE} {vs : List Nat} {σ : St} {d : Addr} {ks : List Nat} {f : Nat → V} (hd : H d = some (.dK (gkv ks f))) (hn : ks.length ≤ sizeLine) (out : Nat → Option V)
    (src : ∀ o, ∀ R : V → Hp → Prop, R (.ref d) (upd H d (.frz o (.dK (gkv ks f)))) → tl σ (upd H d (.frz o (.dK (gkv ks f)))) R)
    (step : ∀ g, g ∈ ks → ∀ o H', Same (upd H d (.frz o (.dK (gkv ks f)))) H' → ∀ R : Option V → Hp → Prop, (∀ H'', Same H' H'' → R (out g) H'') →
      wipe ((wipe σ vs).set i (some (.int g))) vs = wipe σ vs ∧ tt ((wipe σ vs).set i (some (.int g))) H' fun b H3 => if b = true then te ((wipe σ vs).set i (some (.int g))) H3 fun y H4 => R (some y) H4 else R none H3)
    (fin : ∀ D H', H D = none → Same H H' → H' D = some (.lst (ks.filterMap out)) → Q (.ref D) H') : tLockE (tLc (iKeys tl) (gName i) tt te vs) σ H Q := by
  refine ⟨d, _, hd, trivial, fun o => src o _ ⟨d, o, rfl, .inl ⟨_, upd_same, ?_⟩⟩⟩
  have eo : outs (fun j => (ks[j]?).bind out) ks.length = ks.filterMap out := by
    have h := aer (fun v => match v with | .int z => out z.toNat | _ => none) (ks.map fun (g : Nat) => V.int (g : Int))
    rw [List.length_map, List.filterMap_map] at h
    have e1 : ((fun v => match v with | V.int z => out z.toNat | _ => none) ∘ fun (g : Nat) => V.int (g : Int)) = out := by
      funext g
      show out ((g : Int).toNat) = out g
      rw [Int.toNat_natCast]
    rw [e1] at h
    rw [← h]
    congr 1
    funext j
    rw [List.getElem?_map]
    cases ks[j]? with
    | none => rfl
    | some g =>
      show out g = out ((g : Int).toNat)
      rw [Int.toNat_natCast]
  refine agl (Q := fun v H' => H' d = some (.frz o (.dK (gkv ks f))) ∧ Q v (upd H' d (.dK (gkv ks f))))
    (J := Itk d o (gkv ks f)) ks.length hn (fun j => (ks[j]?).elim .non fun g => .int (g : Int)) (fun j => (ks[j]?).bind out) (fun j H' hj G => ⟨G _ _ upd_same, by rw [ada]; exact hj⟩)
    (fun H' G => ⟨G _ _ upd_same, by rw [ada]; exact Nat.le_refl _⟩) (fun j H' x H'' hj G y => ?_) (fun j H' hj G R r => ?_) (fun D H' hD hG hl => ⟨hG _ _ upd_same, ?_⟩)
  · obtain ⟨e1, k, v, hk, rfl⟩ := y
    rw [asl, List.getElem?_eq_getElem hj] at hk
    rw [List.getElem?_eq_getElem hj]
    cases hk
    exact ⟨rfl, e1⟩
  · have hx : ks[j]? = some ks[j] := List.getElem?_eq_getElem hj
    rw [hx] at r ⊢
    exact step ks[j] (List.getElem_mem hj) o H' G R r
  · have hDd : D ≠ d := by
      intro e
      subst e
      rw [upd_same] at hD
      cases hD
    have hD' : H D = none := by rw [upd_ne hDd] at hD; exact hD
    refine fin D _ hD' (fun b u e => ?_) ?_
    · by_cases hb : b = d
      · subst hb
        rw [upd_same]
        rw [hd] at e
        exact e
      · rw [upd_ne hb]
        exact hG _ _ (by rw [upd_ne hb]; exact e)
    · rw [upd_ne hDd, hl, eo]
theorem forE {a : Addr} {xs : List V} {i0 i1 : Nat} {tb : TS} {D : Ends} {σ : St} {ta : TA} {H1 : Hp} (src : ∀ R : List V → Hp → Prop, R [.ref a] H1 → ta σ H R) (hS : SqL K H1 a xs) (Pv : Nat → St → Hp → Prop) (h0 : Pv 0 σ H1) (hl : ∀ i σ H, i ≤ xs.length → Pv i σ H → SqL K H a xs)
    (hs : ∀ i x σ H H', xs[i]? = some x → Pv i σ H → Same H H' → tb { D with nx := Pv (i + 1), ct := Pv (i + 1), bk := D.nx } ((σ.set i0 (some (.int i))).set i1 (some x)) H') (hd : ∀ σ H, Pv xs.length σ H → D.nx σ H) :
    tFor (iEnum K ta) (gTup K 2 (gCons (gName i0) (gCons (gName i1) gNil))) tb D σ H := by
  refine src _ ⟨a, xs, rfl, hS, fun i m σ H => m = xs.length - i ∧ i ≤ xs.length ∧ Pv i σ H, ⟨xs.length, by simp, Nat.zero_le _, h0⟩, ?_⟩
  rintro i m σ H ⟨rfl, hi, p⟩
  have q := hl i σ H hi p
  by_cases hlt : i < xs.length
  · refine .inr ⟨⟨xs, xs[i], q, by simp [hlt]⟩, Pv (i + 1), fun σ' H' p' => ⟨xs.length - (i + 1), by omega, rfl, hlt, p'⟩, fun x H' y => ?_⟩
    obtain ⟨T, z, rfl, hT, rfl, hz⟩ := y
    exact ⟨T, _, rfl, .inl (.inl upd_same), rfl, _, _, rfl, _, _, rfl, rfl, hs i z σ H _ (hz xs q) p (Same.new hT)⟩
  · have e : i = xs.length := by omega
    subst e
    exact .inl ⟨⟨xs, q, Nat.le_refl _⟩, hd σ H p⟩
end
section
open PySem.Spec PyProof.Rows
theorem af4 (l : Addr) (items : Array Value) (n : Nat) (b : Addr) (items2 : Array Value) (n2 : Nat) (o2 : Obj) (hc : o2.cls = .type "tuple") (hdat : o2.data = .seq items2 n2) (hs0 : ¬(!items.isEmpty && Builtin.List.listTooLong (items.size + items2.size)) = true) (hs1 : items.size ≤ sizeLine) (hs2 : items.size + items2.size ≤ sizeLine + 1) :
    Meets (Builtin.«list.extend» ⟨[.ref l, .ref b], []⟩) (fun _ R s => s.heap.get? l = some { cls := .type "list", dict := none, data := .seq items n, slots := #[] } ∧ s.heap.get? b = some o2 ∧ R (.ok (.ret Value.none)) { s with heap := s.heap.update l (Obj.mapSeq fun x => x ++ items2), toks := s.toks }) :=
  .of_wp fun prog w A R s h => by
    obtain ⟨hp, g, d, tk, os⟩ := s; obtain ⟨hl, hb, h⟩ := h
    obtain ⟨cls, dct, dat, slt⟩ := o2
    cases hc; cases hdat
    have hz' : (items ++ items2).size ≤ sizeLine + 1 := by rw [Array.size_append]; exact hs2
    wp_walk using (wpAny_updateSeq hl rfl (hz := hs1) (_hz' := hz')), AutoSeq1.wpAny_loadPart' hl, AutoSeq1.wpAny_loadPart' hb; exact ⟨_, rfl, h⟩
variable {X : Cx}
def aqf (K : PySem.W.Frag) : V → List V → Hp → VK → Prop := fun x vs H Q => ∃ l b xs zs, x = .ref l ∧ vs = [.ref b] ∧ H l = some (.lst xs) ∧ SqT K H b zs ∧ xs.length + zs.length ≤ sizeLine ∧ Q .non (upd H l (.lst (xs ++ zs)))
theorem amr : MtM X "list.extend" (aqf X.K) := by
  intro pins s σ H x vs v us Q I rx rv h
  obtain ⟨l, b, xs, zs, rfl, rfl, hH, hB, hz, q⟩ := h
  cases rx
  obtain ⟨u, rfl, ru⟩ := rv.one
  cases ru
  obtain ⟨z, its, n, r, hl, e⟩ := I.lstM hH
  obtain ⟨its2, r2, ⟨o2, e2, hc, n2, hd⟩, hz2⟩ := I.tuple hB
  have hl2 : zs.length = its2.length := r2.length
  have hsz : its.toArray.size + its2.toArray.size ≤ sizeLine := by rw [List.size_toArray, List.size_toArray]; omega
  have hlong : ¬ (!its.toArray.isEmpty && Builtin.List.listTooLong (its.toArray.size + its2.toArray.size)) = true := by
    rw [notLongL hsz, Bool.and_false]
    exact Bool.false_ne_true
  refine call_meets F.slot_list_extend ⟨_, e, rfl⟩ F.entry_list_extend (F.args_list_extend_2 _ _)
    (af4 l its.toArray n b its2.toArray n2 o2 hc hd hlong (by rw [List.size_toArray]; omega) (by omega)) ⟨e, e2, ?_⟩
  refine ⟨.non, _, I.lset (its' := its ++ its2) hH e (by simp) (r.append r2) ?_, rfl, q⟩
  rw [List.length_append]
  omega
end
end GB
end

section
set_option Elab.async false
set_option maxRecDepth 100000
set_option linter.all false
namespace GB
open PySem L2
section
variable {X : Cx} {K : PySem.W.Frag} {e : Expr} {f : Str} {pos : Pos} {ta : TE}
theorem yj (K : PySem.W.Frag) (hK : X.K = K) (he : PE X e ta) (hb : attributeBase e f X.env (eval e X.env) = eval e X.env) : PE X (.Attribute e f pos) (tFld K ta f) := by
  subst hK
  exact pe_fld he hb
theorem arg (K : PySem.W.Frag) (hK : X.K = K) : IxR X (rIxL K) := by
  subst hK
  exact ix_list
theorem aiq (K : PySem.W.Frag) (hK : X.K = K) : CallR X (.builtin "len") (fun xs H Q => ∃ p ys, xs = [V.ref p] ∧ (SqL K H p ys ∨ SqT K H p ys) ∧ Q (.int ys.length) H) := by
  subst hK
  exact call_len_seq
theorem aok {l : List Nat} {g : Nat} (h : g ∈ l) : l.length = (l.erase g).length + 1 := by
  rw [List.length_erase_of_mem h]
  have := List.length_pos_of_mem h
  omega
theorem ai4 : ∀ (l m : List Nat), l.Nodup → (∀ x ∈ l, x ∈ m) → l.length ≤ m.length
  | [], _, _, _ => Nat.zero_le _
  | x :: r, m, h, hs => by
    have hx := hs x (List.mem_cons_self ..)
    have hn := List.nodup_cons.mp h
    have := ai4 r (m.erase x) hn.2 fun y hy => (List.mem_erase_of_ne (show y ≠ x from fun e => hn.1 (by rw [← e]; exact hy))).mpr (hs y (List.mem_cons_of_mem _ hy))
    rw [aok hx, List.length_cons]
    omega
end
end GB
end

section
set_option Elab.async false
set_option maxRecDepth 100000
set_option maxHeartbeats 4000000
set_option linter.all false
set_option exponentiation.threshold 100
namespace GB
open PySem L2
section
variable {P : Program} {w : World} {K : PySem.W.Frag} {mg : Str → Option Value} {base : Heap} {t : Ad}
theorem au {z : Int} {k : Nat} (h : z.natAbs < 2 ^ 64) (hk : 64 ≤ k) : Sm k z := Nat.lt_of_lt_of_le h (Nat.pow_le_pow_right (by decide) hk)
theorem atl {a b : Int} (h : 0 < b) {k : Nat} (ha : Sm k a) : Sm (k + 1) (a / b) := by
  unfold Sm at *
  rw [Nat.pow_succ]
  have h3 : (a / b).natAbs ≤ a.natAbs := by
    rcases Int.lt_or_le a 0 with hl | hl
    · have : -(a.natAbs : Int) ≤ a / b := (Int.le_ediv_iff_mul_le h).mpr (by
        have := Int.mul_le_mul_of_nonneg_left (show (1 : Int) ≤ b by omega) (show 0 ≤ (a.natAbs : Int) by omega)
        rw [Int.mul_one] at this
        rw [Int.neg_mul]
        omega)
      have h4 : a / b < 0 := Int.ediv_neg_of_neg_of_pos hl h
      omega
    · have := Int.ediv_le_self b hl
      have := Int.ediv_nonneg hl (show 0 ≤ b by omega)
      omega
  omega
def Cnw (a b : Int) : Prop := Sm 8990 a ∧ 0 < b ∧ Sm 8990 b
theorem uh : FnScope ["top", "below", "whole", "rest"] ["top", "below"] (defScope v0) := ⟨rfl, rfl, rfl, by decide +kernel, rfl, by decide +kernel, by decide +kernel⟩
theorem zl (T : Txt K mg t) : FnOk P w K mg base CX0 1 t.jy t.j0 ["top", "below"] (sp2 Cnw nw) := by
  refine T.gu.ok uh (fun vs H Q E h => ?_) (fun cdv A outer s H vs Q E hr h => ?_)
  · obtain ⟨a, b, rfl, _⟩ := h
    rfl
  · obtain ⟨a, b, rfl, ⟨ha, hb, hb2⟩, q⟩ := h
    refine ⟨_, (pss_cons (ps_set (i := 2) uh.nd rfl (Or.inl rfl) (pe_op aea (pv 0) (pv 1)))
      (pss_cons (ps_set (i := 3) uh.nd rfl (Or.inl rfl) (pe_op qu pe_int (pe_op op_sub (pv 0) (pe_op qu (pv 2) (pv 1)))))
      (pss_cons (ps_if (PW.pt (pw_or (pt_cmpR op_gt (pv 3) (pv 1) (nomark _)) (pw_or1 (PW.pt (pw_and (pt_cmpR op_eq (pv 3) (pv 1) (nomark _)) (pw_and1 (pt_cmpR op_eq (pe_op op_mod (pv 2) pe_int) pe_int (nomark _))))))))
        (pss_one (ps_ret (pe_op op_add (pv 2) pe_int)))
        pss_nil)
      (pss_one (ps_ret (pv 2)))))), ?_⟩
    have hd := atl hb ha
    obtain ⟨r1, r2⟩ := ags a hb
    have hs : Sm 9000 (a - a / b * b) := by
      unfold Sm at *
      have e : (2 : Nat) ^ 8990 < 2 ^ 9000 := Nat.pow_lt_pow_right (by decide) (by decide)
      omega
    simp only [RD, List.replicate, List.set, Nat.reduceAdd, Nat.reduceSub]
    refine ⟨⟨hb, hb2.mono (by decide)⟩, ⟨hd.mono (by decide), hb2.mono (by decide)⟩, ⟨au (by decide) (by decide), hs⟩, ?_⟩
    unfold nw at q
    by_cases h1 : b < 2 * (a - a / b * b)
    · rw [if_pos h1]
      rw [if_pos (.inl h1)] at q
      exact q
    · rw [if_neg h1]
      by_cases h2 : 2 * (a - a / b * b) = b
      · rw [if_pos h2]
        refine ⟨by decide, ?_⟩
        by_cases h3 : a / b % 2 = 1
        · rw [if_pos h3]
          rw [if_pos (.inr ⟨h2, h3⟩)] at q
          exact q
        · rw [if_neg h3]
          rw [if_neg (fun h => h.elim h1 fun h => h3 h.2)] at q
          exact q
      · rw [if_neg h2]
        rw [if_neg (fun h => h.elim h1 fun h => h2 h.1)] at q
        exact q
theorem auj {a b : Int} {k : Nat} (hb : 0 < b) (ha : Sm k a) : Sm (k + 1) (nw a b) := by
  have h1 : nw a b ≤ (a.natAbs : Int) := aix hb (by
    have := Int.mul_le_mul_of_nonneg_left (show (1 : Int) ≤ b by omega) (show 0 ≤ (a.natAbs : Int) by omega)
    rw [Int.mul_one] at this
    omega)
  have h2 : -(a.natAbs : Int) ≤ nw a b := aio hb (by
    have := Int.mul_le_mul_of_nonneg_left (show (1 : Int) ≤ b by omega) (show 0 ≤ (a.natAbs : Int) by omega)
    rw [Int.mul_one] at this
    rw [Int.neg_mul]
    omega)
  unfold Sm at *
  rw [Nat.pow_succ]
  omega
theorem afa {a : Int} {k j : Nat} (ha : Sm k a) : Sm (k + j) (a * ((2 ^ j : Nat) : Int)) := by
  unfold Sm at *
  rw [Int.natAbs_mul, Int.natAbs_natCast, Nat.pow_add]
  exact Nat.mul_lt_mul_of_pos_right ha (Nat.two_pow_pos j)
def Cnd (a b d : Int) : Prop := Sm 4000 a ∧ 0 < b ∧ Sm 4000 b ∧ 0 ≤ d
theorem vy : FnScope ["top", "below", "digits", "spare"] ["top", "below", "digits"] (defScope qk) := ⟨rfl, rfl, rfl, by decide +kernel, rfl, by decide +kernel, by decide +kernel⟩
theorem oh (T : Txt K mg t) : FnOk P w K mg base CX0 2 t.dn t.dh ["top", "below", "digits"] (sp3 Cnd fun a b d => nd a b d.toNat) := by
  refine T.bc.ok vy (fun vs H Q E h => ?_) (fun cdv A outer s H vs Q E hr h => ?_)
  · obtain ⟨a, b, d, rfl, _⟩ := h
    rfl
  · obtain ⟨a, b, d, rfl, ⟨ha, hb, hb2, hd⟩, q⟩ := h
    refine ⟨_, (pss_cons (ps_set (i := 3) vy.nd rfl (Or.inl rfl) (pe_callB (cMax rfl) (by rfl) T.aej wx (pa_cons pe_int (pa_cons (pe_op op_sub (pe_bm0 PySem.F.plainAttrs_int PySem.F.slot_int_bit_length PySem.F.type_int_bit_length anx (pe_op aea (pe_callB cAbs (by rfl) T.alx ajd (pa_cons (pv 0) pa_nil)) (pv 1))) (pv 2)) pa_nil))))
      (pss_one (ps_ret (pe_op fe (pe_call (zl T) (hr.mono (by decide)) rfl T.my T.gu.kp T.wj .nil pass0 (pa_cons (pv 0) (pa_cons (pe_op fe (pv 1) (pv 3)) pa_nil))) (pv 3))))), ?_⟩
    have e1 : (a.natAbs : Int) / b = ((a.natAbs / b.natAbs : Nat) : Int) := by
      rw [Int.natCast_ediv]
      congr 1
      omega
    have e2 : (max 0 ((bl (a.natAbs / b.natAbs) : Int) - d)).toNat = ag a b d.toNat := by
      unfold ag
      omega
    have hsp : ag a b d.toNat ≤ 4000 := by
      unfold ag
      have : a.natAbs / b.natAbs < 2 ^ 4000 := Nat.lt_of_le_of_lt (Nat.div_le_self _ _) ha
      have := mz.mpr this
      omega
    have hpos : 0 < b * ((2 ^ ag a b d.toNat : Nat) : Int) := Int.mul_pos hb (p2 _)
    simp only [RD, List.replicate, List.set, Nat.reduceAdd, Nat.reduceSub, e1, Int.natAbs_natCast, e2]
    refine ⟨⟨hb, hb2.mono (by decide)⟩, Int.natCast_nonneg _, ⟨hb2.mono (by decide), by omega, by omega⟩, ⟨ha.mono (by decide), hpos, (afa hb2).mono (by omega)⟩, ⟨(auj hpos ha).mono (by decide), by omega, by omega⟩, q⟩
def Cmd (a b : Int) : Prop := Sm 4000 a ∧ 0 < b ∧ Sm 4000 b
theorem agt : FnScope ["top", "below"] ["top", "below"] (defScope yz) := ⟨rfl, rfl, rfl, by decide +kernel, rfl, by decide +kernel, by decide +kernel⟩
theorem ar (T : Txt K mg t) : FnOk P w K mg base CX0 3 t.nq t.na ["top", "below"] (sp2 Cmd fun a b => nd a b 53) := by
  refine T.al.ok agt (fun vs H Q E h => ?_) (fun cdv A outer s H vs Q E hr h => ?_)
  · obtain ⟨a, b, rfl, _⟩ := h
    rfl
  · obtain ⟨a, b, rfl, ⟨ha, hb, hb2⟩, q⟩ := h
    refine ⟨_, (pss_one (ps_ret (pe_call (oh T) (hr.mono (by decide)) rfl T.dl T.bc.kp T.kr .nil pass0 (pa_cons (pv 0) (pa_cons (pv 1) (pa_cons (ai T.jj rfl) pa_nil)))))), ?_⟩
    simp only [RD, List.replicate, List.set, Nat.reduceAdd, Nat.reduceSub]
    exact ⟨⟨ha, hb, hb2, by decide⟩, q⟩
theorem abk : FnScope ["number"] ["number"] (defScope qj) := ⟨rfl, rfl, rfl, by decide +kernel, rfl, by decide +kernel, by decide +kernel⟩
theorem aa7 (T : Txt K mg t) : FnOk P w K mg base CX0 3 t.dk t.dj ["number"] (sp1 (Sm 4000) fun a => nd a 1 53) := by
  refine T.di.ok abk (fun vs H Q E h => ?_) (fun cdv A outer s H vs Q E hr h => ?_)
  · obtain ⟨a, rfl, _⟩ := h
    rfl
  · obtain ⟨a, rfl, ha, q⟩ := h
    refine ⟨_, (pss_one (ps_ret (pe_call (oh T) (hr.mono (by decide)) rfl T.dl T.bc.kp T.kr .nil pass0 (pa_cons (pv 0) (pa_cons pe_int (pa_cons (ai T.jj rfl) pa_nil)))))), ?_⟩
    simp only [RD, List.replicate, List.set, Nat.reduceAdd, Nat.reduceSub]
    exact ⟨⟨ha, by decide, au (by decide) (by decide), by decide⟩, q⟩
theorem aj9 {j k : Nat} (h : j < k) : Sm k ((2 ^ j : Nat) : Int) := by
  unfold Sm
  rw [Int.natAbs_natCast]
  exact Nat.pow_lt_pow_right (by decide) h
theorem wm (j : Int) : (1 : Int) * ((2 ^ j.toNat : Nat) : Int) = ((2 ^ j.toNat : Nat) : Int) := Int.one_mul _
theorem aht : FnScope ["steps"] ["steps"] (defScope y0) := ⟨rfl, rfl, rfl, by decide +kernel, rfl, by decide +kernel, by decide +kernel⟩
theorem aa8 (T : Txt K mg t) : FnOk P w K mg base CX0 3 t.nb t.m7 ["steps"] (sp1 (Sm 4000) msi) := by
  refine T.km.ok aht (fun vs H Q E h => ?_) (fun cdv A outer s H vs Q E hr h => ?_)
  · obtain ⟨a, rfl, _⟩ := h
    rfl
  · obtain ⟨a, rfl, ha, q⟩ := h
    refine ⟨_, (pss_one (ps_ret (pe_call (oh T) (hr.mono (by decide)) rfl T.dl T.bc.kp T.kr .nil pass0 (pa_cons (pv 0) (pa_cons (pe_op fe pe_int (pe_op op_sub (ai T.wc rfl) (ai T.ql rfl))) (pa_cons (ai T.mw rfl) pa_nil)))))), ?_⟩
    simp only [RD, List.replicate, List.set, Nat.reduceAdd, Nat.reduceSub, wm]
    rw [show ((1074 : Int) - 149).toNat = 925 from rfl]
    exact ⟨⟨au (by decide) (by decide), by decide, by decide⟩, ⟨ha, ajt, aj9 (by decide), by decide⟩, q⟩
theorem ajh {a b : Int} {j k : Nat} (ha : Sm j a) (hb : Sm k b) : Sm (j + k) (a * b) := by
  unfold Sm at *
  rw [Int.natAbs_mul, Nat.pow_add]
  exact Nat.mul_lt_mul'' ha hb
theorem afk {a b : Int} {k : Nat} (ha : Sm k a) (hb : Sm k b) : Sm (k + 1) (a + b) := by
  unfold Sm at *
  rw [Nat.pow_succ]
  omega
theorem ajp {a : Int} {k : Nat} (ha : Sm k a) : Sm k (-a) := by
  unfold Sm at *
  rw [Int.natAbs_neg]
  exact ha
def aut (a b : Int) : Prop := Sm 1500 a ∧ Sm 1500 b
theorem amh : FnScope ["first", "second"] ["first", "second"] (defScope aff) := ⟨rfl, rfl, rfl, by decide +kernel, rfl, by decide +kernel, by decide +kernel⟩
theorem am1 (T : Txt K mg t) : FnOk P w K mg base CX0 4 t.wv t.w9 ["first", "second"] (sp2 aut fun a b => nd (a * b) (S74 : Int) 53) := by
  refine T.xi.ok amh (fun vs H Q E h => ?_) (fun cdv A outer s H vs Q E hr h => ?_)
  · obtain ⟨a, b, rfl, _⟩ := h
    rfl
  · obtain ⟨a, b, rfl, ⟨ha, hb⟩, q⟩ := h
    refine ⟨_, (pss_one (ps_ret (pe_call (ar T) (hr.mono (by decide)) rfl T.ao T.al.kp T.aw .nil pass0 (pa_cons (pe_op qu (pv 0) (pv 1)) (pa_cons (pe_op fe pe_int (ai T.wc rfl)) pa_nil))))), ?_⟩
    simp only [RD, List.replicate, List.set, Nat.reduceAdd, Nat.reduceSub, wm]
    rw [show ((1074 : Int)).toNat = 1074 from rfl]
    exact ⟨⟨ha.mono (by decide), hb.mono (by decide)⟩, ⟨au (by decide) (by decide), by decide, by decide⟩, ⟨(ajh ha hb).mono (by decide), qw, aj9 (by decide)⟩, q⟩
def atq (a b c : Int) : Prop := Sm 1500 a ∧ Sm 1500 b ∧ Sm 2500 c
theorem ac7 : FnScope ["first", "second", "third"] ["first", "second", "third"] (defScope ua) := ⟨rfl, rfl, rfl, by decide +kernel, rfl, by decide +kernel, by decide +kernel⟩
theorem xr (T : Txt K mg t) : FnOk P w K mg base CX0 4 t.gc t.fx ["first", "second", "third"] (sp3 atq fun a b c => nd (a * b + c * (S74 : Int)) (S74 : Int) 53) := by
  refine T.cz.ok ac7 (fun vs H Q E h => ?_) (fun cdv A outer s H vs Q E hr h => ?_)
  · obtain ⟨a, b, c, rfl, _⟩ := h
    rfl
  · obtain ⟨a, b, c, rfl, ⟨ha, hb, hc⟩, q⟩ := h
    refine ⟨_, (pss_one (ps_ret (pe_call (ar T) (hr.mono (by decide)) rfl T.ao T.al.kp T.aw .nil pass0 (pa_cons (pe_op op_add (pe_op qu (pv 0) (pv 1)) (pe_op fe (pv 2) (ai T.wc rfl))) (pa_cons (pe_op fe pe_int (ai T.wc rfl)) pa_nil))))), ?_⟩
    simp only [RD, List.replicate, List.set, Nat.reduceAdd, Nat.reduceSub, wm]
    rw [show ((1074 : Int)).toNat = 1074 from rfl]
    exact ⟨⟨ha.mono (by decide), hb.mono (by decide)⟩, ⟨hc.mono (by decide), by decide, by decide⟩, ⟨au (by decide) (by decide), by decide, by decide⟩,
      ⟨(afk ((ajh ha hb).mono (by decide : 1500 + 1500 ≤ 3600)) ((afa hc).mono (by decide : 2500 + 1074 ≤ 3600))).mono (by decide), qw, aj9 (by decide)⟩, q⟩
def Cquo (a b : Int) : Prop := Sm 1500 a ∧ Sm 1500 b ∧ b ≠ 0
theorem alw : FnScope ["first", "second"] ["first", "second"] (defScope adb) := ⟨rfl, rfl, rfl, by decide +kernel, rfl, by decide +kernel, by decide +kernel⟩
theorem aln (T : Txt K mg t) : FnOk P w K mg base CX0 4 t.ut t.ul ["first", "second"] (sp2 Cquo quo) := by
  refine T.va.ok alw (fun vs H Q E h => ?_) (fun cdv A outer s H vs Q E hr h => ?_)
  · obtain ⟨a, b, rfl, _⟩ := h
    rfl
  · obtain ⟨a, b, rfl, ⟨ha, hb, h0⟩, q⟩ := h
    refine ⟨_, (pss_cons (ps_if (pt_cmpR op_lt (pv 1) pe_int (nomark _))
        (pss_one (ps_ret (pe_call (ar T) (hr.mono (by decide)) rfl T.ao T.al.kp T.aw .nil pass0 (pa_cons (pe_op fe (pe_un un_neg (pv 0)) (ai T.wc rfl)) (pa_cons (pe_un un_neg (pv 1)) pa_nil)))))
        pss_nil)
      (pss_one (ps_ret (pe_call (ar T) (hr.mono (by decide)) rfl T.ao T.al.kp T.aw .nil pass0 (pa_cons (pe_op fe (pv 0) (ai T.wc rfl)) (pa_cons (pv 1) pa_nil)))))), ?_⟩
    simp only [RD, List.replicate, List.set, Nat.reduceAdd, Nat.reduceSub]
    rw [show ((1074 : Int)).toNat = 1074 from rfl]
    unfold quo at q
    by_cases hn : b < 0
    · rw [if_pos hn]
      rw [if_pos hn] at q
      exact ⟨⟨(ajp ha).mono (by decide), by decide, by decide⟩, ⟨(afa (ajp ha)).mono (by decide), by omega, (ajp hb).mono (by decide)⟩, q⟩
    · rw [if_neg hn]
      rw [if_neg hn] at q
      exact ⟨⟨ha.mono (by decide), by decide, by decide⟩, ⟨(afa ha).mono (by decide), by omega, hb.mono (by decide)⟩, q⟩
theorem agg : FnScope ["steps"] ["steps"] (defScope xu) := ⟨rfl, rfl, rfl, by decide +kernel, rfl, by decide +kernel, by decide +kernel⟩
theorem aau (T : Txt K mg t) : FnOk P w K mg base CX0 2 t.ll t.ky ["steps"] (sp1 (Sm 4000) fun a => nw a (S74 : Int)) := by
  refine T.iw.ok agg (fun vs H Q E h => ?_) (fun cdv A outer s H vs Q E hr h => ?_)
  · obtain ⟨a, rfl, _⟩ := h
    rfl
  · obtain ⟨a, rfl, ha, q⟩ := h
    refine ⟨_, (pss_one (ps_ret (pe_call (zl T) (hr.mono (by decide)) rfl T.my T.gu.kp T.wj .nil pass0 (pa_cons (pv 0) (pa_cons (pe_op fe pe_int (ai T.wc rfl)) pa_nil))))), ?_⟩
    simp only [RD, List.replicate, List.set, Nat.reduceAdd, Nat.reduceSub, wm]
    rw [show ((1074 : Int)).toNat = 1074 from rfl]
    exact ⟨⟨au (by decide) (by decide), by decide, by decide⟩, ⟨ha.mono (by decide), qw, aj9 (by decide)⟩, q⟩
def auc (z d v : Int) : Prop := Sm 4000 z ∧ 1 ≤ d ∧ d ≤ 64 ∧ 1 ≤ v ∧ v ≤ 64
def anq (z d v : Int) : Int := if z < 0 then (mag d.toNat z.natAbs : Int) + ((2 ^ (v.toNat - 1) : Nat) : Int) else (mag d.toNat z.natAbs : Int)
theorem aaf : FnScope ["steps", "digits", "width", "size", "shift", "bits"] ["steps", "digits", "width"] (defScope ae1) := ⟨rfl, rfl, rfl, by decide +kernel, rfl, by decide +kernel, by decide +kernel⟩
theorem ahy (T : Txt K mg t) : FnOk P w K mg base CX0 1 t.xa t.w6 ["steps", "digits", "width"] (sp3 auc anq) := by
  refine T.vh.ok aaf (fun vs H Q E h => ?_) (fun cdv A outer s H vs Q E hr h => ?_)
  · obtain ⟨z, d, v, rfl, _⟩ := h
    rfl
  · obtain ⟨z, d, v, rfl, ⟨hz, d1, d2, v1, v2⟩, q⟩ := h
    refine ⟨_, (pss_cons (ps_set (i := 3) aaf.nd rfl (Or.inl rfl) (pe_callB cAbs (by rfl) T.alx ajd (pa_cons (pv 0) pa_nil)))
      (pss_cons (ps_set (i := 4) aaf.nd rfl (Or.inl rfl) (pe_callB (cMax rfl) (by rfl) T.aej wx (pa_cons pe_int (pa_cons (pe_op op_sub (pe_bm0 PySem.F.plainAttrs_int PySem.F.slot_int_bit_length PySem.F.type_int_bit_length anx (pv 3)) (pv 1)) pa_nil))))
      (pss_cons (ps_set (i := 5) aaf.nd rfl (Or.inl rfl) (pe_op op_add (pe_op fe (pv 4) (pe_op op_sub (pv 1) pe_int)) (pe_op adw (pv 3) (pv 4))))
      (pss_cons (ps_if (pt_cmpR op_lt (pv 0) pe_int (nomark _))
        (pss_one (ps_ret (pe_op op_add (pv 5) (pe_op fe pe_int (pe_op op_sub (pv 2) pe_int)))))
        pss_nil)
      (pss_one (ps_ret (pv 5))))))), ?_⟩
    have hbl : bl z.natAbs ≤ 4000 := mz.mpr hz
    have e2 : (max 0 ((bl z.natAbs : Int) - d)) = ((bl z.natAbs - d.toNat : Nat) : Int) := by omega
    simp only [RD, List.replicate, List.set, Nat.reduceAdd, Nat.reduceSub, wm, Int.natAbs_natCast, e2, Int.toNat_natCast]
    have em : ((bl z.natAbs - d.toNat : Nat) : Int) * ((2 ^ (d - 1).toNat : Nat) : Int) + (z.natAbs : Int) / ((2 ^ (bl z.natAbs - d.toNat) : Nat) : Int) = (mag d.toNat z.natAbs : Int) := by
      unfold mag
      rw [Int.natCast_add, Int.natCast_mul, Int.natCast_ediv, show (d - 1).toNat = d.toNat - 1 by omega]
    rw [em, show (v - 1).toNat = v.toNat - 1 by omega]
    refine ⟨by omega, ⟨au (by omega) (by decide), by omega, by omega⟩, by omega, ?_⟩
    unfold anq at q
    by_cases hn : z < 0
    · rw [if_pos hn]
      rw [if_pos hn] at q
      exact ⟨⟨au (by decide) (by decide), by omega, by omega⟩, q⟩
    · rw [if_neg hn]
      rw [if_neg hn] at q
      exact q
theorem alo (f : Ql90.Form) (z : Int) : anq z (f.p : Int) (f.bits : Int) = (nv f z : Int) := by
  unfold anq nv
  rw [Int.toNat_natCast, Int.toNat_natCast]
  split
  · rw [Int.natCast_add]; omega
  · rw [Nat.zero_add]
theorem ahw : FnScope ["steps"] ["steps"] (defScope yx) := ⟨rfl, rfl, rfl, by decide +kernel, rfl, by decide +kernel, by decide +kernel⟩
theorem lr (T : Txt K mg t) : FnOk P w K mg base CX0 2 t.nc t.ni ["steps"] (sp1 (Sm 4000) fun z => (DB z : Int)) := by
  refine T.b6.ok ahw (fun vs H Q E h => ?_) (fun cdv A outer s H vs Q E hr h => ?_)
  · obtain ⟨z, rfl, _⟩ := h
    rfl
  · obtain ⟨z, rfl, hz, q⟩ := h
    refine ⟨_, (pss_one (ps_ret (pe_call (ahy T) (hr.mono (by decide)) rfl T.zi T.vh.kp T.aeq .nil pass0 (pa_cons (pv 0) (pa_cons (ai T.jj rfl) (pa_cons pe_int pa_nil)))))), ?_⟩
    simp only [RD, List.replicate, List.set, Nat.reduceAdd, Nat.reduceSub]
    refine ⟨⟨hz, by decide, by decide, by decide, by decide⟩, ?_⟩
    have e := alo Ql90.DOUBLE z
    rw [← show ((Ql90.DOUBLE.p : Nat) : Int) = 53 from rfl, ← show ((Ql90.DOUBLE.bits : Nat) : Int) = 64 from rfl, e]
    exact q
theorem ag2 : FnScope ["steps"] ["steps"] (defScope y8) := ⟨rfl, rfl, rfl, by decide +kernel, rfl, by decide +kernel, by decide +kernel⟩
theorem abz (T : Txt K mg t) : FnOk P w K mg base CX0 2 t.m8 t.nk ["steps"] (sp1 (Sm 4000) fun z => (SB z : Int)) := by
  refine T.kj.ok ag2 (fun vs H Q E h => ?_) (fun cdv A outer s H vs Q E hr h => ?_)
  · obtain ⟨z, rfl, _⟩ := h
    rfl
  · obtain ⟨z, rfl, hz, q⟩ := h
    refine ⟨_, (pss_one (ps_ret (pe_call (ahy T) (hr.mono (by decide)) rfl T.zi T.vh.kp T.aeq .nil pass0 (pa_cons (pv 0) (pa_cons (ai T.mw rfl) (pa_cons pe_int pa_nil)))))), ?_⟩
    simp only [RD, List.replicate, List.set, Nat.reduceAdd, Nat.reduceSub]
    refine ⟨⟨hz, by decide, by decide, by decide, by decide⟩, ?_⟩
    have e := alo Ql90.SINGLE z
    rw [← show ((Ql90.SINGLE.p : Nat) : Int) = 24 from rfl, ← show ((Ql90.SINGLE.bits : Nat) : Int) = 32 from rfl, e]
    exact q
def fld (x : Int) : Int := x / ((2 ^ 52 : Nat) : Int) % 2048
theorem ad3 : FnScope ["bits"] ["bits"] (defScope ui) := ⟨rfl, rfl, rfl, by decide +kernel, rfl, by decide +kernel, by decide +kernel⟩
theorem tw (T : Txt K mg t) : FnOk P w K mg base CX0 1 t.ij t.ie ["bits"] (sp1 (fun _ => True) fld) := by
  refine T.cx.ok ad3 (fun vs H Q E h => ?_) (fun cdv A outer s H vs Q E hr h => ?_)
  · obtain ⟨z, rfl, _⟩ := h
    rfl
  · obtain ⟨z, rfl, _, q⟩ := h
    refine ⟨_, (pss_one (ps_ret (pe_op op_mod (pe_op adw (pv 0) pe_int) pe_int))), ?_⟩
    simp only [RD, List.replicate, List.set, Nat.reduceAdd, Nat.reduceSub]
    exact ⟨by decide, by decide, q⟩
def B64 (x : Int) : Prop := 0 ≤ x ∧ x < 2 ^ 64
theorem aj1 {x : Int} (h : B64 x) : fld x = ((x.toNat / 2 ^ 52 % 2048 : Nat) : Int) := by
  unfold fld
  rw [Int.natCast_emod, Int.natCast_ediv, Int.toNat_of_nonneg h.1]
  rfl
theorem yu : FnScope ["bits", "field", "steps"] ["bits"] (defScope ac4) := ⟨rfl, rfl, rfl, by decide +kernel, rfl, by decide +kernel, by decide +kernel⟩
theorem aba (T : Txt K mg t) : FnOk P w K mg base CX0 2 t.vd t.uq ["bits"] (sp1 B64 fun x => st x.toNat) := by
  refine T.o4.ok yu (fun vs H Q E h => ?_) (fun cdv A outer s H vs Q E hr h => ?_)
  · obtain ⟨z, rfl, _⟩ := h
    rfl
  · obtain ⟨x, rfl, hx, q⟩ := h
    refine ⟨_, (pss_cons (ps_set (i := 1) yu.nd rfl (Or.inl rfl) (pe_call (tw T) (hr.mono (by decide)) rfl T.ik T.cx.kp T.p8 .nil pass0 (pa_cons (pv 0) pa_nil)))
      (pss_cons (ps_set (i := 2) yu.nd rfl (Or.inl rfl) (pe_op op_mod (pv 0) (pe_op fe pe_int pe_int)))
      (pss_cons (ps_if (pt_cmpR op_gt (pv 1) pe_int (nomark _))
        (pss_one (ps_set (i := 2) yu.nd rfl (Or.inl rfl) (pe_op fe (pe_op op_add (pv 2) (pe_op fe pe_int pe_int)) (pe_op op_sub (pv 1) pe_int))))
        pss_nil)
      (pss_cons (ps_if (pt_cmpR op_eq (pe_op adw (pv 0) pe_int) pe_int (nomark _))
        (pss_one (ps_ret (pe_un un_neg (pv 2))))
        pss_nil)
      (pss_one (ps_ret (pv 2))))))), ?_⟩
    have hf := aj1 hx
    obtain ⟨h0, h1⟩ := id hx
    have hlt : x.toNat < 2 ^ 64 := by omega
    have q : Q (V.int (st x.toNat)) H := q
    rw [← ae3 hlt] at q
    unfold stp at q
    have hm : x % ((2 ^ 52 : Nat) : Int) = ((x.toNat % 2 ^ 52 : Nat) : Int) := by
      rw [Int.natCast_emod, Int.toNat_of_nonneg h0]
    have hs : x / ((2 ^ 63 : Nat) : Int) = ((x.toNat / 2 ^ 63 : Nat) : Int) := by
      rw [Int.natCast_ediv, Int.toNat_of_nonneg h0]
    have hc : (((x.toNat / 2 ^ 63 : Nat) : Int) = 1) = (x.toNat / 2 ^ 63 = 1) := propext ⟨fun h => by omega, fun h => by omega⟩
    have hfb : x.toNat / 2 ^ 52 % 2048 < 2048 := Nat.mod_lt _ (by decide)
    have hrb : x.toNat % 2 ^ 52 < 2 ^ 52 := Nat.mod_lt _ (by decide)
    simp only [RD, List.replicate, List.set, Nat.reduceAdd, Nat.reduceSub, wm, hf]
    rw [show ((52 : Int)).toNat = 52 from rfl, show ((63 : Int)).toNat = 63 from rfl, hm, hs]
    simp only [hc]
    refine ⟨trivial, ⟨au (by decide) (by decide), by decide, by decide⟩, p2 52, ?_⟩
    generalize x.toNat / 2 ^ 52 % 2048 = e at *
    generalize x.toNat % 2 ^ 52 = r at *
    by_cases he : 0 < e
    · rw [if_pos (by omega)]
      refine ⟨⟨au (by decide) (by decide), by decide, by decide⟩, ⟨au (by omega) (by decide), by omega, by omega⟩, by decide, ?_⟩
      rw [if_pos he] at q
      rw [show ((e : Int) - 1).toNat = e - 1 by omega, ← Int.natCast_add, ← Int.natCast_mul]
      by_cases hsg : x.toNat / 2 ^ 63 = 1
      · rw [if_pos hsg]
        rw [if_pos hsg] at q
        exact q
      · rw [if_neg hsg]
        rw [if_neg hsg] at q
        exact q
    · rw [if_neg (by omega)]
      refine ⟨by decide, ?_⟩
      rw [if_neg he] at q
      by_cases hsg : x.toNat / 2 ^ 63 = 1
      · rw [if_pos hsg]
        rw [if_pos hsg] at q
        exact q
      · rw [if_neg hsg]
        rw [if_neg hsg] at q
        exact q
theorem ari {x : Int} (h : B64 x) : Ql90.measure x.toNat = (decide (x = 0) || (decide (963 ≤ fld x) && decide (fld x < 1083))) := by
  unfold Ql90.measure
  rw [dexp, aj1 h]
  obtain ⟨h0, h1⟩ := h
  have hlt : x.toNat < 2 ^ 64 := by omega
  generalize x.toNat / 2 ^ 52 % 2048 = e
  rw [decide_eq_true hlt, Bool.true_and]
  by_cases h0 : x = 0
  · subst h0; simp
  · have hne : x.toNat ≠ 0 := by omega
    rw [decide_eq_false h0, show (x.toNat == 0) = false from beq_eq_false_iff_ne.mpr hne, Bool.false_or, Bool.false_or]
    congr 1
    · exact decide_eq_decide.mpr ⟨fun h => by omega, fun h => by omega⟩
    · exact decide_eq_decide.mpr ⟨fun h => by omega, fun h => by omega⟩
theorem aib : FnScope ["bits"] ["bits"] (defScope z4) := ⟨rfl, rfl, rfl, by decide +kernel, rfl, by decide +kernel, by decide +kernel⟩
theorem aik (T : Txt K mg t) : FnOk P w K mg base CX0 2 t.pc t.pj ["bits"] (spb B64 fun x => Ql90.measure x.toNat) := by
  refine T.qg.ok aib (fun vs H Q E h => ?_) (fun cdv A outer s H vs Q E hr h => ?_)
  · obtain ⟨z, rfl, _⟩ := h
    rfl
  · obtain ⟨x, rfl, hx, q⟩ := h
    refine ⟨_, (pss_one (ps_ret (pe_or (pe_cmpR op_eq (pv 0) pe_int (nomark _)) (pe_one (pe_chain op_le op_lt (ai T.mn rfl) (pe_call (tw T) (hr.mono (by decide)) rfl T.ik T.cx.kp T.p8 .nil pass0 (pa_cons (pv 0) pa_nil)) (ai T.n8 rfl)))))), ?_⟩
    have q : Q (V.bl (Ql90.measure x.toNat)) H := q
    rw [ari hx] at q
    simp only [RD, List.replicate, List.set, Nat.reduceAdd, Nat.reduceSub]
    by_cases h0 : x = 0
    · rw [if_pos h0]
      rw [decide_eq_true h0, Bool.true_or] at q
      exact q
    · rw [if_neg h0]
      rw [decide_eq_false h0, Bool.false_or] at q
      refine ⟨trivial, ?_⟩
      by_cases h1 : 963 ≤ fld x
      · rw [if_pos h1]
        rw [decide_eq_true h1, Bool.true_and] at q
        exact q
      · rw [if_neg h1]
        rw [decide_eq_false h1, Bool.false_and] at q
        exact q
theorem ali : FnScope ["bits"] ["bits"] (defScope adc) := ⟨rfl, rfl, rfl, by decide +kernel, rfl, by decide +kernel, by decide +kernel⟩
theorem afy (T : Txt K mg t) : FnOk P w K mg base CX0 2 t.vk t.uw ["bits"] (spb B64 fun x => Ql90.fair x.toNat) := by
  refine T.rh.ok ali (fun vs H Q E h => ?_) (fun cdv A outer s H vs Q E hr h => ?_)
  · obtain ⟨z, rfl, _⟩ := h
    rfl
  · obtain ⟨x, rfl, hx, q⟩ := h
    refine ⟨_, (pss_one (ps_ret (pe_cmpR op_lt (pe_call (tw T) (hr.mono (by decide)) rfl T.ik T.cx.kp T.p8 .nil pass0 (pa_cons (pv 0) pa_nil)) (ai T.ra rfl) (nomark _)))), ?_⟩
    simp only [RD, List.replicate, List.set, Nat.reduceAdd, Nat.reduceSub]
    refine ⟨trivial, ?_⟩
    have e : Ql90.fair x.toNat = decide (fld x < 1148) := by
      unfold Ql90.fair
      rw [dexp, aj1 hx]
      exact decide_eq_decide.mpr ⟨fun h => by omega, fun h => by omega⟩
    have q : Q (V.bl (Ql90.fair x.toNat)) H := q
    rw [e] at q
    exact q
end
end GB
end

section
set_option Elab.async false
set_option maxRecDepth 100000
set_option maxHeartbeats 4000000
set_option linter.all false
set_option exponentiation.threshold 100
namespace GB
open PySem L2
section
variable {P : Program} {w : World} {K : PySem.W.Frag} {mg : Str → Option Value} {base : Heap} {t : Ad}
theorem amu : FnScope ["kind"] ["kind"] (defScope ae2) := ⟨rfl, rfl, rfl, by decide +kernel, rfl, by decide +kernel, by decide +kernel⟩
theorem am5 (T : Txt K mg t) : FnOk P w K mg base CX0 1 t.wz t.w8 ["kind"] (spb (fun _ => True) fun k => decide (0 ≤ k) && decide (k ≤ 15)) := by
  refine T.xc.ok amu (fun vs H Q E h => ?_) (fun cdv A outer s H vs Q E hr h => ?_)
  · obtain ⟨k, rfl, _⟩ := h
    rfl
  · obtain ⟨k, rfl, _, q⟩ := h
    refine ⟨_, (pss_one (ps_ret (pe_chain op_le op_le pe_int (pv 0) pe_int))), ?_⟩
    have q : Q (V.bl (decide (0 ≤ k) && decide (k ≤ 15))) H := q
    simp only [RD, List.replicate, List.set, Nat.reduceAdd, Nat.reduceSub]
    by_cases h0 : 0 ≤ k
    · rw [if_pos h0]
      rw [decide_eq_true h0, Bool.true_and] at q
      exact q
    · rw [if_neg h0]
      rw [decide_eq_false h0, Bool.false_and] at q
      exact q
def NN (k : Int) : Prop := 0 ≤ k
theorem atg {k : Int} (h : NN k) : (1 : Int) * ((2 ^ (k / 2 % 4).toNat : Nat) : Int) = (wd k.toNat : Int) := by
  unfold NN at h
  rw [Int.one_mul]
  unfold wd
  rw [show (k / 2 % 4).toNat = k.toNat / 2 % 4 by omega]
theorem ah6 : FnScope ["kind"] ["kind"] (defScope aac) := ⟨rfl, rfl, rfl, by decide +kernel, rfl, by decide +kernel, by decide +kernel⟩
theorem g8 (T : Txt K mg t) : FnOk P w K mg base CX0 1 t.o9 t.ph ["kind"] (sp1 NN fun k => (wd k.toNat : Int)) := by
  refine T.bj.ok ah6 (fun vs H Q E h => ?_) (fun cdv A outer s H vs Q E hr h => ?_)
  · obtain ⟨k, rfl, _⟩ := h
    rfl
  · obtain ⟨k, rfl, hk, q⟩ := h
    refine ⟨_, (pss_one (ps_ret (pe_op fe pe_int (pe_op op_mod (pe_op aea (pv 0) pe_int) pe_int)))), ?_⟩
    simp only [RD, List.replicate, List.set, Nat.reduceAdd, Nat.reduceSub, atg hk]
    exact ⟨⟨by decide, au (by decide) (by decide)⟩, by decide, ⟨au (by decide) (by decide), by omega, by omega⟩, q⟩
theorem akm : FnScope ["kind"] ["kind"] (defScope ac6) := ⟨rfl, rfl, rfl, by decide +kernel, rfl, by decide +kernel, by decide +kernel⟩
theorem aku (T : Txt K mg t) : FnOk P w K mg base CX0 1 t.uy t.uv ["kind"] (spb (fun _ => True) fun k => decide (k % 2 = 1)) := by
  refine T.ux.ok akm (fun vs H Q E h => ?_) (fun cdv A outer s H vs Q E hr h => ?_)
  · obtain ⟨k, rfl, _⟩ := h
    rfl
  · obtain ⟨k, rfl, _, q⟩ := h
    refine ⟨_, (pss_one (ps_ret (pe_cmpR op_eq (pe_op op_mod (pv 0) pe_int) pe_int (nomark _)))), ?_⟩
    simp only [RD, List.replicate, List.set, Nat.reduceAdd, Nat.reduceSub]
    exact ⟨by decide, q⟩
theorem afh : FnScope ["kind"] ["kind"] (defScope we) := ⟨rfl, rfl, rfl, by decide +kernel, rfl, by decide +kernel, by decide +kernel⟩
theorem z0 (T : Txt K mg t) : FnOk P w K mg base CX0 1 t.jt t.jv ["kind"] (spb (fun _ => True) fun k => decide (k / 8 = 1)) := by
  refine T.gy.ok afh (fun vs H Q E h => ?_) (fun cdv A outer s H vs Q E hr h => ?_)
  · obtain ⟨k, rfl, _⟩ := h
    rfl
  · obtain ⟨k, rfl, _, q⟩ := h
    refine ⟨_, (pss_one (ps_ret (pe_cmpR op_eq (pe_op aea (pv 0) pe_int) pe_int (nomark _)))), ?_⟩
    simp only [RD, List.replicate, List.set, Nat.reduceAdd, Nat.reduceSub]
    exact ⟨⟨by decide, au (by decide) (by decide)⟩, q⟩
theorem aji : FnScope ["kind"] ["kind"] (defScope abf) := ⟨rfl, rfl, rfl, by decide +kernel, rfl, by decide +kernel, by decide +kernel⟩
theorem ad5 (T : Txt K mg t) : FnOk P w K mg base CX0 2 t.sh t.rm ["kind"] (sp1 NN fun k => aeg k.toNat) := by
  refine T.o7.ok aji (fun vs H Q E h => ?_) (fun cdv A outer s H vs Q E hr h => ?_)
  · obtain ⟨k, rfl, _⟩ := h
    rfl
  · obtain ⟨k, rfl, hk, q⟩ := h
    refine ⟨_, (pss_cons (ps_if (pt_val (pe_call (aku T) (hr.mono (by decide)) rfl T.aap T.ux.kp T.ahe .nil pass0 (pa_cons (pv 0) pa_nil)))
        (pss_one (ps_ret (pe_un un_neg (pe_op fe pe_int (pe_op op_sub (pe_op qu pe_int (pe_call (g8 T) (hr.mono (by decide)) rfl T.de T.bj.kp T.g5 .nil pass0 (pa_cons (pv 0) pa_nil))) pe_int)))))
        pss_nil)
      (pss_one (ps_ret pe_int))), ?_⟩
    have hw := adm k.toNat
    have hw1 := amx k.toNat
    have q : Q (V.int (aeg k.toNat)) H := q
    unfold aeg at q
    have hk' : 0 ≤ k := hk
    have hc : (k % 2 = 1) = (k.toNat % 2 = 1) := propext ⟨fun h => by omega, fun h => by omega⟩
    simp only [RD, List.replicate, List.set, Nat.reduceAdd, Nat.reduceSub, wm, hc]
    refine ⟨trivial, ?_⟩
    rw [show (8 * (wd k.toNat : Int) - 1).toNat = 8 * wd k.toNat - 1 by omega]
    by_cases h1 : k.toNat % 2 = 1
    · rw [if_pos h1]
      rw [if_pos h1] at q
      exact ⟨hk, ⟨au (by decide) (by decide), au (by rw [Int.natAbs_natCast]; exact Nat.lt_of_le_of_lt hw (by decide)) (by decide)⟩, ⟨au (by decide) (by decide), by omega, by omega⟩, q⟩
    · rw [if_neg h1]
      rw [if_neg h1] at q
      exact q
theorem ah4 : FnScope ["kind"] ["kind"] (defScope aak) := ⟨rfl, rfl, rfl, by decide +kernel, rfl, by decide +kernel, by decide +kernel⟩
theorem acv (T : Txt K mg t) : FnOk P w K mg base CX0 3 t.qd t.pk ["kind"] (sp1 NN fun k => y9 k.toNat) := by
  refine T.ml.ok ah4 (fun vs H Q E h => ?_) (fun cdv A outer s H vs Q E hr h => ?_)
  · obtain ⟨k, rfl, _⟩ := h
    rfl
  · obtain ⟨k, rfl, hk, q⟩ := h
    refine ⟨_, (pss_one (ps_ret (pe_op op_sub (pe_op op_add (pe_call (ad5 T) (hr.mono (by decide)) rfl T.vq T.o7.kp T.abd .nil pass0 (pa_cons (pv 0) pa_nil)) (pe_op fe pe_int (pe_op qu pe_int (pe_call (g8 T) (hr.mono (by decide)) rfl T.de T.bj.kp T.g5 .nil pass0 (pa_cons (pv 0) pa_nil))))) pe_int))), ?_⟩
    have hw := adm k.toNat
    simp only [RD, List.replicate, List.set, Nat.reduceAdd, Nat.reduceSub, wm]
    rw [show (8 * (wd k.toNat : Int)).toNat = 8 * wd k.toNat by omega]
    exact ⟨hk, hk, ⟨au (by decide) (by decide), au (by rw [Int.natAbs_natCast]; exact Nat.lt_of_le_of_lt hw (by decide)) (by decide)⟩, ⟨au (by decide) (by decide), by omega, by omega⟩, q⟩
theorem ar8 : FnScope ["number", "kind"] ["number", "kind"] (defScope amj) := ⟨rfl, rfl, rfl, by decide +kernel, rfl, by decide +kernel, by decide +kernel⟩
theorem ajy (T : Txt K mg t) : FnOk P w K mg base CX0 4 t.ae8 t.afn ["number", "kind"] (sp2 (fun _ k => NN k) fun z k => hold z k.toNat) := by
  refine T.abx.ok ar8 (fun vs H Q E h => ?_) (fun cdv A outer s H vs Q E hr h => ?_)
  · obtain ⟨z, k, rfl, _⟩ := h
    rfl
  · obtain ⟨z, k, rfl, hk, q⟩ := h
    refine ⟨_, (pss_one (ps_ret (pe_callB (cMax rfl) (by rfl) T.aej wx (pa_cons (pe_call (ad5 T) (hr.mono (by decide)) rfl T.vq T.o7.kp T.abd .nil pass0 (pa_cons (pv 1) pa_nil)) (pa_cons (pe_callB (cMin rfl) (by rfl) T.ah2 acj (pa_cons (pv 0) (pa_cons (pe_call (acv T) (hr.mono (by decide)) rfl T.sq T.ml.kp T.z6 .nil pass0 (pa_cons (pv 1) pa_nil)) pa_nil))) pa_nil))))), ?_⟩
    simp only [RD, List.replicate, List.set, Nat.reduceAdd, Nat.reduceSub]
    exact ⟨hk, hk, q⟩
def aum (K : PySem.W.Frag) : Sp := fun vs H Q _ => ∃ (a : Addr) (fr : List Int) (p k : Nat), vs = [.ref a, .int p, .int k] ∧ SqL K H a (fr.map V.int) ∧ (∀ x ∈ fr, o8 x) ∧ p + wd k ≤ fr.length ∧
  ∀ H', Same H H' → Q (.int (afr ((fr.drop p).take (wd k)) k)) H'
theorem getElem?_ints {ns : List Int} {i : Nat} {y : V} (h : (ns.map V.int)[i]? = some y) : ∃ z, ns[i]? = some z ∧ y = .int z := by
  rw [List.getElem?_map] at h
  cases e : ns[i]? with
  | none => rw [e] at h; cases h
  | some z => rw [e] at h; exact ⟨z, rfl, (Option.some.inj h).symm⟩
theorem amv {ns : List Int} {i : Nat} {z : Int} (h : ns[i]? = some z) : or (ns.take (i + 1)) = or (ns.take i) * 256 + z := by
  have : ns.take (i + 1) = ns.take i ++ [z] := by
    rw [List.take_add_one, h]
    rfl
  rw [this, aah]
theorem aq1 {ns : List Int} (hb : ∀ x ∈ ns, o8 x) (hl : ns.length ≤ 8) : Sm 9000 (or ns) := by
  have := zy ns.reverse fun x hx => hb x (List.mem_reverse.mp hx)
  rw [List.reverse_reverse, List.length_reverse] at this
  have h2 : 256 ^ ns.length ≤ 256 ^ 8 := Nat.pow_le_pow_right (by decide) hl
  unfold Sm
  refine Nat.lt_of_lt_of_le (m := 2 ^ 64) ?_ (Nat.pow_le_pow_right (by decide) (by decide))
  omega
theorem ah1 {x0 x1 x2 x5 : Option V} {l : Addr} {part : List Int} {D : Ends} {H : Hp} (hS : SqL K H l (part.map V.int)) (hb : ∀ x ∈ part, o8 x) (hl : part.length ≤ 8)
    (h : ∀ v, D.nx [x0, x1, x2, some (.ref l), some (.int (or part)), v] H) :
    tFor (iList K (tVar 3)) (gName 5) (tAsg (tOp (rI0 fun i j => V.int (i + j)) (tOp (rI (fun i j => Sm 9000 i ∧ Sm 9000 j) fun i j => V.int (i * j)) (tVar 4) (tC (V.int 256))) (tVar 5)) (gName 4)) D
      [x0, x1, x2, some (.ref l), some (.int 0), x5] H := by
  refine forL rfl hS (fun i σ H' => H' = H ∧ ∃ v, σ = [x0, x1, x2, some (.ref l), some (.int (or (part.take i))), v]) ⟨rfl, x5, rfl⟩ (fun i σ H' _ h' => by rw [h'.1]; exact hS) (fun i x σ H' hx h' => ?_) (fun σ H' h' => ?_)
  · obtain ⟨rfl, v, rfl⟩ := h'
    obtain ⟨z, hz, rfl⟩ := getElem?_ints hx
    simp only [RD, List.replicate, List.set, Nat.reduceAdd, Nat.reduceSub]
    refine ⟨⟨aq1 (fun y hy => hb y (List.mem_of_mem_take hy)) (Nat.le_trans (by rw [List.length_take]; omega) hl), au (by decide) (by decide)⟩, trivial, ?_⟩
    exact ⟨_, by rw [amv hz]⟩
  · obtain ⟨rfl, v, rfl⟩ := h'
    have e : part.take (part.map V.int).length = part := by rw [List.length_map]; exact List.take_length
    rw [e]
    exact h v
theorem mj : FnScope ["frame", "place", "kind", "part", "number", "byte"] ["frame", "place", "kind"] (defScope abc) := ⟨rfl, rfl, rfl, by decide +kernel, rfl, by decide +kernel, by decide +kernel⟩
theorem ajv (T : Txt K mg t) : FnOk P w K mg base CX0 4 t.si t.sf ["frame", "place", "kind"] (aum K) := by
  refine T.rn.ok mj (fun vs H Q E h => ?_) (fun cdv A outer s H vs Q E hr h => ?_)
  · obtain ⟨a, fr, p, k, rfl, _⟩ := h
    rfl
  · obtain ⟨a, fr, p, k, rfl, hS, hb, hp, q⟩ := h
    refine ⟨_, (pss_cons (ps_set (i := 3) mj.nd rfl (Or.inl rfl) (pe_slice sl_list (pv 0) (po_some (pv 1)) (po_some (pe_op op_add (pv 1) (pe_call (g8 T) (hr.mono (by decide)) rfl T.de T.bj.kp T.g5 .nil pass0 (pa_cons (pv 2) pa_nil))))))
      (pss_cons (ps_if (pt_not (pt_val (pe_call (z0 T) (hr.mono (by decide)) rfl T.m5 T.gy.kp T.wa .nil pass0 (pa_cons (pv 2) pa_nil))))
        (pss_one (ps_set (i := 3) mj.nd rfl (Or.inl rfl) (ag4 rfl rfl T.aes T.xw (pa_cons (pv 3) pa_nil))))
        pss_nil)
      (pss_cons (ps_set (i := 4) mj.nd rfl (Or.inl rfl) pe_int)
      (pss_cons (ps_for PassesOwn.never rfl (pi_list (pv 3)) (pg_name (i := 5) mj.nd rfl (Or.inl rfl))
        (pss_one (ps_set (i := 4) mj.nd rfl (Or.inl rfl) (pe_op op_add (pe_op qu (pv 4) pe_int) (pv 5)))))
      (pss_cons (ps_if (pt_cmpR op_gt (pv 4) (pe_call (acv T) (hr.mono (by decide)) rfl T.sq T.ml.kp T.z6 .nil pass0 (pa_cons (pv 2) pa_nil)) (nomark _))
        (pss_one (ps_aug (i := 4) mj.nd rfl (Or.inl rfl) (pe_op fe pe_int (pe_op qu pe_int (pe_call (g8 T) (hr.mono (by decide)) rfl T.de T.bj.kp T.g5 .nil pass0 (pa_cons (pv 2) pa_nil)))) aty))
        pss_nil)
      (pss_one (ps_ret (pv 4)))))))), ?_⟩
    simp only [RD, List.replicate, List.set, Nat.reduceAdd, Nat.reduceSub, Int.toNat_natCast]
    have hw := adm k
    have hnn : NN (k : Int) := Int.natCast_nonneg k
    have hc8 : ((k : Int) / 8 = 1) = (k / 8 = 1) := propext ⟨fun h => by omega, fun h => by omega⟩
    refine ⟨hnn, slL hS fun l hl => ⟨trivial, ?_⟩⟩
    rw [← Int.natCast_add, ak8 fr (Nat.le_add_right _ _) hp, Nat.add_sub_cancel_left]
    have hpart : ∀ x ∈ (fr.drop p).take (wd k), o8 x := fun x hx => hb x (List.mem_of_mem_drop (List.mem_of_mem_take hx))
    have hplen : ((fr.drop p).take (wd k)).length = wd k := by rw [List.length_take, List.length_drop]; omega
    generalize (fr.drop p).take (wd k) = part at *
    have tail : ∀ (n : Int) (H' : Hp), Same H H' → n = or (if k / 8 = 1 then part else part.reverse) →
        NN (k : Int) ∧ if y9 k < n then ((NN (k : Int) ∧ (Sm 9000 8 ∧ Sm 9000 (wd k : Int)) ∧ (Sm 9000 1 ∧ 0 ≤ 8 * (wd k : Int) ∧ 8 * (wd k : Int) ≤ 9000) ∧ Q (V.int (n - 1 * ((2 ^ (8 * (wd k : Int)).toNat : Nat) : Int))) H')) else Q (V.int n) H' := fun n H' hH hn => by
      have q := q H' hH
      unfold afr at q
      rw [← hn] at q
      refine ⟨hnn, ?_⟩
      by_cases hhi : y9 k < n
      · rw [if_pos hhi]
        rw [if_pos hhi] at q
        refine ⟨hnn, ⟨au (by decide) (by decide), au (by rw [Int.natAbs_natCast]; exact Nat.lt_of_le_of_lt hw (by decide)) (by decide)⟩, ⟨au (by decide) (by decide), by omega, by omega⟩, ?_⟩
        rw [Int.one_mul, show (8 * (wd k : Int)).toNat = 8 * wd k by omega]
        exact q
      · rw [if_neg hhi]
        rw [if_neg hhi] at q
        exact q
    simp only [hc8]
    by_cases h8 : k / 8 = 1
    · rw [if_neg (fun h => h h8)]
      refine ah1 (SqL.of upd_same) hpart (by omega) fun v => ?_
      simp only [RD, List.replicate, List.set, Nat.reduceAdd, Nat.reduceSub, Int.toNat_natCast]
      exact tail (or part) _ (Same.new hl) (by rw [if_pos h8])
    · rw [if_pos h8]
      refine ⟨l, _, rfl, SqL.of upd_same, fun l2 hl2 => ?_⟩
      rw [← List.map_reverse]
      refine ah1 (SqL.of upd_same) (fun x hx => hpart x (List.mem_reverse.mp hx)) (by rw [List.length_reverse]; omega) fun v => ?_
      simp only [RD, List.replicate, List.set, Nat.reduceAdd, Nat.reduceSub, Int.toNat_natCast]
      exact tail (or part.reverse) _ ((Same.new hl).trans (Same.new hl2)) (by rw [if_neg h8])
def anu : Sp := fun vs H Q _ => ∃ (z : Int) (k : Nat), vs = [.int z, .int k] ∧ ∀ l H', Same H H' → H l = none → H' l = some (.lst ((qv z k).map V.int)) → Q (.ref l) H'
theorem abb : FnScope ["number", "kind", "lowest_byte_first", "i"] ["number", "kind"] (defScope aar) := ⟨rfl, rfl, rfl, by decide +kernel, rfl, by decide +kernel, by decide +kernel⟩
theorem akt (T : Txt K mg t) : FnOk P w K mg base CX0 2 t.vi t.uu ["number", "kind"] anu := by
  refine T.ve.ok abb (fun vs H Q E h => ?_) (fun cdv A outer s H vs Q E hr h => ?_)
  · obtain ⟨z, k, rfl, _⟩ := h
    rfl
  · obtain ⟨z, k, rfl, q⟩ := h
    refine ⟨_, (pss_cons (ps_setLc (i := 2) rfl abb.nd rfl rfl rfl (pi_range1 rfl T.yn (pa_cons (pe_call (g8 T) (hr.mono (by decide)) rfl T.de T.bj.kp T.g5 .nil pass0 (pa_cons (pv 1) pa_nil)) pa_nil)) (blkG (own := [("i", 3)]) (N := ["number", "kind", "lowest_byte_first", "i"]) (sc := defScope aar) rfl rfl rfl (by decide +kernel) (by decide +kernel) (by decide +kernel) (by decide +kernel)) (fun _ _ _ _ _ => pg_name (i := 3) abb.nd rfl (Or.inl rfl)) (fun _ _ _ _ _ => pts_nil) (fun _ _ _ _ _ => (pe_op op_mod (pe_op adw (pv 0) (pe_op qu pe_int (pv 3))) pe_int)))
      (pss_cons (ps_if (pt_val (pe_call (z0 T) (hr.mono (by decide)) rfl T.m5 T.gy.kp T.wa .nil pass0 (pa_cons (pv 1) pa_nil)))
        (pss_one (ps_ret (ag4 rfl rfl T.aes T.xw (pa_cons (pv 2) pa_nil))))
        pss_nil)
      (pss_one (ps_ret (pv 2))))), ?_⟩
    simp only [RD, List.replicate, List.set, Nat.reduceAdd, Nat.reduceSub, Int.toNat_natCast]
    have hw := adm k
    have hnn : NN (k : Int) := Int.natCast_nonneg k
    have hc8 : ((k : Int) / 8 = 1) = (k / 8 = 1) := propext ⟨fun h => by omega, fun h => by omega⟩
    simp only [hc8]
    refine arl (n := wd k) (by rw [sizeLine_eq]; omega) (fun i => some (.int (z / ((2 ^ (8 * i) : Nat) : Int) % 256))) (fun R r => ?_) (fun j hj H' G R r => ⟨rfl, ?_⟩) (fun l hl => ⟨trivial, ?_⟩)
    · simp only [RD, List.replicate, List.set, Nat.reduceAdd, Nat.reduceSub, Int.toNat_natCast]
      exact ⟨hnn, r⟩
    · simp only [RD, List.replicate, List.set, Nat.reduceAdd, Nat.reduceSub, wipe, tYes]
      rw [show (8 * (j : Int)).toNat = 8 * j by omega]
      exact ⟨⟨au (by decide) (by decide), au (by rw [Int.natAbs_natCast]; omega) (by decide)⟩, by omega, by decide, r⟩
    · have e : (List.range (wd k)).filterMap (fun i => some (V.int (z / ((2 ^ (8 * i) : Nat) : Int) % 256))) = (yb z (wd k)).map V.int := by
        unfold yb
        rw [List.map_map]
        exact congrFun (List.filterMap_eq_map (f := V.int ∘ fun i => z / ((2 ^ (8 * i) : Nat) : Int) % 256)) _
      rw [e]
      by_cases h8 : k / 8 = 1
      · rw [if_pos h8]
        refine ⟨l, _, rfl, SqL.of upd_same, fun l2 hl2 => q l2 _ ((Same.new hl).trans (Same.new hl2)) ((Same.new hl).free hl2) ?_⟩
        rw [upd_same]
        unfold qv
        rw [if_pos h8, List.map_reverse]
      · rw [if_neg h8]
        refine q l _ (Same.new hl) hl ?_
        rw [upd_same]
        unfold qv
        rw [if_neg h8]
def Lims (K : PySem.W.Frag) (H : Hp) (a : Addr) (l0 l1 l2 l3 : Int) : Prop := SqL K H a [.int l0, .int l1, .int l2, .int l3]
def atx (K : PySem.W.Frag) : Sp := fun vs H Q _ => ∃ (y : Int) (a : Addr) (l0 l1 l2 l3 : Int), vs = [.int y, .ref a] ∧ Lims K H a l0 l1 l2 l3 ∧ Q (.int (su y l0 l1 l2 l3 : Nat)) H
theorem ar2 : FnScope ["value", "limits"] ["value", "limits"] (defScope amb) := ⟨rfl, rfl, rfl, by decide +kernel, rfl, by decide +kernel, by decide +kernel⟩
theorem ajo (T : Txt K mg t) : FnOk P w K mg base CX0 1 t.afc t.ae4 ["value", "limits"] (atx K) := by
  refine T.abl.ok ar2 (fun vs H Q E h => ?_) (fun cdv A outer s H vs Q E hr h => ?_)
  · obtain ⟨y, a, l0, l1, l2, l3, rfl, _⟩ := h
    rfl
  · obtain ⟨y, a, l0, l1, l2, l3, rfl, hS, q⟩ := h
    refine ⟨_, (pss_cons (ps_if (pt_cmpR op_lt (pv 0) (pe_ix ix_list (pv 1) pe_int (fun _ _ => rfl)) (nomark _))
        (pss_one (ps_ret pe_int))
        pss_nil)
      (pss_cons (ps_if (pt_cmpR op_lt (pv 0) (pe_ix ix_list (pv 1) pe_int (fun _ _ => rfl)) (nomark _))
        (pss_one (ps_ret pe_int))
        pss_nil)
      (pss_cons (ps_if (pt_cmpR op_gt (pv 0) (pe_ix ix_list (pv 1) pe_int (fun _ _ => rfl)) (nomark _))
        (pss_one (ps_ret pe_int))
        pss_nil)
      (pss_cons (ps_if (pt_cmpR op_gt (pv 0) (pe_ix ix_list (pv 1) pe_int (fun _ _ => rfl)) (nomark _))
        (pss_one (ps_ret pe_int))
        pss_nil)
      (pss_one (ps_ret pe_int)))))), ?_⟩
    unfold su at q
    simp only [RD, List.replicate, List.set, Nat.reduceAdd, Nat.reduceSub]
    refine ixL hS rfl ?_
    simp only [RD, List.replicate, List.set, Nat.reduceAdd, Nat.reduceSub]
    by_cases h0 : y < l0
    · rw [if_pos h0]
      rw [if_pos h0] at q
      exact q
    rw [if_neg h0]
    rw [if_neg h0] at q
    refine ixL hS rfl ?_
    simp only [RD, List.replicate, List.set, Nat.reduceAdd, Nat.reduceSub]
    by_cases h1 : y < l1
    · rw [if_pos h1]
      rw [if_pos h1] at q
      exact q
    rw [if_neg h1]
    rw [if_neg h1] at q
    refine ixL hS rfl ?_
    simp only [RD, List.replicate, List.set, Nat.reduceAdd, Nat.reduceSub]
    by_cases h3 : l3 < y
    · rw [if_pos h3]
      rw [if_pos h3] at q
      exact q
    rw [if_neg h3]
    rw [if_neg h3] at q
    refine ixL hS rfl ?_
    simp only [RD, List.replicate, List.set, Nat.reduceAdd, Nat.reduceSub]
    by_cases h2 : l2 < y
    · rw [if_pos h2]
      rw [if_pos h2] at q
      exact q
    rw [if_neg h2]
    rw [if_neg h2] at q
    exact q
def ap0 (K : PySem.W.Frag) (f : Int → Int → Int → Int → Int → Int × Int × Int × Int) : Sp := fun vs H Q _ => ∃ (a : Addr) (h l0 l1 l2 l3 : Int), vs = [.ref a, .int h] ∧ Lims K H a l0 l1 l2 l3 ∧ Sm 1500 h ∧ Sm 1500 l0 ∧ Sm 1500 l1 ∧ Sm 1500 l2 ∧ Sm 1500 l3 ∧
  ∀ l, H l = none → Q (.ref l) (upd H l (.lst [.int (f h l0 l1 l2 l3).1, .int (f h l0 l1 l2 l3).2.1, .int (f h l0 l1 l2 l3).2.2.1, .int (f h l0 l1 l2 l3).2.2.2]))
theorem abv {a b : Int} {k : Nat} (ha : Sm k a) (hb : Sm k b) : Sm (k + 1) (a - b) := by
  unfold Sm at *
  rw [Nat.pow_succ]
  omega
theorem agf : FnScope ["limits", "slack"] ["limits", "slack"] (defScope xo) := ⟨rfl, rfl, rfl, by decide +kernel, rfl, by decide +kernel, by decide +kernel⟩
theorem af5 (T : Txt K mg t) : FnOk P w K mg base CX0 4 t.lm t.lu ["limits", "slack"] (ap0 K fun h l0 l1 l2 l3 => (nd (l0 + h) 1 53, nd (l1 + h) 1 53, l2, l3)) := by
  refine T.kx.ok agf (fun vs H Q E h => ?_) (fun cdv A outer s H vs Q E hr h => ?_)
  · obtain ⟨a, h, l0, l1, l2, l3, rfl, _⟩ := h
    rfl
  · obtain ⟨a, h, l0, l1, l2, l3, rfl, hS, hh, h0, h1, h2, h3, q⟩ := h
    refine ⟨_, (pss_one (ps_ret (pe_lst (pa_cons (pe_call (ar T) (hr.mono (by decide)) rfl T.ao T.al.kp T.aw .nil pass0 (pa_cons (pe_op op_add (pe_ix ix_list (pv 0) pe_int (fun _ _ => rfl)) (pv 1)) (pa_cons pe_int pa_nil))) (pa_cons (pe_call (ar T) (hr.mono (by decide)) rfl T.ao T.al.kp T.aw .nil pass0 (pa_cons (pe_op op_add (pe_ix ix_list (pv 0) pe_int (fun _ _ => rfl)) (pv 1)) (pa_cons pe_int pa_nil))) (pa_cons (pe_ix ix_list (pv 0) pe_int (fun _ _ => rfl)) (pa_cons (pe_ix ix_list (pv 0) pe_int (fun _ _ => rfl)) pa_nil))))))), ?_⟩
    simp only [RD, List.replicate, List.set, Nat.reduceAdd, Nat.reduceSub]
    refine ixL hS rfl ?_
    simp only [RD, List.replicate, List.set, Nat.reduceAdd, Nat.reduceSub]
    refine ⟨⟨(afk h0 hh).mono (by decide), by decide, au (by decide) (by decide)⟩, ixL hS rfl ?_⟩
    simp only [RD, List.replicate, List.set, Nat.reduceAdd, Nat.reduceSub]
    refine ⟨⟨(afk h1 hh).mono (by decide), by decide, au (by decide) (by decide)⟩, ixL hS rfl (ixL hS rfl ⟨by decide, fun l hl => q l hl⟩)⟩
theorem afe : FnScope ["limits", "slack"] ["limits", "slack"] (defScope wf) := ⟨rfl, rfl, rfl, by decide +kernel, rfl, by decide +kernel, by decide +kernel⟩
theorem afl (T : Txt K mg t) : FnOk P w K mg base CX0 4 t.jk t.jo ["limits", "slack"] (ap0 K fun h l0 l1 l2 l3 => (l0, l1, nd (l2 - h) 1 53, nd (l3 - h) 1 53)) := by
  refine T.jm.ok afe (fun vs H Q E h => ?_) (fun cdv A outer s H vs Q E hr h => ?_)
  · obtain ⟨a, h, l0, l1, l2, l3, rfl, _⟩ := h
    rfl
  · obtain ⟨a, h, l0, l1, l2, l3, rfl, hS, hh, h0, h1, h2, h3, q⟩ := h
    refine ⟨_, (pss_one (ps_ret (pe_lst (pa_cons (pe_ix ix_list (pv 0) pe_int (fun _ _ => rfl)) (pa_cons (pe_ix ix_list (pv 0) pe_int (fun _ _ => rfl)) (pa_cons (pe_call (ar T) (hr.mono (by decide)) rfl T.ao T.al.kp T.aw .nil pass0 (pa_cons (pe_op op_sub (pe_ix ix_list (pv 0) pe_int (fun _ _ => rfl)) (pv 1)) (pa_cons pe_int pa_nil))) (pa_cons (pe_call (ar T) (hr.mono (by decide)) rfl T.ao T.al.kp T.aw .nil pass0 (pa_cons (pe_op op_sub (pe_ix ix_list (pv 0) pe_int (fun _ _ => rfl)) (pv 1)) (pa_cons pe_int pa_nil))) pa_nil))))))), ?_⟩
    simp only [RD, List.replicate, List.set, Nat.reduceAdd, Nat.reduceSub]
    refine ixL hS rfl (ixL hS rfl (ixL hS rfl ?_))
    simp only [RD, List.replicate, List.set, Nat.reduceAdd, Nat.reduceSub]
    refine ⟨⟨(abv h2 hh).mono (by decide), by decide, au (by decide) (by decide)⟩, ixL hS rfl ?_⟩
    simp only [RD, List.replicate, List.set, Nat.reduceAdd, Nat.reduceSub]
    exact ⟨⟨(abv h3 hh).mono (by decide), by decide, au (by decide) (by decide)⟩, by decide, fun l hl => q l hl⟩
def ar6 (K : PySem.W.Frag) : Sp := fun vs H Q _ => ∃ (s : Nat) (y : Int) (a : Addr) (h l0 l1 l2 l3 : Int), vs = [.int s, .int y, .ref a, .int h] ∧ Lims K H a l0 l1 l2 l3 ∧ Sm 1500 h ∧ Sm 1500 l0 ∧ Sm 1500 l1 ∧ Sm 1500 l2 ∧ Sm 1500 l3 ∧
  ∀ H', Same H H' → Q (.int (afs s y l0 l1 l2 l3 h : Nat)) H'
theorem abi : FnScope ["state", "value", "limits", "slack", "plain"] ["state", "value", "limits", "slack"] (defScope y6) := ⟨rfl, rfl, rfl, by decide +kernel, rfl, by decide +kernel, by decide +kernel⟩
theorem ag6 (T : Txt K mg t) : FnOk P w K mg base CX0 5 t.nj t.nh ["state", "value", "limits", "slack"] (ar6 K) := by
  refine T.m9.ok abi (fun vs H Q E h => ?_) (fun cdv A outer s H vs Q E hr h => ?_)
  · obtain ⟨s, y, a, h, l0, l1, l2, l3, rfl, _⟩ := h
    rfl
  · obtain ⟨s', y, a, h, l0, l1, l2, l3, rfl, hS, hh, h0, h1, h2, h3, q⟩ := h
    refine ⟨_, (pss_cons (ps_set (i := 4) abi.nd rfl (Or.inl rfl) (pe_call (ajo T) (hr.mono (by decide)) rfl T.ae9 T.abl.kp T.aj5 .nil pass0 (pa_cons (pv 1) (pa_cons (pv 2) pa_nil))))
      (pss_cons (ps_if (pt_cmpR op_eq (pv 0) (ai T.ae7 rfl) (nomark _))
        (pss_one (ps_ret (pv 4)))
        pss_nil)
      (pss_cons (ps_if (pt_cmpR op_lt (pv 0) (ai T.ae7 rfl) (nomark _))
        (pss_cons (ps_if (pt_cmpR op_lt (pv 4) (pv 0) (nomark _))
        (pss_one (ps_ret (pv 4)))
        pss_nil)
      (pss_one (ps_ret (pe_callB (cMax rfl) (by rfl) T.aej wx (pa_cons (pv 0) (pa_cons (pe_call (ajo T) (hr.mono (by decide)) rfl T.ae9 T.abl.kp T.aj5 .nil pass0 (pa_cons (pv 1) (pa_cons (pe_call (af5 T) (hr.mono (by decide)) rfl T.tj T.kx.kp T.abj .nil pass0 (pa_cons (pv 2) (pa_cons (pv 3) pa_nil))) pa_nil))) pa_nil))))))
        pss_nil)
      (pss_cons (ps_if (pt_cmpR op_gt (pv 4) (pv 0) (nomark _))
        (pss_one (ps_ret (pv 4)))
        pss_nil)
      (pss_one (ps_ret (pe_callB (cMin rfl) (by rfl) T.ah2 acj (pa_cons (pv 0) (pa_cons (pe_call (ajo T) (hr.mono (by decide)) rfl T.ae9 T.abl.kp T.aj5 .nil pass0 (pa_cons (pv 1) (pa_cons (pe_call (afl T) (hr.mono (by decide)) rfl T.rc T.jm.kp T.aay .nil pass0 (pa_cons (pv 2) (pa_cons (pv 3) pa_nil))) pa_nil))) pa_nil))))))))), ?_⟩
    unfold afs at q
    simp only [RD, List.replicate, List.set, Nat.reduceAdd, Nat.reduceSub]
    refine ⟨y, a, l0, l1, l2, l3, rfl, hS, ?_⟩
    simp only [RD, List.replicate, List.set, Nat.reduceAdd, Nat.reduceSub]
    have c2 : ((s' : Int) = 2) = (s' = 2) := propext ⟨fun h => by omega, fun h => by omega⟩
    have c3 : ((s' : Int) < 2) = (s' < 2) := propext ⟨fun h => by omega, fun h => by omega⟩
    have c4 : (((su y l0 l1 l2 l3 : Nat) : Int) < (s' : Int)) = (su y l0 l1 l2 l3 < s') := propext ⟨fun h => by omega, fun h => by omega⟩
    have c5 : ((s' : Int) < ((su y l0 l1 l2 l3 : Nat) : Int)) = (s' < su y l0 l1 l2 l3) := propext ⟨fun h => by omega, fun h => by omega⟩
    simp only [c2, c3, c4, c5]
    by_cases e2 : s' = 2
    · simp only [if_pos e2] at q ⊢
      exact q H (Same.refl H)
    simp only [if_neg e2] at q ⊢
    by_cases e3 : s' < 2
    · simp only [if_pos e3] at q ⊢
      by_cases e4 : su y l0 l1 l2 l3 < s'
      · simp only [if_pos e4] at q ⊢
        exact q H (Same.refl H)
      · simp only [if_neg e4] at q ⊢
        refine ⟨a, h, l0, l1, l2, l3, rfl, hS, hh, h0, h1, h2, h3, fun l hl => ⟨y, l, _, _, _, _, rfl, SqL.of upd_same, ?_⟩⟩
        dsimp only
        rw [ago, show ∀ a b : Nat, max (a : Int) (b : Int) = ((max a b : Nat) : Int) by intro a b; omega]
        exact q _ (Same.new hl)
    · simp only [if_neg e3] at q ⊢
      by_cases e4 : s' < su y l0 l1 l2 l3
      · simp only [if_pos e4] at q ⊢
        exact q H (Same.refl H)
      · simp only [if_neg e4] at q ⊢
        refine ⟨a, h, l0, l1, l2, l3, rfl, hS, hh, h0, h1, h2, h3, fun l hl => ⟨y, l, _, _, _, _, rfl, SqL.of upd_same, ?_⟩⟩
        dsimp only
        rw [agn, show ∀ a b : Nat, min (a : Int) (b : Int) = ((min a b : Nat) : Int) by intro a b; omega]
        exact q _ (Same.new hl)
end
end GB
end

section
set_option Elab.async false
set_option maxRecDepth 100000
set_option maxHeartbeats 4000000
set_option linter.all false
set_option exponentiation.threshold 100
namespace GB
open PySem L2
structure MR where
  has : Bool
  last : Int
  val : Int
  smo : Int
  lea : Int
  gre : Int
  state : Nat
def MR0 : MR := ⟨false, 0, 0, 0, 0, 0, 2⟩
def gfs (g : Ql90.Gauge) (lim tr : Addr) (m : MR) : List (Str × V) := [("kind", .int (g.kind : Int)), ("place", .int (g.place : Int)), ("scale", .int (st g.a)), ("offset", .int (st g.b)), ("weight", .int (st g.w)), ("limits", .ref lim), ("slack", .int (st g.h)), ("dial_start", .int (st g.lo)), ("dial_scale", .int (st g.k)), ("has_reading", .bl m.has), ("last_number", .int m.last), ("value", .int m.val), ("smoothed", .int m.smo), ("least", .int m.lea), ("greatest", .int m.gre), ("trace", .ref tr), ("state", .int (m.state : Int))]
def gfs9 (g : Ql90.Gauge) (lim : Addr) : List (Str × V) := [("kind", .int (g.kind : Int)), ("place", .int (g.place : Int)), ("scale", .int (st g.a)), ("offset", .int (st g.b)), ("weight", .int (st g.w)), ("limits", .ref lim), ("slack", .int (st g.h)), ("dial_start", .int (st g.lo)), ("dial_scale", .int (st g.k))]
section
variable {g : Ql90.Gauge} {lim tr : Addr} {m : MR}
theorem ads : (gfs g lim tr m).lookup ("kind" : Str) = some (V.int (g.kind : Int)) := rfl
theorem ahj : (gfs g lim tr m).lookup ("place" : Str) = some (V.int (g.place : Int)) := rfl
theorem ahl : (gfs g lim tr m).lookup ("scale" : Str) = some (V.int (st g.a)) := rfl
theorem ai3 : (gfs g lim tr m).lookup ("offset" : Str) = some (V.int (st g.b)) := rfl
theorem ao8 : (gfs g lim tr m).lookup ("weight" : Str) = some (V.int (st g.w)) := rfl
theorem aoc : (gfs g lim tr m).lookup ("limits" : Str) = some (V.ref lim) := rfl
theorem ard : (gfs g lim tr m).lookup ("slack" : Str) = some (V.int (st g.h)) := rfl
theorem aii : (gfs g lim tr m).lookup ("dial_start" : Str) = some (V.int (st g.lo)) := rfl
theorem aim : (gfs g lim tr m).lookup ("dial_scale" : Str) = some (V.int (st g.k)) := rfl
theorem xz : (gfs g lim tr m).lookup ("has_reading" : Str) = some (V.bl m.has) := rfl
theorem ahz : (gfs g lim tr m).lookup ("last_number" : Str) = some (V.int m.last) := rfl
theorem agy : (gfs g lim tr m).lookup ("value" : Str) = some (V.int m.val) := rfl
theorem af3 : (gfs g lim tr m).lookup ("smoothed" : Str) = some (V.int m.smo) := rfl
theorem alq : (gfs g lim tr m).lookup ("least" : Str) = some (V.int m.lea) := rfl
theorem afz : (gfs g lim tr m).lookup ("greatest" : Str) = some (V.int m.gre) := rfl
theorem agv : (gfs g lim tr m).lookup ("trace" : Str) = some (V.ref tr) := rfl
theorem abq : (gfs g lim tr m).lookup ("state" : Str) = some (V.int (m.state : Int)) := rfl
theorem ahq {z : Bool} : putF "has_reading" (.bl z) (gfs g lim tr m) = gfs g lim tr { m with has := z } := rfl
theorem ah0 {z : Int} : putF "last_number" (.int z) (gfs g lim tr m) = gfs g lim tr { m with last := z } := rfl
theorem aqp {z : Int} : putF "value" (.int z) (gfs g lim tr m) = gfs g lim tr { m with val := z } := rfl
theorem aft {z : Int} : putF "smoothed" (.int z) (gfs g lim tr m) = gfs g lim tr { m with smo := z } := rfl
theorem ak0 {z : Int} : putF "least" (.int z) (gfs g lim tr m) = gfs g lim tr { m with lea := z } := rfl
theorem af1 {z : Int} : putF "greatest" (.int z) (gfs g lim tr m) = gfs g lim tr { m with gre := z } := rfl
theorem ap1 {z : Nat} : putF "state" (.int (z : Int)) (gfs g lim tr m) = gfs g lim tr { m with state := z } := rfl
theorem ao4 : (gfs g lim tr m).lookup ("forget" : Str) = none := rfl
theorem ajm : (gfs g lim tr m).lookup ("end_place" : Str) = none := rfl
theorem af9 : (gfs g lim tr m).lookup ("take_reading" : Str) = none := rfl
theorem apa : (gfs g lim tr m).lookup ("smooth" : Str) = none := rfl
theorem af6 : (gfs g lim tr m).lookup ("add_to_trace" : Str) = none := rfl
theorem ar1 : (gfs g lim tr m).lookup ("dial" : Str) = none := rfl
theorem aig : (gfs g lim tr m).lookup ("number_for" : Str) = none := rfl
theorem amf : (gfs9 g lim).lookup ("forget" : Str) = none := rfl
end
end GB
end

section
set_option Elab.async false
set_option maxRecDepth 100000
set_option maxHeartbeats 4000000
set_option linter.all false
set_option exponentiation.threshold 100
namespace GB
open PySem L2
section
variable {P : Program} {w : World} {K : PySem.W.Frag} {mg : Str → Option Value} {base : Heap} {t : Ad}
theorem aa5 : FnScope ["single"] ["single"] (defScope oo) := ⟨rfl, rfl, rfl, by decide +kernel, rfl, by decide +kernel, by decide +kernel⟩
theorem aa4 (T : Txt K mg t) : FnOk P w K mg base CX0 1 t.cn t.cw ["single"] (sp1 (Sm 4000) fun a => a * (S25 : Int)) := by
  refine T.cc.ok aa5 (fun vs H Q E h => ?_) (fun cdv A outer s H vs Q E hr h => ?_)
  · obtain ⟨a, rfl, _⟩ := h
    rfl
  · obtain ⟨a, rfl, ha, q⟩ := h
    refine ⟨_, (pss_one (ps_ret (pe_op fe (pv 0) (pe_op op_sub (ai T.wc rfl) (ai T.ql rfl))))), ?_⟩
    simp only [RD, List.replicate, List.set, Nat.reduceAdd, Nat.reduceSub]
    exact ⟨⟨ha.mono (by decide), by decide, by decide⟩, q⟩
def auk (K : PySem.W.Frag) : Sp := fun vs H Q _ => ∃ (a : Addr) (l0 l1 l2 l3 : Int), vs = [.ref a] ∧ Lims K H a l0 l1 l2 l3 ∧ Q (.bl (decide (l0 ≤ l1) && (decide (l1 ≤ l2) && decide (l2 ≤ l3)))) H
theorem adi : FnScope ["limits"] ["limits"] (defScope sx) := ⟨rfl, rfl, rfl, by decide +kernel, rfl, by decide +kernel, by decide +kernel⟩
theorem adf (T : Txt K mg t) : FnOk P w K mg base CX0 1 t.gh t.fo ["limits"] (auk K) := by
  refine T.fm.ok adi (fun vs H Q E h => ?_) (fun cdv A outer s H vs Q E hr h => ?_)
  · obtain ⟨a, l0, l1, l2, l3, rfl, _⟩ := h
    rfl
  · obtain ⟨a, l0, l1, l2, l3, rfl, hS, q⟩ := h
    refine ⟨_, (pss_one (ps_ret (ao9 op_le op_le op_le (pe_ix ix_list (pv 0) pe_int (fun _ _ => rfl)) (pe_ix ix_list (pv 0) pe_int (fun _ _ => rfl)) (pe_ix ix_list (pv 0) pe_int (fun _ _ => rfl)) (pe_ix ix_list (pv 0) pe_int (fun _ _ => rfl))))), ?_⟩
    simp only [RD, List.replicate, List.set, Nat.reduceAdd, Nat.reduceSub, ana]
    refine ixL hS rfl (ixL hS rfl ?_)
    simp only [RD, List.replicate, List.set, Nat.reduceAdd, Nat.reduceSub]
    by_cases h0 : l0 ≤ l1
    · rw [if_pos h0]
      rw [decide_eq_true h0, Bool.true_and] at q
      refine ixL hS rfl ?_
      simp only [RD, List.replicate, List.set, Nat.reduceAdd, Nat.reduceSub]
      by_cases h1 : l1 ≤ l2
      · rw [if_pos h1]
        rw [decide_eq_true h1, Bool.true_and] at q
        refine ixL hS rfl ?_
        simp only [RD, List.replicate, List.set, Nat.reduceAdd, Nat.reduceSub]
        exact q
      · rw [if_neg h1]
        rw [decide_eq_false h1, Bool.false_and] at q
        exact q
    · rw [if_neg h0]
      rw [decide_eq_false h0, Bool.false_and] at q
      exact q
theorem allB {K : PySem.W.Frag} {H : Hp} {Q : VK} {a : Addr} {bs : List Bool} (h : SqL K H a (bs.map V.bl)) (q : Q (.bl (bs.all id)) H) : rAll K [V.ref a] H Q := ⟨a, bs, rfl, h, q⟩
def aaw (how : List Int) : List Nat := how.map Int.toNat
def gz (how : List Int) : Ql90.Gauge := Ql90.gauge 0 0 (aaw how)
def aul (K : PySem.W.Frag) : Sp := fun vs H Q _ => ∃ (a : Addr) (how : List Int), vs = [.ref a] ∧ SqL K H a (how.map V.int) ∧ how.length = 10 ∧ (∀ x ∈ how, B64 x) ∧ ∀ H', Same H H' → Q (.bl (gz how).good) H'
theorem am {α β : Type} (f : α → β) (l : List α) : l.filterMap (fun x => some (f x)) = l.map f := congrFun (List.filterMap_eq_map (f := f)) l
theorem arc : ∀ {l : List Int}, l.length = 10 → ∃ h0 h1 h2 h3 h4 h5 h6 h7 h8 h9, l = [h0, h1, h2, h3, h4, h5, h6, h7, h8, h9]
  | [h0, h1, h2, h3, h4, h5, h6, h7, h8, h9], _ => ⟨h0, h1, h2, h3, h4, h5, h6, h7, h8, h9, rfl⟩
theorem aq3 (how : List Int) (h0 h1 h2 h3 h4 h5 h6 h7 h8 h9 : Int) (e : how = [h0, h1, h2, h3, h4, h5, h6, h7, h8, h9]) : (gz how).good = ((how.map fun z => Ql90.measure z.toNat).all id &&
    (decide (0 < st h2.toNat) && (decide (st h2.toNat ≤ (S74 : Int)) && ((decide (st h3.toNat ≤ st h4.toNat) && (decide (st h4.toNat ≤ st h5.toNat) && decide (st h5.toNat ≤ st h6.toNat))) && (decide (0 ≤ st h7.toNat) && decide (0 < st h9.toNat)))))) := by
  subst e
  apply Bool.eq_iff_iff.mpr
  rw [aqy]
  simp only [gz, aaw, Ql90.gauge, List.map_cons, List.map_nil, List.getD_cons_zero, List.getD_cons_succ, List.all_cons, List.all_nil, Bool.and_eq_true, decide_eq_true_eq, id]
  constructor
  · rintro ⟨a, b, c, d, e, f, g, h⟩
    exact ⟨a, b, c, ⟨d, e, f⟩, g, h⟩
  · rintro ⟨a, b, c, ⟨d, e, f⟩, g, h⟩
    exact ⟨a, b, c, d, e, f, g, h⟩
theorem jx : FnScope ["how", "steps", "weight_is_right", "bits"] ["how"] (defScope o6) := ⟨rfl, rfl, rfl, by decide +kernel, rfl, by decide +kernel, by decide +kernel⟩
theorem agh (T : Txt K mg t) : FnOk P w K mg base CX0 3 t.md t.lf ["how"] (aul K) := by
  refine T.le.ok jx (fun vs H Q E h => ?_) (fun cdv A outer s H vs Q E hr h => ?_)
  · obtain ⟨a, how, rfl, _⟩ := h
    rfl
  · obtain ⟨a, how, rfl, hS, hl, hb, q⟩ := h
    refine ⟨_, (pss_cons (ps_if (pt_not (pt_val (pe_callB (cr_all rfl) (by rfl) T.afu zf (pa_cons (pe_lc rfl jx.nd (pi_list (pv 0)) (blkG (own := [("bits", 3)]) (N := ["how", "steps", "weight_is_right", "bits"]) (sc := defScope o6) rfl rfl rfl (by decide +kernel) (by decide +kernel) (by decide +kernel) (by decide +kernel)) (fun _ _ _ _ _ => pg_name (i := 3) jx.nd rfl (Or.inl rfl)) (fun _ _ _ _ _ => pts_nil) (fun _ _ _ _ _ => (pe_call (aik T) (hr.mono (by decide)) rfl T.wq T.qg.kp T.adq .nil pass0 (pa_cons (pv 3) pa_nil)))) pa_nil))))
        (pss_one (ps_ret pe_bl))
        pss_nil)
      (pss_cons (ps_setLc (i := 1) rfl jx.nd rfl rfl rfl (pi_list (pv 0)) (blkG (own := [("bits", 3)]) (N := ["how", "steps", "weight_is_right", "bits"]) (sc := defScope o6) rfl rfl rfl (by decide +kernel) (by decide +kernel) (by decide +kernel) (by decide +kernel)) (fun _ _ _ _ _ => pg_name (i := 3) jx.nd rfl (Or.inl rfl)) (fun _ _ _ _ _ => pts_nil) (fun _ _ _ _ _ => (pe_call (aba T) (hr.mono (by decide)) rfl T.uz T.o4.kp T.aaj .nil pass0 (pa_cons (pv 3) pa_nil))))
      (pss_cons (ps_set (i := 2) jx.nd rfl (Or.inl rfl) (pe_chain op_lt op_le pe_int (pe_ix ix_list (pv 1) pe_int (fun _ _ => rfl)) (pe_op fe pe_int (ai T.wc rfl))))
      (pss_one (ps_ret (pe_and (pv 2) (pe_and (pe_call (adf T) (hr.mono (by decide)) rfl T.nz T.fm.kp T.yo .nil pass0 (pa_cons (pe_slice sl_list (pv 1) (po_some pe_int) (po_some pe_int)) pa_nil)) (pe_and (pe_cmpR op_ge (pe_ix ix_list (pv 1) pe_int (fun _ _ => rfl)) pe_int (nomark _)) (pe_one (pe_cmpR op_gt (pe_ix ix_list (pv 1) pe_int (fun _ _ => rfl)) pe_int (nomark _))))))))))), ?_⟩
    simp only [RD, List.replicate, List.set, Nat.reduceAdd, Nat.reduceSub]
    have hz : (how.map V.int).length ≤ sizeLine := by rw [sizeLine_eq, List.length_map]; omega
    refine zm (H1 := H) (a := a) (xs := how.map V.int) hz (fun x => match x with | .int z => some (.bl (Ql90.measure z.toNat)) | _ => none) (fun R r => ?_) hS (fun x hx H' hH R r => ⟨rfl, ?_⟩) (fun D H' hD hH hl' => ?_)
    · simp only [RD, List.replicate, List.set, Nat.reduceAdd, Nat.reduceSub]
      exact r
    · obtain ⟨z, hz, rfl⟩ := List.mem_map.mp hx
      simp only [RD, List.replicate, List.set, Nat.reduceAdd, Nat.reduceSub, wipe, tYes]
      exact ⟨hb z hz, r _ (Same.refl _)⟩
    · have e1 : (how.map V.int).filterMap (fun x => match x with | .int z => some (V.bl (Ql90.measure z.toNat)) | _ => none) = (how.map fun z => Ql90.measure z.toNat).map V.bl := by
        rw [List.filterMap_map, List.map_map]
        exact am _ _
      rw [e1] at hl'
      refine allB (SqL.of hl') ?_
      simp only [RD, List.replicate, List.set, Nat.reduceAdd, Nat.reduceSub]
      obtain ⟨h0, h1, h2, h3, h4, h5, h6, h7, h8, h9, e⟩ := arc hl
      rw [aq3 how h0 h1 h2 h3 h4 h5 h6 h7 h8 h9 e] at q
      cases eb : (how.map fun z => Ql90.measure z.toNat).all id with
      | false =>
        rw [if_pos rfl]
        rw [eb, Bool.false_and] at q
        exact q _ hH
      | true =>
        rw [if_neg (by simp)]
        rw [eb, Bool.true_and] at q
        refine zm (H1 := H') (a := a) (xs := how.map V.int) hz (fun x => match x with | .int z => some (.int (st z.toNat)) | _ => none) (fun R r => ?_) (hH.seq hS) (fun x hx H' hH R r => ⟨rfl, ?_⟩) (fun D2 H2 hD2 hH2 hl2 => ?_)
        · simp only [RD, List.replicate, List.set, Nat.reduceAdd, Nat.reduceSub]
          exact r
        · obtain ⟨z, hz, rfl⟩ := List.mem_map.mp hx
          simp only [RD, List.replicate, List.set, Nat.reduceAdd, Nat.reduceSub, wipe, tYes]
          exact ⟨hb z hz, r _ (Same.refl _)⟩
        · have e2 : (how.map V.int).filterMap (fun x => match x with | .int z => some (V.int (st z.toNat)) | _ => none) = (how.map fun z => st z.toNat).map V.int := by
            rw [List.filterMap_map, List.map_map]
            exact am _ _
          rw [e2] at hl2
          have hH2 := hH.trans hH2
          subst e
          have hS2 : SqL K H2 D2 [.int (st h0.toNat), .int (st h1.toNat), .int (st h2.toNat), .int (st h3.toNat), .int (st h4.toNat), .int (st h5.toNat), .int (st h6.toNat), .int (st h7.toNat), .int (st h8.toNat), .int (st h9.toNat)] := SqL.of hl2
          refine ixL hS2 rfl ?_
          simp only [RD, List.replicate, List.set, Nat.reduceAdd, Nat.reduceSub, wm]
          have e74 : ((2 ^ Int.toNat 1074 : Nat) : Int) = (S74 : Int) := rfl
          rw [e74]
          by_cases c1 : 0 < st h2.toNat
          · rw [if_pos c1]
            rw [decide_eq_true c1, Bool.true_and] at q
            refine ⟨⟨au (by decide) (by decide), by decide, by decide⟩, ?_⟩
            by_cases c2 : st h2.toNat ≤ (S74 : Int)
            · rw [if_pos c2]
              rw [decide_eq_true c2, Bool.true_and] at q
              refine slL hS2 fun l3 hl3 => ⟨l3, _, _, _, _, rfl, SqL.of upd_same, ?_⟩
              have hS3 := (Same.new (o := .lst (cutV [.int (st h0.toNat), .int (st h1.toNat), .int (st h2.toNat), .int (st h3.toNat), .int (st h4.toNat), .int (st h5.toNat), .int (st h6.toNat), .int (st h7.toNat), .int (st h8.toNat), .int (st h9.toNat)] (some 3) (some 7))) hl3)
              have q := q _ (hH2.trans hS3)
              refine ⟨_, rfl, ?_⟩
              cases c3 : (decide (st h3.toNat ≤ st h4.toNat) && (decide (st h4.toNat ≤ st h5.toNat) && decide (st h5.toNat ≤ st h6.toNat))) with
              | false =>
                rw [if_neg (by simp)]
                rw [c3, Bool.false_and] at q
                exact q
              | true =>
                rw [if_pos rfl]
                rw [c3, Bool.true_and] at q
                refine ixL (hS3.seq hS2) rfl ?_
                simp only [RD, List.replicate, List.set, Nat.reduceAdd, Nat.reduceSub]
                by_cases c4 : 0 ≤ st h7.toNat
                · rw [if_pos c4]
                  rw [decide_eq_true c4, Bool.true_and] at q
                  refine ixL (hS3.seq hS2) rfl ?_
                  simp only [RD, List.replicate, List.set, Nat.reduceAdd, Nat.reduceSub]
                  exact q
                · rw [if_neg c4]
                  rw [decide_eq_false c4, Bool.false_and] at q
                  exact q
            · rw [if_neg c2]
              rw [decide_eq_false c2, Bool.false_and] at q
              exact q _ hH2
          · rw [if_neg c1]
            rw [decide_eq_false c1, Bool.false_and] at q
            exact q _ hH2
end
end GB
end

section
set_option Elab.async false
set_option maxRecDepth 100000
set_option maxHeartbeats 4000000
set_option linter.all false
set_option exponentiation.threshold 100
namespace GB
open PySem L2
section
variable {P : Program} {w : World} {K : PySem.W.Frag} {mg : Str → Option Value} {base : Heap} {t : Ad}
theorem fldU {H : Hp} {p C dx : Addr} {fs : List (Str × V)} {f : Str} {v : V} (c : Cls K C) (n : NoAttr K C f) (l : fs.lookup f = some v) (Q : VK) : Fld K f (.ref p) (upd H p (.ins C dx fs)) Q = Q v (upd H p (.ins C dx fs)) := af upd_same c n l Q
theorem stoU {H : Hp} {p C dx : Addr} {fs : List (Str × V)} {f : Str} {y : V} (c : Cls K C) (n : NoAttr K C f) (hl : fs.length < 1000) (R : Hp → Prop) : Sto K f y (.ref p) (upd H p (.ins C dx fs)) R = R (upd H p (.ins C dx (putF f y fs))) := by
  rw [wg upd_same c n hl, upd_upd]
theorem lpF {f : Str} {v : V} {fs : List (Str × V)} {k : Nat} (h : fs.length < k) : (putF f v fs).length < k + 1 := by
  have := length_putF f v fs
  omega
def forg (fs : List (Str × V)) (tr : Addr) : List (Str × V) :=
  putF "state" (.int 2) (putF "trace" (.ref tr) (putF "greatest" (.int 0) (putF "least" (.int 0) (putF "smoothed" (.int 0) (putF "value" (.int 0) (putF "last_number" (.int 0) (putF "has_reading" (.bl false) fs)))))))
theorem aua {g : Ql90.Gauge} {lim tr : Addr} : forg (gfs9 g lim) tr = gfs g lim tr MR0 := rfl
theorem at4 {g : Ql90.Gauge} {lim tr tr0 : Addr} {m : MR} : forg (gfs g lim tr0 m) tr = gfs g lim tr MR0 := rfl
def apz (t : Ad) : Sp := fun vs H Q _ => ∃ (p dx : Addr) (fs : List (Str × V)), vs = [.ref p] ∧ H p = some (.ins t.ac dx fs) ∧ fs.length < 900 ∧
  ∀ tr H', H tr = none → H' p = some (.ins t.ac dx (forg fs tr)) → H' tr = some (.lst []) → (∀ b o, b ≠ p → H b = some o → H' b = some o) → Q .non H'
theorem af8 : FnScope ["self"] ["self"] (defScope kz) := ⟨rfl, rfl, rfl, by decide +kernel, rfl, by decide +kernel, by decide +kernel⟩
theorem aat (T : Txt K mg t) : FnOk P w K mg base CX0 1 t.lw t.lg ["self"] (apz t) := by
  refine T.oy.ok af8 (fun vs H Q E h => ?_) (fun cdv A outer s H vs Q E hr h => ?_)
  · obtain ⟨p, dx, fs, rfl, _⟩ := h
    rfl
  · obtain ⟨p, dx, fs, rfl, hp, hl, q⟩ := h
    refine ⟨_, (pss_cons (ps_fld (pv 0) pe_bl rfl)
      (pss_cons (ps_fld (pv 0) pe_int rfl)
      (pss_cons (ps_fld (pv 0) pe_int rfl)
      (pss_cons (ps_fld (pv 0) pe_int rfl)
      (pss_cons (ps_fld (pv 0) pe_int rfl)
      (pss_cons (ps_fld (pv 0) pe_int rfl)
      (pss_cons (ps_fld (pv 0) (pe_lst pa_nil) rfl)
      (pss_one (ps_fld (pv 0) (ai T.ae7 rfl) rfl))))))))), ?_⟩
    simp only [RD, List.replicate, List.set, Nat.reduceAdd, Nat.reduceSub]
    rw [wg hp T.aa T.be (by omega)]
    have l1 := lpF (f := "has_reading") (v := V.bl false) hl
    rw [stoU T.aa T.dm (by omega)]
    have l2 := lpF (f := "last_number") (v := V.int 0) l1
    rw [stoU T.aa T.ia (by omega)]
    have l3 := lpF (f := "value") (v := V.int 0) l2
    rw [stoU T.aa T.cg (by omega)]
    have l4 := lpF (f := "smoothed") (v := V.int 0) l3
    rw [stoU T.aa T.g9 (by omega)]
    have l5 := lpF (f := "least") (v := V.int 0) l4
    rw [stoU T.aa T.cj (by omega)]
    have l6 := lpF (f := "greatest") (v := V.int 0) l5
    refine ⟨by decide, fun tr htr => ?_⟩
    have hpt : p ≠ tr := ne_of_none upd_same htr
    have htr0 : H tr = none := by rw [upd_ne (Ne.symm hpt)] at htr; exact htr
    rw [wg (by rw [upd_ne hpt]; exact upd_same) T.aa T.kh (by omega)]
    have l7 := lpF (f := "trace") (v := V.ref tr) l6
    rw [stoU T.aa T.cy (by omega)]
    refine q tr _ htr0 upd_same ?_ fun b o hb e => ?_
    · rw [upd_ne (Ne.symm hpt), upd_same]
    · rw [upd_ne hb, upd_ne (ne_of_none e htr0), upd_ne hb]
      exact e
def gOf (kind place : Nat) (how : List Int) : Ql90.Gauge := Ql90.gauge kind place (aaw how)
def ars (K : PySem.W.Frag) (t : Ad) : Sp := fun vs H Q _ => ∃ (p dx a : Addr) (kind place : Nat) (how : List Int), vs = [.ref p, .int kind, .int place, .ref a] ∧ H p = some (.ins t.ac dx []) ∧ SqL K H a (how.map V.int) ∧ how.length = 10 ∧ (∀ x ∈ how, B64 x) ∧
  ∀ lim tr H', H lim = none → H tr = none → lim ≠ tr → H' p = some (.ins t.ac dx (gfs (gOf kind place how) lim tr MR0)) → H' tr = some (.lst []) →
    H' lim = some (.lst [.int (st (gOf kind place how).l0), .int (st (gOf kind place how).l1), .int (st (gOf kind place how).l2), .int (st (gOf kind place how).l3)]) → (∀ b o, b ≠ p → H b = some o → H' b = some o) → Q .non H'
theorem za : FnScope ["self", "kind", "place", "how", "steps", "bits"] ["self", "kind", "place", "how"] (defScope mr) := ⟨rfl, rfl, rfl, by decide +kernel, rfl, by decide +kernel, by decide +kernel⟩
theorem ah9 (T : Txt K mg t) : FnOk P w K mg base CX0 3 t.px t.p5 ["self", "kind", "place", "how"] (ars K t) := by
  refine T.sr.ok za (fun vs H Q E h => ?_) (fun cdv A outer s H vs Q E hr h => ?_)
  · obtain ⟨p, dx, a, kind, place, how, rfl, _⟩ := h
    rfl
  · obtain ⟨p, dx, a, kind, place, how, rfl, hp, hS, hl, hb, q⟩ := h
    refine ⟨_, (pss_cons (ps_setLc (i := 4) rfl za.nd rfl rfl rfl (pi_list (pv 3)) (blkG (own := [("bits", 5)]) (N := ["self", "kind", "place", "how", "steps", "bits"]) (sc := defScope mr) rfl rfl rfl (by decide +kernel) (by decide +kernel) (by decide +kernel) (by decide +kernel)) (fun _ _ _ _ _ => pg_name (i := 5) za.nd rfl (Or.inl rfl)) (fun _ _ _ _ _ => pts_nil) (fun _ _ _ _ _ => (pe_call (aba T) (hr.mono (by decide)) rfl T.uz T.o4.kp T.aaj .nil pass0 (pa_cons (pv 5) pa_nil))))
      (pss_cons (ps_fld (pv 0) (pv 1) rfl)
      (pss_cons (ps_fld (pv 0) (pv 2) rfl)
      (pss_cons (ps_fld (pv 0) (pe_ix ix_list (pv 4) pe_int (fun _ _ => rfl)) rfl)
      (pss_cons (ps_fld (pv 0) (pe_ix ix_list (pv 4) pe_int (fun _ _ => rfl)) rfl)
      (pss_cons (ps_fld (pv 0) (pe_ix ix_list (pv 4) pe_int (fun _ _ => rfl)) rfl)
      (pss_cons (ps_fld (pv 0) (pe_slice sl_list (pv 4) (po_some pe_int) (po_some pe_int)) rfl)
      (pss_cons (ps_fld (pv 0) (pe_ix ix_list (pv 4) pe_int (fun _ _ => rfl)) rfl)
      (pss_cons (ps_fld (pv 0) (pe_ix ix_list (pv 4) pe_int (fun _ _ => rfl)) rfl)
      (pss_cons (ps_fld (pv 0) (pe_ix ix_list (pv 4) pe_int (fun _ _ => rfl)) rfl)
      (pss_one (ps_expr (pe_meth0 (pv 0) T.aa T.o0 (aat T) (hr.mono (by decide)) T.xt .nil pass0))))))))))))), ?_⟩
    simp only [RD, List.replicate, List.set, Nat.reduceAdd, Nat.reduceSub]
    have hz : (how.map V.int).length ≤ sizeLine := by rw [sizeLine_eq, List.length_map]; omega
    refine zm (H1 := H) (a := a) (xs := how.map V.int) hz (fun x => match x with | .int z => some (.int (st z.toNat)) | _ => none) (fun R r => ?_) hS (fun x hx H' hH R r => ⟨rfl, ?_⟩) (fun D2 H2 hD2 hH2 hl2 => ?_)
    · simp only [RD, List.replicate, List.set, Nat.reduceAdd, Nat.reduceSub]
      exact r
    · obtain ⟨z, hz, rfl⟩ := List.mem_map.mp hx
      simp only [RD, List.replicate, List.set, Nat.reduceAdd, Nat.reduceSub, wipe, tYes]
      exact ⟨hb z hz, r _ (Same.refl _)⟩
    · have e2 : (how.map V.int).filterMap (fun x => match x with | .int z => some (V.int (st z.toNat)) | _ => none) = (how.map fun z => st z.toNat).map V.int := by
        rw [List.filterMap_map, List.map_map]
        exact am _ _
      rw [e2] at hl2
      obtain ⟨h0, h1, h2, h3, h4, h5, h6, h7, h8, h9, e⟩ := arc hl
      subst e
      have hp2 := hH2 _ _ hp
      have hpD : D2 ≠ p := by
        intro e
        rw [e] at hD2
        rw [hp] at hD2
        cases hD2
      have hD : ∀ fs, SqL K (upd H2 p (.ins t.ac dx fs)) D2 [.int (st h0.toNat), .int (st h1.toNat), .int (st h2.toNat), .int (st h3.toNat), .int (st h4.toNat), .int (st h5.toNat), .int (st h6.toNat), .int (st h7.toNat), .int (st h8.toNat), .int (st h9.toNat)] := fun fs => SqL.of (by rw [upd_ne hpD]; exact hl2)
      rw [wg hp2 T.aa T.g6 (by decide)]
      have l1 : (putF "kind" (V.int kind) []).length < 2 := lpF (k := 1) (by decide)
      rw [stoU T.aa T.ko (by omega)]
      have l2 := lpF (f := "place") (v := V.int place) l1
      refine ixL (hD _) rfl ?_
      rw [stoU T.aa T.ki (by omega)]
      have l3 := lpF (f := "scale") (v := V.int (st h0.toNat)) l2
      refine ixL (hD _) rfl ?_
      rw [stoU T.aa T.lb (by omega)]
      have l4 := lpF (f := "offset") (v := V.int (st h1.toNat)) l3
      refine ixL (hD _) rfl ?_
      rw [stoU T.aa T.on (by omega)]
      have l5 := lpF (f := "weight") (v := V.int (st h2.toNat)) l4
      refine slL (hD _) fun lim hlim => ?_
      have hpl : p ≠ lim := ne_of_none upd_same hlim
      have hlim2 : H2 lim = none := by rw [upd_ne (Ne.symm hpl)] at hlim; exact hlim
      have hDl : D2 ≠ lim := ne_of_none hl2 hlim2
      rw [wg (by rw [upd_ne hpl]; exact upd_same) T.aa T.oj (by omega)]
      have l6 := lpF (f := "limits") (v := V.ref lim) l5
      generalize hH3 : upd (upd H2 p _) lim _ = H3
      have hl3 : H3 D2 = H2 D2 := by rw [← hH3, upd_ne hDl, upd_ne hpD]
      have hL3 : H3 lim = some (.lst [.int (st h3.toNat), .int (st h4.toNat), .int (st h5.toNat), .int (st h6.toNat)]) := by rw [← hH3, upd_same]; rfl
      have hD : ∀ fs, SqL K (upd H3 p (.ins t.ac dx fs)) D2 [.int (st h0.toNat), .int (st h1.toNat), .int (st h2.toNat), .int (st h3.toNat), .int (st h4.toNat), .int (st h5.toNat), .int (st h6.toNat), .int (st h7.toNat), .int (st h8.toNat), .int (st h9.toNat)] := fun fs => SqL.of (by rw [upd_ne hpD, hl3]; exact hl2)
      refine ixL (hD _) rfl ?_
      rw [stoU T.aa T.qo (by omega)]
      have l7 := lpF (f := "slack") (v := V.int (st h7.toNat)) l6
      refine ixL (hD _) rfl ?_
      rw [stoU T.aa T.ja (by omega)]
      have l8 := lpF (f := "dial_start") (v := V.int (st h8.toNat)) l7
      refine ixL (hD _) rfl ?_
      rw [stoU T.aa T.iy (by omega)]
      rw [show putF "dial_scale" (V.int (st h9.toNat)) _ = gfs9 (gOf kind place [h0, h1, h2, h3, h4, h5, h6, h7, h8, h9]) lim from rfl]
      refine ⟨p, dx, _, rfl, upd_same, amf, p, dx, _, rfl, upd_same, (by show 9 < 900; decide), fun tr H' htr e1 e2 e3 => ?_⟩
      have hpt : p ≠ tr := ne_of_none upd_same htr
      have htr3 : H3 tr = none := by rw [upd_ne (Ne.symm hpt)] at htr; exact htr
      have hlt : lim ≠ tr := ne_of_none hL3 htr3
      have htr2 : H2 tr = none := by rw [← hH3, upd_ne (Ne.symm hlt), upd_ne (Ne.symm hpt)] at htr3; exact htr3
      have hkeep : ∀ b o, b ≠ p → H3 b = some o → H' b = some o := fun b o hb e => e3 b o hb (by rw [upd_ne hb]; exact e)
      refine q lim tr H' (hH2.free hlim2) (hH2.free htr2) hlt (by rw [aua] at e1; exact e1) e2 (hkeep _ _ (Ne.symm hpl) hL3) fun b o hb e => ?_
      have e' := hH2 _ _ e
      exact hkeep b o hb (by rw [← hH3, upd_ne (ne_of_none e' hlim2), upd_ne hb]; exact e')
def auo (t : Ad) : Sp := fun vs H Q _ => ∃ (p dx lim tr : Addr) (g : Ql90.Gauge) (m : MR), vs = [.ref p] ∧ H p = some (.ins t.ac dx (gfs g lim tr m)) ∧ Q (.int ((g.place : Int) + (wd g.kind : Int))) H
theorem ac1 : FnScope ["self"] ["self"] (defScope gp) := ⟨rfl, rfl, rfl, by decide +kernel, rfl, by decide +kernel, by decide +kernel⟩
theorem ac2 (T : Txt K mg t) : FnOk P w K mg base CX0 2 t.fy t.fz ["self"] (auo t) := by
  refine T.kb.ok ac1 (fun vs H Q E h => ?_) (fun cdv A outer s H vs Q E hr h => ?_)
  · obtain ⟨p, dx, lim, tr, g, m, rfl, _⟩ := h
    rfl
  · obtain ⟨p, dx, lim, tr, g, m, rfl, hp, q⟩ := h
    refine ⟨_, (pss_one (ps_ret (pe_op op_add (pe_fld (pv 0) rfl) (pe_call (g8 T) (hr.mono (by decide)) rfl T.de T.bj.kp T.g5 .nil pass0 (pa_cons (pe_fld (pv 0) rfl) pa_nil))))), ?_⟩
    simp only [RD, List.replicate, List.set, Nat.reduceAdd, Nat.reduceSub, af hp T.aa T.ko ahj, af hp T.aa T.g6 ads, Int.toNat_natCast]
    exact ⟨Int.natCast_nonneg _, q⟩
theorem abu {z : Int} {k : Nat} (h : z.natAbs ≤ 2 ^ k) : Sm (k + 1) z := Nat.lt_of_le_of_lt h (Nat.pow_lt_pow_right (by decide) (by omega))
theorem Yok.sm {z : Int} (h : Yok z) : Sm 1300 z := (abu h.bd).mono (by decide)
theorem Sok.sm {z : Int} (h : Sok z) : Sm 1300 z := (abu h.bd).mono (by decide)
theorem Meas.sm {x : Nat} (h : Meas x) : Sm 1300 (st x) := by
  have := h.bd
  exact Nat.lt_of_lt_of_le this (Nat.pow_le_pow_right (by decide) (by decide))
theorem ag1 {z : Int} {k : Nat} (h : Sm k z) : Sm (k + 1) (nd z 1 53) := abu (yc (Nat.le_of_lt h))
def aph (t : Ad) : Sp := fun vs H Q _ => ∃ (p dx lim tr : Addr) (g : Ql90.Gauge) (m : MR) (y : Int), vs = [.ref p, .int y] ∧ H p = some (.ins t.ac dx (gfs g lim tr m)) ∧ Sm 1300 y ∧ Sm 1300 m.smo ∧ Sm 1300 (st g.w) ∧
  Q .non (upd H p (.ins t.ac dx (gfs g lim tr { m with smo := msm y m.smo (st g.w) })))
theorem aa1 : FnScope ["self", "value", "difference"] ["self", "value"] (defScope lq) := ⟨rfl, rfl, rfl, by decide +kernel, rfl, by decide +kernel, by decide +kernel⟩
theorem af7 (T : Txt K mg t) : FnOk P w K mg base CX0 5 t.lc t.me ["self", "value"] (aph t) := by
  refine T.oz.ok aa1 (fun vs H Q E h => ?_) (fun cdv A outer s H vs Q E hr h => ?_)
  · obtain ⟨p, dx, lim, tr, g, m, y, rfl, _⟩ := h
    rfl
  · obtain ⟨p, dx, lim, tr, g, m, y, rfl, hp, hy, hs, hw, q⟩ := h
    refine ⟨_, (pss_cons (ps_set (i := 2) aa1.nd rfl (Or.inl rfl) (pe_call (ar T) (hr.mono (by decide)) rfl T.ao T.al.kp T.aw .nil pass0 (pa_cons (pe_op op_sub (pv 1) (pe_fld (pv 0) rfl)) (pa_cons pe_int pa_nil))))
      (pss_one (ps_fld (pv 0) (pe_call (xr T) (hr.mono (by decide)) rfl T.j5 T.cz.kp T.tf .nil pass0 (pa_cons (pv 2) (pa_cons (pe_fld (pv 0) rfl) (pa_cons (pe_fld (pv 0) rfl) pa_nil)))) rfl))), ?_⟩
    simp only [RD, List.replicate, List.set, Nat.reduceAdd, Nat.reduceSub, af hp T.aa T.cg af3, af hp T.aa T.on ao8, wg hp T.aa T.cg (show (gfs g lim tr m).length < 1000 by show 17 < 1000; decide), aft]
    refine ⟨⟨(abv hy hs).mono (by decide), by decide, au (by decide) (by decide)⟩, ⟨(ag1 (abv hy hs)).mono (by decide), hw.mono (by decide), hs.mono (by decide)⟩, q⟩
def mtr (xs : List Int) (x : Int) : List Int := if 256 < (xs ++ [x]).length then (xs ++ [x]).drop 1 else xs ++ [x]
def asn (t : Ad) : Sp := fun vs H Q _ => ∃ (p dx lim tr : Addr) (g : Ql90.Gauge) (m : MR) (x : Int) (xs : List Int), vs = [.ref p, .int x] ∧ H p = some (.ins t.ac dx (gfs g lim tr m)) ∧ H tr = some (.lst (xs.map V.int)) ∧ xs.length ≤ 1000 ∧
  Q .non (upd H tr (.lst ((mtr xs x).map V.int)))
theorem aa6 : FnScope ["self", "single"] ["self", "single"] (defScope cf) := ⟨rfl, rfl, rfl, by decide +kernel, rfl, by decide +kernel, by decide +kernel⟩
theorem aa3 (T : Txt K mg t) : FnOk P w K mg base CX0 1 t.cq t.cu ["self", "single"] (asn t) := by
  refine T.ff.ok aa6 (fun vs H Q E h => ?_) (fun cdv A outer s H vs Q E hr h => ?_)
  · obtain ⟨p, dx, lim, tr, g, m, x, xs, rfl, _⟩ := h
    rfl
  · obtain ⟨p, dx, lim, tr, g, m, x, xs, rfl, hp, htr, hl, q⟩ := h
    refine ⟨_, (pss_cons (ps_expr (pe_bm PySem.F.plainAttrs_list PySem.F.slot_list_append PySem.F.type_list_append mt_append (pe_fld (pv 0) rfl) (pa_cons (pv 1) pa_nil)))
      (pss_one (ps_if (pt_cmpR op_gt (pe_callB call_len_seq (by rfl) T.zr PySem.boot_len (pa_cons (pe_fld (pv 0) rfl) pa_nil)) (ai T.lv rfl) (nomark _))
        (pss_one (ps_expr (pe_bm PySem.F.plainAttrs_list PySem.F.slot_list_pop PySem.F.type_list_pop mt_popAt (pe_fld (pv 0) rfl) (pa_cons pe_int pa_nil))))
        pss_nil))), ?_⟩
    have hpt : p ≠ tr := ne_of hp htr (by intro z; cases z)
    simp only [RD, List.replicate, List.set, Nat.reduceAdd, Nat.reduceSub, af hp T.aa T.kh agv]
    rw [ap4 htr (by rw [sizeLine_eq, List.length_map]; omega)]
    have hp2 : ∀ o, upd H tr o p = some (.ins t.ac dx (gfs g lim tr m)) := fun o => by rw [upd_ne hpt]; exact hp
    simp only [RD, List.replicate, List.set, Nat.reduceAdd, Nat.reduceSub, af (hp2 _) T.aa T.kh agv]
    refine ⟨tr, _, rfl, .inl (SqL.of upd_same), ?_⟩
    have e : xs.map V.int ++ [V.int x] = (xs ++ [x]).map V.int := by rw [List.map_append]; rfl
    rw [e]
    unfold mtr at q
    by_cases h : 256 < (xs ++ [x]).length
    · rw [if_pos (by rw [List.length_map]; omega)]
      rw [if_pos h] at q
      cases hx : xs ++ [x] with
      | nil => rw [hx] at h; simp at h
      | cons z r =>
        rw [hx] at q
        refine pop0 (z := .int z) (xs := r.map V.int) (by rw [upd_same]; rfl) ?_
        rw [upd_upd]
        exact q
    · rw [if_neg (by rw [List.length_map]; omega)]
      rw [if_neg h] at q
      exact q
def apk (y lo k : Int) : Int := nw (nd (nd (y - lo) 1 53 * k) (S74 : Int) 53) (S74 : Int)
theorem aqi (y lo k : Int) : aq8 y lo k = hold (apk y lo k) 4 := rfl
theorem aq7 {z b : Int} {k : Nat} (hb : 0 < b) (h : Sm k z) : Sm (k + 1) (nd z b 53) := by
  refine abu (ag9 (by decide) hb ?_)
  have h1 : (z.natAbs : Int) ≤ ((2 ^ k : Nat) : Int) := by
    have := Nat.le_of_lt h
    exact_mod_cast this
  have h2 := Int.mul_le_mul_of_nonneg_left (show (1 : Int) ≤ b by omega) (show 0 ≤ ((2 ^ k : Nat) : Int) by omega)
  rw [Int.mul_one] at h2
  exact Int.le_trans h1 h2
def at5 (t : Ad) : Sp := fun vs H Q _ => ∃ (p dx lim tr : Addr) (g : Ql90.Gauge) (m : MR), vs = [.ref p] ∧ H p = some (.ins t.ac dx (gfs g lim tr m)) ∧ Sm 1300 m.val ∧ Sm 1300 (st g.lo) ∧ Sm 1300 (st g.k) ∧ Q (.int (apk m.val (st g.lo) (st g.k))) H
theorem acw : FnScope ["self", "turn"] ["self"] (defScope qh) := ⟨rfl, rfl, rfl, by decide +kernel, rfl, by decide +kernel, by decide +kernel⟩
theorem aic (T : Txt K mg t) : FnOk P w K mg base CX0 5 t.p4 t.p6 ["self"] (at5 t) := by
  refine T.s0.ok acw (fun vs H Q E h => ?_) (fun cdv A outer s H vs Q E hr h => ?_)
  · obtain ⟨p, dx, lim, tr, g, m, rfl, _⟩ := h
    rfl
  · obtain ⟨p, dx, lim, tr, g, m, rfl, hp, hv, hlo, hk, q⟩ := h
    refine ⟨_, (pss_cons (ps_set (i := 1) acw.nd rfl (Or.inl rfl) (pe_call (ar T) (hr.mono (by decide)) rfl T.ao T.al.kp T.aw .nil pass0 (pa_cons (pe_op op_sub (pe_fld (pv 0) rfl) (pe_fld (pv 0) rfl)) (pa_cons pe_int pa_nil))))
      (pss_one (ps_ret (pe_call (aau T) (hr.mono (by decide)) rfl T.o1 T.iw.kp T.xl .nil pass0 (pa_cons (pe_call (am1 T) (hr.mono (by decide)) rfl T.acg T.xi.kp T.aja .nil pass0 (pa_cons (pv 1) (pa_cons (pe_fld (pv 0) rfl) pa_nil))) pa_nil))))), ?_⟩
    simp only [RD, List.replicate, List.set, Nat.reduceAdd, Nat.reduceSub, af hp T.aa T.ia agy, af hp T.aa T.ja aii, af hp T.aa T.iy aim]
    have h1 := ag1 (abv hv hlo)
    refine ⟨⟨(abv hv hlo).mono (by decide), by decide, au (by decide) (by decide)⟩, ⟨h1.mono (by decide), hk.mono (by decide)⟩, (aq7 qw (ajh h1 hk)).mono (by decide), q⟩
def aqb (t : Ad) : Sp := fun vs H Q _ => ∃ (p dx lim tr : Addr) (g : Ql90.Gauge) (m : MR) (y : Int), vs = [.ref p, .int y] ∧ H p = some (.ins t.ac dx (gfs g lim tr m)) ∧ Sm 1300 y ∧ Sm 1300 (st g.b) ∧ Sm 1300 (st g.a) ∧ st g.a ≠ 0 ∧ Q (.int (acp y (st g.b) (st g.a))) H
theorem atu {a b : Int} {k : Nat} (hb : b ≠ 0) (ha : Sm k a) : Sm (k + 1075) (quo a b) := by
  unfold quo
  by_cases h : b < 0
  · rw [if_pos h]
    exact aq7 (by omega) (afa (ajp ha))
  · rw [if_neg h]
    exact aq7 (by omega) (afa ha)
theorem wk : FnScope ["self", "value", "difference"] ["self", "value"] (defScope el) := ⟨rfl, rfl, rfl, by decide +kernel, rfl, by decide +kernel, by decide +kernel⟩
theorem ack (T : Txt K mg t) : FnOk P w K mg base CX0 5 t.dy t.eg ["self", "value"] (aqb t) := by
  refine T.jc.ok wk (fun vs H Q E h => ?_) (fun cdv A outer s H vs Q E hr h => ?_)
  · obtain ⟨p, dx, lim, tr, g, m, y, rfl, _⟩ := h
    rfl
  · obtain ⟨p, dx, lim, tr, g, m, y, rfl, hp, hy, hb, ha, ha0, q⟩ := h
    refine ⟨_, (pss_cons (ps_set (i := 2) wk.nd rfl (Or.inl rfl) (pe_call (ar T) (hr.mono (by decide)) rfl T.ao T.al.kp T.aw .nil pass0 (pa_cons (pe_op op_sub (pv 1) (pe_fld (pv 0) rfl)) (pa_cons pe_int pa_nil))))
      (pss_one (ps_ret (pe_call (aau T) (hr.mono (by decide)) rfl T.o1 T.iw.kp T.xl .nil pass0 (pa_cons (pe_call (aln T) (hr.mono (by decide)) rfl T.aam T.va.kp T.ag3 .nil pass0 (pa_cons (pv 2) (pa_cons (pe_fld (pv 0) rfl) pa_nil))) pa_nil))))), ?_⟩
    simp only [RD, List.replicate, List.set, Nat.reduceAdd, Nat.reduceSub, af hp T.aa T.lb ai3, af hp T.aa T.ki ahl]
    have h1 := ag1 (abv hy hb)
    exact ⟨⟨(abv hy hb).mono (by decide), by decide, au (by decide) (by decide)⟩, ⟨h1.mono (by decide), ha.mono (by decide), ha0⟩, (atu ha0 h1).mono (by decide), q⟩
def zh (g : Ql90.Gauge) (m : MR) (raw : Int) : MR := ⟨true, raw, mval (st g.a) (st g.b) raw, if m.has = true then msm (mval (st g.a) (st g.b) raw) m.smo (st g.w) else mval (st g.a) (st g.b) raw,
  if m.has = true then min m.lea (mval (st g.a) (st g.b) raw) else mval (st g.a) (st g.b) raw, if m.has = true then max m.gre (mval (st g.a) (st g.b) raw) else mval (st g.a) (st g.b) raw,
  afs m.state (mval (st g.a) (st g.b) raw) (st g.l0) (st g.l1) (st g.l2) (st g.l3) (st g.h)⟩
def lims (g : Ql90.Gauge) : HO := .lst [.int (st g.l0), .int (st g.l1), .int (st g.l2), .int (st g.l3)]
def atc (t : Ad) : Sp := fun vs H Q _ => ∃ (p dx lim tr : Addr) (g : Ql90.Gauge) (m : MR) (raw : Int) (xs : List Int), vs = [.ref p, .int raw] ∧ H p = some (.ins t.ac dx (gfs g lim tr m)) ∧ H tr = some (.lst (xs.map V.int)) ∧ H lim = some (lims g) ∧ lim ≠ tr ∧ xs.length ≤ 1000 ∧
  aed g ∧ raw.natAbs ≤ 2 ^ 64 ∧ (m.has = true → Sm 1300 m.smo) ∧
  ∀ H', H' p = some (.ins t.ac dx (gfs g lim tr (zh g m raw))) → H' tr = some (.lst ((mtr xs (msi (mval (st g.a) (st g.b) raw))).map V.int)) → (∀ b o, b ≠ p → b ≠ tr → H b = some o → H' b = some o) → Q .non H'
theorem uf : FnScope ["self", "number", "value"] ["self", "number"] (defScope cr) := ⟨rfl, rfl, rfl, by decide +kernel, rfl, by decide +kernel, by decide +kernel⟩
theorem aa2 (T : Txt K mg t) : FnOk P w K mg base CX0 6 t.ck t.cb ["self", "number"] (atc t) := by
  refine T.fg.ok uf (fun vs H Q E h => ?_) (fun cdv A outer s H vs Q E hr h => ?_)
  · obtain ⟨p, dx, lim, tr, g, m, raw, xs, rfl, _⟩ := h
    rfl
  · obtain ⟨p, dx, lim, tr, g, m, raw, xs, rfl, hp, htr, hlim, hlt, hl, hG, hraw, hsm, q⟩ := h
    refine ⟨_, (pss_cons (ps_set (i := 2) uf.nd rfl (Or.inl rfl) (pe_call (ar T) (hr.mono (by decide)) rfl T.ao T.al.kp T.aw .nil pass0 (pa_cons (pe_op op_add (pe_op qu (pe_fld (pv 0) rfl) (pe_call (aa7 T) (hr.mono (by decide)) rfl T.kq T.di.kp T.wl .nil pass0 (pa_cons (pv 1) pa_nil))) (pe_fld (pv 0) rfl)) (pa_cons pe_int pa_nil))))
      (pss_cons (ano (ps_if (pt_val (pe_fld (pv 0) rfl))
        (pss_cons (ps_expr (pe_meth (pv 0) T.aa T.ss (af7 T) (hr.mono (by decide)) T.abo .nil pass0 (pa_cons (pv 2) pa_nil)))
      (pss_cons (ps_fld (pv 0) (pe_callB (cMin rfl) (by rfl) T.ah2 acj (pa_cons (pe_fld (pv 0) rfl) (pa_cons (pv 2) pa_nil))) rfl)
      (pss_one (ps_fld (pv 0) (pe_callB (cMax rfl) (by rfl) T.aej wx (pa_cons (pe_fld (pv 0) rfl) (pa_cons (pv 2) pa_nil))) rfl))))
        (pss_cons (ps_fld (pv 0) (pv 2) rfl)
      (pss_cons (ps_fld (pv 0) (pv 2) rfl)
      (pss_one (ps_fld (pv 0) (pv 2) rfl))))))
      (pss_cons (ps_fld (pv 0) pe_bl rfl)
      (pss_cons (ps_fld (pv 0) (pv 1) rfl)
      (pss_cons (ps_fld (pv 0) (pv 2) rfl)
      (pss_cons (ps_expr (pe_meth (pv 0) T.aa T.kd (aa3 T) (hr.mono (by decide)) T.vt .nil pass0 (pa_cons (pe_call (aa8 T) (hr.mono (by decide)) rfl T.qm T.km.kp T.zc .nil pass0 (pa_cons (pv 2) pa_nil)) pa_nil)))
      (pss_one (ps_fld (pv 0) (pe_call (ag6 T) (hr.mono (by decide)) rfl T.vn T.m9.kp T.acs .nil pass0 (pa_cons (pe_fld (pv 0) rfl) (pa_cons (pv 2) (pa_cons (pe_fld (pv 0) rfl) (pa_cons (pe_fld (pv 0) rfl) pa_nil))))) rfl)))))))), ?_⟩
    simp only [RD, List.replicate, List.set, Nat.reduceAdd, Nat.reduceSub, af hp T.aa T.ki ahl, af hp T.aa T.lb ai3, af hp T.aa T.be xz]
    rw [show nd (st g.a * nd raw 1 53 + st g.b) 1 53 = mval (st g.a) (st g.b) raw from rfl]
    have hy : Yok (mval (st g.a) (st g.b) raw) := ak2 hG.a.bd hG.b.bd hraw
    have hpt : p ≠ tr := ne_of hp htr (by intro z; cases z)
    have hpl : p ≠ lim := ne_of hp hlim (by intro z; cases z)
    have hr1 : Sm 65 raw := abu hraw
    have hr2 : Sm 66 (nd raw 1 53) := ag1 hr1
    refine ⟨hr1.mono (by decide), ⟨hG.a.sm.mono (by decide), hr2.mono (by decide)⟩, ⟨(afk ((ajh hG.a.sm hr2).mono (show 1300 + 66 ≤ 1400 by decide)) (hG.b.sm.mono (by decide))).mono (by decide), by decide, au (by decide) (by decide)⟩, ?_⟩
    have hm : ∀ m', zh g m raw = m' → m' = ⟨true, raw, mval (st g.a) (st g.b) raw, m'.smo, m'.lea, m'.gre, afs m.state (mval (st g.a) (st g.b) raw) (st g.l0) (st g.l1) (st g.l2) (st g.l3) (st g.h)⟩ := fun m' e => by subst e; rfl
    have ln : ∀ m', (gfs g lim tr m').length < 1000 := fun m' => by show 17 < 1000; decide
    refine ⟨fun σ' H' => σ' = [some (.ref p), some (.int raw), some (.int (mval (st g.a) (st g.b) raw))] ∧ H' = upd H p (.ins t.ac dx (gfs g lim tr { m with smo := (zh g m raw).smo, lea := (zh g m raw).lea, gre := (zh g m raw).gre })), ?_, ?_⟩
    · unfold zh
      cases hh : m.has with
      | true =>
        simp only [if_true]
        rw [ax hp apa]
        refine ⟨p, dx, lim, tr, g, m, _, rfl, hp, hy.sm, hsm hh, hG.w.sm, ?_⟩
        simp only [fldU T.aa T.g9 alq, fldU T.aa T.cj afz, agn, ago, stoU T.aa T.g9 (ln _), stoU T.aa T.cj (ln _), ak0, af1]
        exact ⟨trivial, by rw [hh]⟩
      | false =>
        simp only [Bool.false_eq_true, if_false, wg hp T.aa T.cg (ln _), stoU T.aa T.g9 (ln _), stoU T.aa T.cj (ln _), ak0, af1, aft]
        exact ⟨trivial, by rw [hh]⟩
    · rintro σ' H' ⟨rfl, rfl⟩
      simp only [RD, List.replicate, List.set, Nat.reduceAdd, Nat.reduceSub, stoU T.aa T.be (ln _), stoU T.aa T.dm (ln _), stoU T.aa T.ia (ln _), ahq, ah0, aqp]
      rw [ax upd_same af6]
      refine ⟨hy.sm.mono (by decide), p, dx, lim, tr, g, _, _, xs, rfl, upd_same, by rw [upd_ne (Ne.symm hpt)]; exact htr, hl, ?_⟩
      dsimp only
      rw [af (show upd (upd H p _) tr _ p = some _ by rw [upd_ne hpt]; exact upd_same) T.aa T.cy abq]
      rw [af (show upd (upd H p _) tr _ p = some _ by rw [upd_ne hpt]; exact upd_same) T.aa T.oj aoc]
      rw [af (show upd (upd H p _) tr _ p = some _ by rw [upd_ne hpt]; exact upd_same) T.aa T.qo ard]
      refine ⟨m.state, _, lim, _, _, _, _, _, rfl, SqL.of (by rw [upd_ne hlt, upd_ne (Ne.symm hpl)]; exact hlim), hG.h.sm.mono (by decide), hG.l0.sm.mono (by decide), hG.l1.sm.mono (by decide), hG.l2.sm.mono (by decide), hG.l3.sm.mono (by decide), fun H5 hS5 => ?_⟩
      dsimp only
      rw [wg (hS5 p _ (by rw [upd_ne hpt]; exact upd_same)) T.aa T.cy (ln _), ap1]
      refine q _ upd_same ?_ fun b o h1 h2 e => ?_
      · rw [upd_ne (Ne.symm hpt)]
        exact hS5 _ _ upd_same
      · rw [upd_ne h1]
        exact hS5 _ _ (by rw [upd_ne h2, upd_ne h1]; exact e)
end
end GB
end

section
set_option Elab.async false
set_option maxRecDepth 100000
set_option maxHeartbeats 4000000
set_option linter.all false
set_option exponentiation.threshold 100
namespace GB
open PySem L2
theorem aow : bootBuiltins "sum" = some (.builtin "sum") := by decide +kernel
section
variable {P : Program} {w : World} {K : PySem.W.Frag} {mg : Str → Option Value} {base : Heap} {t : Ad}
theorem apu : FnScope ["first", "second"] ["first", "second"] (defScope ajx) := ⟨rfl, rfl, rfl, by decide +kernel, rfl, by decide +kernel, by decide +kernel⟩
theorem adu (T : Txt K mg t) : FnOk P w K mg base CX0 4 t.acd t.ab5 ["first", "second"] (sp2 (fun a b => Sm 3000 a ∧ Sm 3000 b) madd) := by
  refine T.wt.ok apu (fun vs H Q E h => ?_) (fun cdv A outer s H vs Q E hr h => ?_)
  · obtain ⟨a, b, rfl, _⟩ := h
    rfl
  · obtain ⟨a, b, rfl, ⟨ha, hb⟩, q⟩ := h
    refine ⟨_, (pss_one (ps_ret (pe_call (ar T) (hr.mono (by decide)) rfl T.ao T.al.kp T.aw .nil pass0 (pa_cons (pe_op op_add (pv 0) (pv 1)) (pa_cons pe_int pa_nil))))), ?_⟩
    simp only [RD, List.replicate, List.set, Nat.reduceAdd, Nat.reduceSub]
    exact ⟨⟨(afk ha hb).mono (by decide), by decide, au (by decide) (by decide)⟩, q⟩
def arv (K : PySem.W.Frag) : Sp := fun vs H Q _ => ∃ (a : Addr) (p0 p1 p2 p3 : Int), vs = [.ref a] ∧ SqL K H a [.int p0, .int p1, .int p2, .int p3] ∧ Sm 2900 p0 ∧ Sm 2900 p1 ∧ Sm 2900 p2 ∧ Sm 2900 p3 ∧ Q (.int (madd (madd p0 p1) (madd p2 p3))) H
theorem ank {a b : Int} {k : Nat} (ha : Sm k a) (hb : Sm k b) : Sm (k + 2) (madd a b) := by
  unfold madd
  exact ag1 (afk ha hb)
theorem aj8 : FnScope ["parts"] ["parts"] (defScope abg) := ⟨rfl, rfl, rfl, by decide +kernel, rfl, by decide +kernel, by decide +kernel⟩
theorem ad8 (T : Txt K mg t) : FnOk P w K mg base CX0 5 t.rk t.sd ["parts"] (arv K) := by
  refine T.oq.ok aj8 (fun vs H Q E h => ?_) (fun cdv A outer s H vs Q E hr h => ?_)
  · obtain ⟨a, p0, p1, p2, p3, rfl, _⟩ := h
    rfl
  · obtain ⟨a, p0, p1, p2, p3, rfl, hS, h0, h1, h2, h3, q⟩ := h
    refine ⟨_, (pss_one (ps_ret (pe_call (adu T) (hr.mono (by decide)) rfl T.aad T.wt.kp T.adn .nil pass0 (pa_cons (pe_call (adu T) (hr.mono (by decide)) rfl T.aad T.wt.kp T.adn .nil pass0 (pa_cons (pe_ix ix_list (pv 0) pe_int (fun _ _ => rfl)) (pa_cons (pe_ix ix_list (pv 0) pe_int (fun _ _ => rfl)) pa_nil))) (pa_cons (pe_call (adu T) (hr.mono (by decide)) rfl T.aad T.wt.kp T.adn .nil pass0 (pa_cons (pe_ix ix_list (pv 0) pe_int (fun _ _ => rfl)) (pa_cons (pe_ix ix_list (pv 0) pe_int (fun _ _ => rfl)) pa_nil))) pa_nil))))), ?_⟩
    simp only [RD, List.replicate, List.set, Nat.reduceAdd, Nat.reduceSub]
    refine ixL hS rfl (ixL hS rfl ?_)
    simp only [RD, List.replicate, List.set, Nat.reduceAdd, Nat.reduceSub]
    refine ⟨⟨h0.mono (by decide), h1.mono (by decide)⟩, ixL hS rfl (ixL hS rfl ?_)⟩
    simp only [RD, List.replicate, List.set, Nat.reduceAdd, Nat.reduceSub]
    exact ⟨⟨h2.mono (by decide), h3.mono (by decide)⟩, ⟨(ank h0 h1).mono (by decide), (ank h2 h3).mono (by decide)⟩, q⟩
def four (f : Int → Int → Int) (l : List Int) : List V := [.int (ku f 0 l 0), .int (ku f 0 l 1), .int (ku f 0 l 2), .int (ku f 0 l 3)]
theorem ai7 (f : Int → Int → Int) (l : List Int) (x : Int) : four f (l ++ [x]) = (four f l).set (l.length % 4) (.int (f (ku f 0 l (l.length % 4)) x)) := by
  unfold four
  simp only [x9]
  have h : l.length % 4 = 0 ∨ l.length % 4 = 1 ∨ l.length % 4 = 2 ∨ l.length % 4 = 3 := by omega
  rcases h with h | h | h | h <;> rw [h] <;> rfl
theorem anv (f : Int → Int → Int) (l : List Int) (n : Nat) : atI (four f l) ((n % 4 : Nat) : Int) = some (.int (ku f 0 l (n % 4))) := by
  have h : n % 4 = 0 ∨ n % 4 = 1 ∨ n % 4 = 2 ∨ n % 4 = 3 := by omega
  rcases h with h | h | h | h <;> rw [h] <;> rfl
theorem ako (f : Int → Int → Int) (l : List Int) (n : Nat) : ixN (four f l).length ((n % 4 : Nat) : Int) = some (n % 4) := by
  have h : n % 4 = 0 ∨ n % 4 = 1 ∨ n % 4 = 2 ∨ n % 4 = 3 := by omega
  rcases h with h | h | h | h <;> rw [h] <;> rfl
def at3 (K : PySem.W.Frag) : Sp := fun vs H Q _ => ∃ (a : Addr) (n0 : Int) (ns : List Int), vs = [.ref a] ∧ SqL K H a ((n0 :: ns).map V.int) ∧ (∀ x ∈ n0 :: ns, Yok x) ∧ (n0 :: ns).length ≤ 256 ∧
  ∀ l H', Same H H' → H l = none → H' l = some (.lst [.int (mall madd (n0 :: ns)), .int (mall msq (n0 :: ns)), .int (mmin n0 ns), .int (mmax n0 ns)]) → Q (.ref l) H'
theorem uo : FnScope ["numbers", "sums", "squares", "i", "number", "part"] ["numbers"] (defScope afg) := ⟨rfl, rfl, rfl, by decide +kernel, rfl, by decide +kernel, by decide +kernel⟩
theorem amt (T : Txt K mg t) : FnOk P w K mg base CX0 6 t.ww t.wy ["numbers"] (at3 K) := by
  refine T.xk.ok uo (fun vs H Q E h => ?_) (fun cdv A outer s H vs Q E hr h => ?_)
  · obtain ⟨a, n0, ns, rfl, _⟩ := h
    rfl
  · obtain ⟨a, n0, ns, rfl, hS, hy, hl, q⟩ := h
    refine ⟨_, (pss_cons (ps_set (i := 1) uo.nd rfl (Or.inl rfl) (pe_op op_rep (pe_lst (pa_cons pe_int pa_nil)) (ai T.acb rfl)))
      (pss_cons (ps_set (i := 2) uo.nd rfl (Or.inl rfl) (pe_op op_rep (pe_lst (pa_cons pe_int pa_nil)) (ai T.acb rfl)))
      (pss_cons (ps_for PassesOwn.never rfl (pi_enum rfl T.vp (pa_cons (pv 0) pa_nil)) (pg_tup (n := 2) rfl (pgs_cons (pg_name (i := 3) uo.nd rfl (Or.inl rfl)) (pgs_cons (pg_name (i := 4) uo.nd rfl (Or.inl rfl)) pgs_nil)))
        (pss_cons (ps_set (i := 5) uo.nd rfl (Or.inl rfl) (pe_op op_mod (pv 3) (ai T.acb rfl)))
      (pss_cons (ps_asg (pe_call (adu T) (hr.mono (by decide)) rfl T.aad T.wt.kp T.adn .nil pass0 (pa_cons (pe_ix ix_list (pv 1) (pv 5) (fun _ _ => rfl)) (pa_cons (pv 4) pa_nil))) (pg_sub (pv 1) (pv 5) set_list))
      (pss_one (ps_asg (pe_call (xr T) (hr.mono (by decide)) rfl T.j5 T.cz.kp T.tf .nil pass0 (pa_cons (pv 4) (pa_cons (pv 4) (pa_cons (pe_ix ix_list (pv 2) (pv 5) (fun _ _ => rfl)) pa_nil)))) (pg_sub (pv 2) (pv 5) set_list))))))
      (pss_one (ps_ret (pe_lst (pa_cons (pe_call (ad8 T) (hr.mono (by decide)) rfl T.vo T.oq.kp T.aby .nil pass0 (pa_cons (pv 1) pa_nil)) (pa_cons (pe_call (ad8 T) (hr.mono (by decide)) rfl T.vo T.oq.kp T.aby .nil pass0 (pa_cons (pv 2) pa_nil)) (pa_cons (pe_callB (cr_min rfl) (by rfl) T.ah2 acj (pa_cons (pv 0) pa_nil)) (pa_cons (pe_callB (cr_max rfl) (by rfl) T.aej wx (pa_cons (pv 0) pa_nil)) pa_nil)))))))))), ?_⟩
    simp only [RD, List.replicate, List.set, Nat.reduceAdd, Nat.reduceSub]
    refine ⟨by decide, fun p0 hp0 => ⟨p0, 4, _, rfl, rfl, upd_same, by decide, by decide, by decide, fun s1 hs1 => ⟨by decide, fun p1 hp1 => ⟨p1, 4, _, rfl, rfl, upd_same, by decide, by decide, by decide, fun s2 hs2 => ?_⟩⟩⟩⟩
    have S0 : Same H (upd H p0 (.lst [V.int 0])) := Same.new hp0
    have S1 := S0.trans (Same.new (o := .lst (List.replicate (Int.toNat 4) [V.int 0]).flatten) hs1)
    have S2 := S1.trans (Same.new (o := .lst [V.int 0]) hp1)
    have S3 := S2.trans (Same.new (o := .lst (List.replicate (Int.toNat 4) [V.int 0]).flatten) hs2)
    have n1 : H s1 = none := S0.free hs1
    have n2 : H s2 = none := S2.free hs2
    have e1 := (Same.new (o := .lst (List.replicate (Int.toNat 4) [V.int 0]).flatten) hs2) _ _ ((Same.new (o := .lst [V.int 0]) hp1) _ _ (upd_same (H := upd H p0 (.lst [V.int 0])) (a := s1) (o := .lst (List.replicate (Int.toNat 4) [V.int 0]).flatten)))
    have hs12 : s1 ≠ s2 := by
      intro e
      subst e
      have := (Same.new (o := .lst [V.int 0]) hp1) _ _ (upd_same (H := upd H p0 (.lst [V.int 0])) (a := s1) (o := .lst (List.replicate (Int.toNat 4) [V.int 0]).flatten))
      rw [this] at hs2
      cases hs2
    generalize hH3 : upd _ s2 _ = H3 at *
    have e2 : H3 s2 = some (.lst (four msq [])) := by rw [← hH3, upd_same]; rfl
    have e1 : H3 s1 = some (.lst (four madd [])) := e1
    clear hH3 hs1 hs2 hp0 hp1 S0 S1 S2
    have hx : ∀ (i : Nat) (x : V), ((n0 :: ns).map V.int)[i]? = some x → ∃ z, x = .int z ∧ Yok z ∧ (n0 :: ns).take (i + 1) = (n0 :: ns).take i ++ [z] ∧ ((n0 :: ns).take i).length = i := by
      intro i x hx
      obtain ⟨z, hz, rfl⟩ := getElem?_ints hx
      refine ⟨z, rfl, hy z (List.mem_of_getElem? hz), by rw [List.take_add_one, hz]; rfl, ?_⟩
      rw [List.length_take]
      have := (List.getElem?_eq_some_iff.mp hz).1
      omega
    have hyt : ∀ i, ∀ x ∈ (n0 :: ns).take i, Yok x := fun i x hx => hy x (List.mem_of_mem_take hx)
    have htl : ∀ i, ((n0 :: ns).take i).length ≤ 256 := fun i => by rw [List.length_take]; omega
    have sA : ∀ i j, Sm 2000 (ku madd 0 ((n0 :: ns).take i) j) := fun i j => (abu (abm _ (hyt i) (Nat.le_trans (htl i) (by decide)) j).2.2).mono (by have := htl i; omega)
    have sB : ∀ i j, Sm 2000 (ku msq 0 ((n0 :: ns).take i) j) := fun i j => (abu (adz _ (hyt i) (Nat.le_trans (htl i) (by decide)) j).2.2).mono (by have := htl i; omega)
    have eall : (n0 :: ns).take ((n0 :: ns).map V.int).length = n0 :: ns := by rw [List.length_map]; exact List.take_length
    refine forE (H1 := H3) (a := a) (xs := (n0 :: ns).map V.int) (fun R r => ?_) (S3.seq hS) (fun i σ H' => (∃ v3 v4 v5, σ = [some (.ref a), some (.ref s1), some (.ref s2), v3, v4, v5]) ∧ Same H H' ∧ H' s1 = some (.lst (four madd ((n0 :: ns).take i))) ∧ H' s2 = some (.lst (four msq ((n0 :: ns).take i))))
      ⟨⟨_, _, _, rfl⟩, S3, e1, e2⟩ (fun i σ H' _ h' => h'.2.1.seq hS) (fun i x σ H' H'' hxi h' hS' => ?_) (fun σ H' h' => ?_)
    · simp only [RD, List.replicate, List.set, Nat.reduceAdd, Nat.reduceSub]
      exact r
    · obtain ⟨⟨v3, v4, v5, rfl⟩, hA, hB, hC⟩ := h'
      obtain ⟨z, rfl, hz, ht, hti⟩ := hx i x hxi
      have hB := hS' _ _ hB
      have hC := hS' _ _ hC
      have hA := hA.trans hS'
      have ei : ((i : Int) % 4) = ((i % 4 : Nat) : Int) := by omega
      simp only [RD, List.replicate, List.set, Nat.reduceAdd, Nat.reduceSub, gSub, ei]
      refine ⟨by decide, ixL (SqL.of hB) (anv _ _ i) ?_⟩
      simp only [RD, List.replicate, List.set, Nat.reduceAdd, Nat.reduceSub]
      refine ⟨⟨(sA i _).mono (by decide), hz.sm.mono (by decide)⟩, s1, _, _, _, rfl, rfl, hB, ako _ _ i, ixL (SqL.of (by rw [upd_ne (Ne.symm hs12)]; exact hC)) (anv _ _ i) ?_⟩
      simp only [RD, List.replicate, List.set, Nat.reduceAdd, Nat.reduceSub]
      refine ⟨⟨hz.sm.mono (by decide), hz.sm.mono (by decide), (sB i _).mono (by decide)⟩, s2, _, _, _, rfl, rfl, by rw [upd_ne (Ne.symm hs12)]; exact hC, ako _ _ i, ⟨_, _, _, rfl⟩, fun b o e => ?_, ?_, ?_⟩
      · rw [upd_ne (ne_of_none e n2), upd_ne (ne_of_none e n1)]
        exact hA _ _ e
      · rw [upd_ne hs12, upd_same, ht, ai7, hti]
      · rw [upd_same, ht, ai7, hti]
        rfl
    · obtain ⟨⟨v3, v4, v5, rfl⟩, hA, hB, hC⟩ := h'
      have sA := fun j => sA ((n0 :: ns).map V.int).length j
      have sB := fun j => sB ((n0 :: ns).map V.int).length j
      rw [eall] at hB hC sA sB
      simp only [RD, List.replicate, List.set, Nat.reduceAdd, Nat.reduceSub]
      refine ⟨s1, _, _, _, _, rfl, SqL.of hB, (sA 0).mono (by decide), (sA 1).mono (by decide), (sA 2).mono (by decide), (sA 3).mono (by decide), s2, _, _, _, _, rfl, SqL.of hC, (sB 0).mono (by decide), (sB 1).mono (by decide), (sB 2).mono (by decide), (sB 3).mono (by decide), ?_⟩
      have m1 := afj ns n0
      have m2 := afd ns n0
      have hlen : 0 < (n0 :: ns).length := Nat.succ_pos _
      refine ⟨a, n0 :: ns, rfl, hA.seq hS, hlen, fun m hm hle => ?_⟩
      have em : m = mmin n0 ns := Int.le_antisymm (hle _ m1.1) (m1.2 _ hm)
      refine ⟨a, n0 :: ns, rfl, hA.seq hS, hlen, fun m' hm' hle' => ?_⟩
      have em' : m' = mmax n0 ns := Int.le_antisymm (m2.2 _ hm') (hle' _ m2.1)
      refine ⟨by show 4 ≤ sizeLine; decide, fun l hl' => q l _ (hA.trans (Same.new hl')) (hA.free hl') ?_⟩
      rw [upd_same, em, em']
      rfl
end
end GB
end

section
set_option Elab.async false
set_option maxRecDepth 100000
set_option maxHeartbeats 4000000
set_option linter.all false
set_option exponentiation.threshold 100
namespace GB
open PySem L2
section
variable {P : Program} {w : World} {K : PySem.W.Frag} {mg : Str → Option Value} {base : Heap} {t : Ad}
def rfs (a : Addr) (k : Nat) : List (Str × V) := [("calls", .ref a), ("at", .int (k : Int))]
theorem ahg {a : Addr} {k : Nat} : (rfs a k).lookup ("calls" : Str) = some (V.ref a) := rfl
theorem akj {a : Addr} {k : Nat} : (rfs a k).lookup ("at" : Str) = some (V.int (k : Int)) := rfl
theorem as3 {a : Addr} {k j : Nat} : putF "at" (.int (j : Int)) (rfs a k) = rfs a j := rfl
theorem app {a : Addr} {k : Nat} : (rfs a k).lookup ("take_number" : Str) = none := rfl
theorem aue {a : Addr} {k : Nat} : (rfs a k).lookup ("take_row" : Str) = none := rfl
theorem aus {a : Addr} {k : Nat} : (rfs a k).lookup ("has_more" : Str) = none := rfl
theorem aub {a : Addr} {k : Nat} : (rfs a k).lookup ("take_parts" : Str) = none := rfl
def ast (t : Ad) : Sp := fun vs H Q _ => ∃ (p dx a : Addr), vs = [.ref p, .ref a] ∧ H p = some (.ins t.ad dx []) ∧ Q .non (upd H p (.ins t.ad dx (rfs a 0)))
theorem acy : FnScope ["self", "calls"] ["self", "calls"] (defScope gk) := ⟨rfl, rfl, rfl, by decide +kernel, rfl, by decide +kernel, by decide +kernel⟩
theorem ac9 (T : Txt K mg t) : FnOk P w K mg base CX0 1 t.fq t.gl ["self", "calls"] (ast t) := by
  refine T.j9.ok acy (fun vs H Q E h => ?_) (fun cdv A outer s H vs Q E hr h => ?_)
  · obtain ⟨p, dx, a, rfl, _⟩ := h
    rfl
  · obtain ⟨p, dx, a, rfl, hp, q⟩ := h
    refine ⟨_, (pss_cons (ps_fld (pv 0) (pv 1) rfl)
      (pss_one (ps_fld (pv 0) pe_int rfl))), ?_⟩
    simp only [RD, List.replicate, List.set, Nat.reduceAdd, Nat.reduceSub, wg hp T.ak T.ca (by decide)]
    rw [stoU T.ak T.b9 (by have := length_putF "calls" (V.ref a) []; simp at this; omega)]
    exact q
def Rd1 (K : PySem.W.Frag) (t : Ad) (H : Hp) (p dx a : Addr) (cs : List Int) (k : Nat) : Prop := H p = some (.ins t.ad dx (rfs a k)) ∧ SqL K H a (cs.map V.int)
def att (K : PySem.W.Frag) (t : Ad) : Sp := fun vs H Q _ => ∃ (p dx a : Addr) (cs : List Int) (k : Nat), vs = [.ref p] ∧ Rd1 K t H p dx a cs k ∧ Q (.bl (decide (k < cs.length))) H
theorem aan : FnScope ["self"] ["self"] (defScope bz) := ⟨rfl, rfl, rfl, by decide +kernel, rfl, by decide +kernel, by decide +kernel⟩
theorem aao (T : Txt K mg t) : FnOk P w K mg base CX0 1 t.bq t.b3 ["self"] (att K t) := by
  refine T.dv.ok aan (fun vs H Q E h => ?_) (fun cdv A outer s H vs Q E hr h => ?_)
  · obtain ⟨p, dx, a, cs, k, rfl, _⟩ := h
    rfl
  · obtain ⟨p, dx, a, cs, k, rfl, ⟨hp, hS⟩, q⟩ := h
    refine ⟨_, (pss_one (ps_ret (pe_cmpR op_lt (pe_fld (pv 0) rfl) (pe_callB call_len_seq (by rfl) T.zr PySem.boot_len (pa_cons (pe_fld (pv 0) rfl) pa_nil)) (nomark _)))), ?_⟩
    simp only [RD, List.replicate, List.set, Nat.reduceAdd, Nat.reduceSub, af hp T.ak T.ca ahg, af hp T.ak T.b9 akj]
    refine ⟨a, _, rfl, .inl hS, ?_⟩
    simp only [RD, List.replicate, List.set, Nat.reduceAdd, Nat.reduceSub, List.length_map]
    have e : decide ((k : Int) < (cs.length : Int)) = decide (k < cs.length) := decide_eq_decide.mpr ⟨fun h => by omega, fun h => by omega⟩
    rw [e]
    exact q
def atz (K : PySem.W.Frag) (t : Ad) : Sp := fun vs H Q _ => ∃ (p dx a : Addr) (cs : List Int) (k : Nat) (z : Int), vs = [.ref p] ∧ Rd1 K t H p dx a cs k ∧ cs[k]? = some z ∧ Q (.int z) (upd H p (.ins t.ad dx (rfs a (k + 1))))
theorem SqL.ins {H : Hp} {p a C dx : Addr} {fs fs' : List (Str × V)} {xs : List V} (hp : H p = some (.ins C dx fs)) (h : SqL K H a xs) : SqL K (upd H p (.ins C dx fs')) a xs := by
  rcases h with h | h
  · left
    rcases h with h | ⟨o, h⟩
    · left
      rw [upd_ne (ne_of h hp (by intro z; cases z))]
      exact h
    · right
      refine ⟨o, ?_⟩
      rw [upd_ne (ne_of h hp (by intro z; cases z))]
      exact h
  · exact .inr h
theorem yd : FnScope ["self"] ["self"] (defScope bb) := ⟨rfl, rfl, rfl, by decide +kernel, rfl, by decide +kernel, by decide +kernel⟩
theorem ji (T : Txt K mg t) : FnOk P w K mg base CX0 1 t.az t.ay ["self"] (atz K t) := by
  refine T.b7.ok yd (fun vs H Q E h => ?_) (fun cdv A outer s H vs Q E hr h => ?_)
  · obtain ⟨p, dx, a, cs, k, z, rfl, _⟩ := h
    rfl
  · obtain ⟨p, dx, a, cs, k, z, rfl, ⟨hp, hS⟩, hz, q⟩ := h
    refine ⟨_, (pss_cons (ps_fldaug (pv 0) pe_int in_add)
      (pss_one (ps_ret (pe_ix ix_list (pe_fld (pv 0) rfl) (pe_op op_sub (pe_fld (pv 0) rfl) pe_int) (fun _ _ => rfl))))), ?_⟩
    simp only [RD, List.replicate, List.set, Nat.reduceAdd, Nat.reduceSub, ac0]
    refine ⟨p, _, dx, _, _, rfl, hp, T.ak, T.b9, akj, ?_⟩
    rw [abt]
    refine ⟨dx, _, hp, by show 2 < 1000; decide, ?_⟩
    rw [show ((k : Int) + 1) = ((k + 1 : Nat) : Int) from rfl, as3]
    simp only [fldU T.ak T.ca ahg, fldU T.ak T.b9 akj, RD, List.replicate, List.set, Nat.reduceAdd, Nat.reduceSub]
    rw [show (((k + 1 : Nat) : Int) - 1) = (k : Int) by omega]
    refine ixL (SqL.ins hp hS) (atI_nat (v := .int z) ?_) q
    rw [List.getElem?_map, hz]
    rfl
def at9 (K : PySem.W.Frag) (t : Ad) : Sp := fun vs H Q _ => ∃ (p dx a : Addr) (cs : List Int) (k n : Nat), vs = [.ref p] ∧ Rd1 K t H p dx a cs k ∧ cs[k]? = some (n : Int) ∧ k + 1 + n ≤ cs.length ∧
  ∀ l, H l = none → Q (.ref l) (upd (upd H p (.ins t.ad dx (rfs a (k + 1 + n)))) l (.lst (((cs.drop (k + 1)).take n).map V.int)))
theorem sn : FnScope ["self", "length"] ["self"] (defScope bo) := ⟨rfl, rfl, rfl, by decide +kernel, rfl, by decide +kernel, by decide +kernel⟩
theorem z9 (T : Txt K mg t) : FnOk P w K mg base CX0 2 t.bt t.b4 ["self"] (at9 K t) := by
  refine T.du.ok sn (fun vs H Q E h => ?_) (fun cdv A outer s H vs Q E hr h => ?_)
  · obtain ⟨p, dx, a, cs, k, n, rfl, _⟩ := h
    rfl
  · obtain ⟨p, dx, a, cs, k, n, rfl, ⟨hp, hS⟩, hz, hn, q⟩ := h
    refine ⟨_, (pss_cons (ps_set (i := 1) sn.nd rfl (Or.inl rfl) (pe_meth0 (pv 0) T.ak T.ba (ji T) (hr.mono (by decide)) T.fc .nil pass0))
      (pss_cons (ps_fldaug (pv 0) (pv 1) in_add)
      (pss_one (ps_ret (pe_slice sl_list (pe_fld (pv 0) rfl) (po_some (pe_op op_sub (pe_fld (pv 0) rfl) (pv 1))) (po_some (pe_fld (pv 0) rfl))))))), ?_⟩
    simp only [RD, List.replicate, List.set, Nat.reduceAdd, Nat.reduceSub, ac0, ax hp app]
    refine ⟨p, dx, a, cs, k, n, rfl, ⟨hp, hS⟩, hz, ?_⟩
    refine ⟨p, _, dx, _, _, rfl, upd_same, T.ak, T.b9, akj, ?_⟩
    rw [abt]
    refine ⟨dx, _, upd_same, by show 2 < 1000; decide, ?_⟩
    rw [show (((k + 1 : Nat) : Int) + (n : Int)) = ((k + 1 + n : Nat) : Int) from rfl, as3, upd_upd]
    simp only [fldU T.ak T.ca ahg, fldU T.ak T.b9 akj, RD, List.replicate, List.set, Nat.reduceAdd, Nat.reduceSub]
    rw [show (((k + 1 + n : Nat) : Int) - (n : Int)) = ((k + 1 : Nat) : Int) by omega]
    refine slL (SqL.ins hp hS) fun l hl => ?_
    rw [ak8 cs (by omega) (by omega), show k + 1 + n - (k + 1) = n by omega]
    refine q l ?_
    rw [upd_ne (fun e => by subst e; rw [upd_same] at hl; cases hl)] at hl
    exact hl
def encR (rows : List (List Int)) : List Int := rows.flatMap fun r => (r.length : Int) :: r
def Shp (num n r : Nat) : Prop := ([(0, 0), (3, 1), (2, 1), (2, 0), (2, 0), (1, 0), (2, 0), (1, 2), (0, 0), (1, 0), (0, 0), (2, 0), (2, 0), (1, 0)] : List (Int × Int))[num]? = some ((n : Int), (r : Int))
def Rows (H H' : Hp) (as : List Addr) (rows : List (List Int)) : Prop := as.length = rows.length ∧ ∀ (i : Nat) (a : Addr) (r : List Int), as[i]? = some a → rows[i]? = some r → H a = none ∧ H' a = some (.lst (r.map V.int))
def spTP (K : PySem.W.Frag) (t : Ad) : Sp := fun vs H Q _ => ∃ (p dx a : Addr) (cs : List Int) (k num n r : Nat) (nums : List Int) (rows : List (List Int)) (rest : List Int), vs = [.ref p, .int (num : Int)] ∧ Rd1 K t H p dx a cs k ∧ Shp num n r ∧ nums.length = n ∧ rows.length = r ∧ cs.drop k = nums ++ (encR rows ++ rest) ∧ n ≤ 100 ∧ r ≤ 100 ∧
  ∀ l as H', H l = none → Rows H H' as rows → H' l = some (.lst (nums.map V.int ++ as.map V.ref)) → H' p = some (.ins t.ad dx (rfs a (k + n + (encR rows).length))) → (∀ b o, b ≠ p → H b = some o → H' b = some o) → Q (.ref l) H'
theorem forR {H : Hp} {n j : Nat} {ta : TA} {tb : TS} {D : Ends} {σ : St} (hn : n < 2 ^ 60) (src : ∀ R : List V → Hp → Prop, R [.int n] H → ta σ H R) (Pv : Nat → St → Hp → Prop) (h0 : Pv 0 σ H)
    (hs : ∀ i σ H, i < n → Pv i σ H → tb { D with nx := Pv (i + 1), ct := Pv (i + 1), bk := D.nx } (σ.set j (some (.int i))) H) (hd : ∀ σ H, Pv n σ H → D.nx σ H) : tFor (iRng1 ta) (gName j) tb D σ H := by
  refine src _ ⟨(n : Int), rfl, by omega, by omega, ?_⟩
  rw [Int.toNat_natCast]
  refine for_range (lo := 0) (n := n) Pv h0 (fun i σ H hi h => ?_) hd
  have := hs i σ H hi h
  rw [Int.zero_add]
  exact this
def But (p : Addr) (H H' : Hp) : Prop := ∀ b o, b ≠ p → H b = some o → H' b = some o
theorem But.seq {H H' : Hp} {p a C dx : Addr} {fs : List (Str × V)} {xs : List V} (hp : H p = some (.ins C dx fs)) (k : But p H H') (h : SqL K H a xs) : SqL K H' a xs := by
  rcases h with h | h
  · left
    rcases h with h | ⟨o, h⟩
    · exact .inl (k _ _ (ne_of h hp (by intro z; cases z)) h)
    · exact .inr ⟨o, k _ _ (ne_of h hp (by intro z; cases z)) h⟩
  · exact .inr h
theorem ao5 (rows : List (List Int)) (r : List Int) : encR (rows ++ [r]) = encR rows ++ ((r.length : Int) :: r) := by
  unfold encR
  rw [List.flatMap_append]
  simp
theorem ahh {cs xs : List Int} {k : Nat} (h : cs.drop k = xs) (i : Nat) : cs[k + i]? = xs[i]? := by rw [← h, List.getElem?_drop]
theorem b8 : FnScope ["self", "number", "shape", "parts", "i"] ["self", "number"] (defScope bg) := ⟨rfl, rfl, rfl, by decide +kernel, rfl, by decide +kernel, by decide +kernel⟩
theorem yy (T : Txt K mg t) : FnOk P w K mg base CX0 3 t.bh t.bf ["self", "number"] (spTP K t) := by
  refine T.cv.ok b8 (fun vs H Q E h => ?_) (fun cdv A outer s H vs Q E hr h => ?_)
  · obtain ⟨p, dx, a, cs, k, num, n, r, nums, rows, rest, rfl, _⟩ := h
    rfl
  · obtain ⟨p, dx, a, cs, k, num, n, r, nums, rows, rest, rfl, ⟨hp, hS⟩, hsh, hn, hr', hcs, hn1, hr1, q⟩ := h
    refine ⟨_, (pss_cons (ps_set (i := 2) b8.nd rfl (Or.inl rfl) (pe_ix ix_tup (pe_glob (v := V.ref t.zo) rfl T.aef rfl) (pv 1) (fun _ _ => rfl)))
      (pss_cons (ps_set (i := 3) b8.nd rfl (Or.inl rfl) (pe_lst pa_nil))
      (pss_cons (ps_for PassesOwn.never rfl (pi_range1 rfl T.yn (pa_cons (pe_ix ix_tup (pv 2) pe_int (fun _ _ => rfl)) pa_nil)) (pg_name (i := 4) b8.nd rfl (Or.inl rfl))
        (pss_one (ps_expr (pe_bm PySem.F.plainAttrs_list PySem.F.slot_list_append PySem.F.type_list_append mt_append (pv 3) (pa_cons (pe_meth0 (pv 0) T.ak T.ba (ji T) (hr.mono (by decide)) T.fc .nil pass0) pa_nil)))))
      (pss_cons (ps_for PassesOwn.never rfl (pi_range1 rfl T.yn (pa_cons (pe_ix ix_tup (pv 2) pe_int (fun _ _ => rfl)) pa_nil)) (pg_name (i := 4) b8.nd rfl (Or.inl rfl))
        (pss_one (ps_expr (pe_bm PySem.F.plainAttrs_list PySem.F.slot_list_append PySem.F.type_list_append mt_append (pv 3) (pa_cons (pe_meth0 (pv 0) T.ak T.je (z9 T) (hr.mono (by decide)) T.ue .nil pass0) pa_nil)))))
      (pss_one (ps_ret (pv 3))))))), ?_⟩
    simp only [RD, List.replicate, List.set, Nat.reduceAdd, Nat.reduceSub]
    obtain ⟨sas, hsas, hslen, hsix⟩ := T.aeh
    obtain ⟨sp, hspi, hspT⟩ := hsix num n r hsh
    refine ixT (hsas H) (atI_nat (v := .ref sp) (by rw [List.getElem?_map, hspi]; rfl)) ?_
    refine ⟨by decide, fun l hl => ?_⟩
    have hlp : l ≠ p := fun e => by subst e; rw [hp] at hl; cases hl
    refine forR (n := n) (by omega) (fun R r' => ?_) (fun i σ H' => (∃ v4, σ = [some (.ref p), some (.int num), some (.ref sp), some (.ref l), v4]) ∧ H' p = some (.ins t.ad dx (rfs a (k + i))) ∧ H' l = some (.lst ((nums.take i).map V.int)) ∧ But p H H')
      ⟨⟨_, rfl⟩, by rw [upd_ne (Ne.symm hlp)]; exact hp, upd_same, fun b o _ e => Same.new hl b o e⟩ (fun i σ H' hi h' => ?_) (fun σ H' h' => ?_)
    · simp only [RD, List.replicate, List.set, Nat.reduceAdd, Nat.reduceSub]
      exact ixT (hspT _) rfl r'
    · obtain ⟨⟨v4, rfl⟩, hp', hl', hk'⟩ := h'
      have hi' : i < nums.length := by omega
      have hz : cs[k + i]? = some nums[i] := by rw [ahh hcs, List.getElem?_append_left hi', List.getElem?_eq_getElem hi']
      simp only [RD, List.replicate, List.set, Nat.reduceAdd, Nat.reduceSub, ax hp' app]
      refine ⟨.inl ⟨rfl, _, SqL.of hl'⟩, p, dx, a, cs, k + i, _, rfl, ⟨hp', hk'.seq hp hS⟩, hz, l, _, _, rfl, rfl, by rw [upd_ne hlp]; exact hl', ?_, ⟨_, rfl⟩, ?_, ?_, fun b o hb e => ?_⟩
      · rw [List.length_map, List.length_take, sizeLine_eq]
        omega
      · rw [upd_ne (Ne.symm hlp), upd_same]
        rfl
      · rw [upd_same, List.take_add_one, List.getElem?_eq_getElem hi', List.map_append]
        rfl
      · have hbl : b ≠ l := ne_of_none e hl
        rw [upd_ne hbl, upd_ne hb]
        exact hk' b o hb e
    · obtain ⟨⟨v4, rfl⟩, hp', hl', hk'⟩ := h'
      rw [← hn, List.take_length] at hl'
      simp only [tSeq]
      refine forR (n := r) (by omega) (fun R r' => ?_) (fun j σ H' => (∃ v4, σ = [some (.ref p), some (.int num), some (.ref sp), some (.ref l), v4]) ∧ H' p = some (.ins t.ad dx (rfs a (k + n + (encR (rows.take j)).length))) ∧ But p H H' ∧
          ∃ as : List Addr, as.length = j ∧ H' l = some (.lst (nums.map V.int ++ as.map V.ref)) ∧ ∀ (i : Nat) (a : Addr) (r : List Int), as[i]? = some a → rows[i]? = some r → H a = none ∧ a ≠ l ∧ a ≠ p ∧ H' a = some (.lst (r.map V.int)))
        ⟨⟨_, rfl⟩, hp', hk', [], rfl, by rw [List.map_nil, List.append_nil]; exact hl', fun i a r h => by simp at h⟩ (fun j σ H' hj h' => ?_) (fun σ H' h' => ?_)
      · simp only [RD, List.replicate, List.set, Nat.reduceAdd, Nat.reduceSub]
        exact ixT (hspT _) rfl r'
      · obtain ⟨⟨v4, rfl⟩, hp', hk', as, has, hl', hrows⟩ := h'
        have hj' : j < rows.length := by omega
        have ht : rows.take (j + 1) = rows.take j ++ [rows[j]] := by rw [List.take_add_one, List.getElem?_eq_getElem hj']; rfl
        have hsplit : rows = rows.take j ++ (rows[j] :: rows.drop (j + 1)) := by rw [List.getElem_cons_drop, List.take_append_drop]
        have hdr : cs.drop (k + n + (encR (rows.take j)).length) = ((rows[j].length : Int) :: rows[j]) ++ (encR (rows.drop (j + 1)) ++ rest) := by
          have e1 : encR rows = encR (rows.take j) ++ (((rows[j].length : Int) :: rows[j]) ++ encR (rows.drop (j + 1))) := by
            conv => lhs; rw [hsplit]
            unfold encR
            rw [List.flatMap_append, List.flatMap_cons]
          rw [Nat.add_assoc, ← List.drop_drop, hcs, ← hn, ← List.drop_drop, List.drop_left, e1, List.append_assoc, List.drop_left, List.append_assoc]
        have hz := ahh hdr 0
        rw [Nat.add_zero] at hz
        have hlen : k + n + (encR (rows.take j)).length + 1 + rows[j].length ≤ cs.length := by
          have := congrArg List.length hdr
          rw [List.length_drop, List.length_append, List.length_cons] at this
          omega
        have hrow : (cs.drop (k + n + (encR (rows.take j)).length + 1)).take rows[j].length = rows[j] := by
          rw [← List.drop_drop, hdr, List.cons_append, List.drop_one, List.tail_cons, List.take_left]
        simp only [RD, List.replicate, List.set, Nat.reduceAdd, Nat.reduceSub, ax hp' aue]
        refine ⟨.inl ⟨rfl, _, SqL.of hl'⟩, p, dx, a, cs, _, rows[j].length, rfl, ⟨hp', hk'.seq hp hS⟩, hz, hlen, fun l2 hl2 => ?_⟩
        have h2p : l2 ≠ p := fun e => by subst e; rw [hp'] at hl2; cases hl2
        have h2l : l2 ≠ l := fun e => by subst e; rw [hl'] at hl2; cases hl2
        have h2n : H l2 = none := by
          cases e : H l2 with
          | none => rfl
          | some o => rw [hk' l2 o h2p e] at hl2; cases hl2
        rw [hrow]
        refine ⟨l, _, _, rfl, rfl, by rw [upd_ne (Ne.symm h2l), upd_ne hlp]; exact hl', ?_, ⟨_, rfl⟩, ?_, fun b o hb e => ?_, as ++ [l2], ?_, ?_, fun i a' r'' h1 h2 => ?_⟩
        · rw [List.length_append, List.length_map, List.length_map, sizeLine_eq]
          omega
        · rw [upd_ne (Ne.symm hlp), upd_ne (Ne.symm h2p), upd_same, ht, ao5, List.length_append, List.length_cons]
          rw [show k + n + (encR (rows.take j)).length + 1 + rows[j].length = k + n + ((encR (rows.take j)).length + (rows[j].length + 1)) by omega]
        · rw [upd_ne (ne_of_none e hl), upd_ne (ne_of_none e h2n), upd_ne hb]
          exact hk' b o hb e
        · rw [List.length_append, has]
          rfl
        · rw [upd_same, List.map_append, List.append_assoc]
          rfl
        · rcases Nat.lt_or_ge i j with h | h
          · rw [List.getElem?_append_left (by omega)] at h1
            obtain ⟨x1, x2, x3, x4⟩ := hrows i a' r'' h1 h2
            refine ⟨x1, x2, x3, ?_⟩
            rw [upd_ne x2, upd_ne (fun e => by subst e; rw [x4] at hl2; cases hl2), upd_ne x3]
            exact x4
          · rw [List.getElem?_append_right (by omega)] at h1
            have hi0 : i = j := by
              have := (List.getElem?_eq_some_iff.mp h1).1
              simp at this
              omega
            subst hi0
            rw [has, Nat.sub_self] at h1
            obtain rfl : l2 = a' := Option.some.inj h1
            rw [List.getElem?_eq_getElem hj'] at h2
            obtain rfl := Option.some.inj h2
            refine ⟨h2n, h2l, h2p, ?_⟩
            rw [upd_ne h2l, upd_same]
      · obtain ⟨⟨v4, rfl⟩, hp', hk', as, has, hl', hrows⟩ := h'
        rw [← hr', List.take_length] at hp'
        simp only [RD, List.replicate, List.set, Nat.reduceAdd, Nat.reduceSub]
        exact q l as H' hl ⟨by omega, fun i a r h1 h2 => ⟨(hrows i a r h1 h2).1, (hrows i a r h1 h2).2.2.2⟩⟩ hl' hp' hk'
end
end GB
end

section
set_option Elab.async false
set_option maxRecDepth 100000
set_option maxHeartbeats 4000000
set_option linter.all false
set_option exponentiation.threshold 100
namespace GB
open PySem L2
section
variable {P : Program} {w : World} {K : PySem.W.Frag} {mg : Str → Option Value} {base : Heap} {t : Ad}
theorem anf {α β : Type} (p : α → Bool) (f : α → β) (l : List α) : l.filterMap (fun x => if p x = true then some (f x) else none) = (l.filter p).map f := by
  induction l with
  | nil => rfl
  | cons x r ih =>
    rw [List.filterMap_cons, List.filter_cons]
    cases p x with
    | true => simp [ih]
    | false => simp [ih]
theorem ox {H : Hp} {Q : VK} {i : Nat} {tl : TE} {tt : TT} {te : TE} {vs : List Nat} {σ : St} {a : Addr} {ks : List Nat} {f : Nat → V} {H1 : Hp} (hn : ks.length ≤ sizeLine) (out : Nat → Option V)
    (src : ∀ R : V → Hp → Prop, R (.ref a) H1 → tl σ H R) (hS : SqL K H1 a (ks.map f))
    (step : ∀ g, g ∈ ks → ∀ H', Same H1 H' → ∀ R : Option V → Hp → Prop, (∀ H'', Same H' H'' → R (out g) H'') → wipe ((wipe σ vs).set i (some (f g))) vs = wipe σ vs ∧ tt ((wipe σ vs).set i (some (f g))) H' fun b H3 => if b = true then te ((wipe σ vs).set i (some (f g))) H3 fun y H4 => R (some y) H4 else R none H3)
    (fin : ∀ D H', H1 D = none → Same H1 H' → H' D = some (.lst (ks.filterMap out)) → Q (.ref D) H') : tLc (iList K tl) (gName i) tt te vs σ H Q := by
  have eo : outs (fun j => (ks[j]?).bind out) ks.length = ks.filterMap out := by
    have h := aer (fun v => match v with | .int z => out z.toNat | _ => none) (ks.map fun (g : Nat) => V.int (g : Int))
    rw [List.length_map, List.filterMap_map] at h
    have e1 : ((fun v => match v with | V.int z => out z.toNat | _ => none) ∘ fun (g : Nat) => V.int (g : Int)) = out := by
      funext g
      show out ((g : Int).toNat) = out g
      rw [Int.toNat_natCast]
    rw [e1] at h
    rw [← h]
    congr 1
    funext j
    rw [List.getElem?_map]
    cases ks[j]? with
    | none => rfl
    | some g =>
      show out g = out ((g : Int).toNat)
      rw [Int.toNat_natCast]
  refine src _ ⟨a, rfl, ⟨ks.map f, hS⟩, ?_⟩
  have hget : ∀ j (hj : j < ks.length), (ks.map f)[j]? = some (f ks[j]) := fun j hj => by rw [List.getElem?_map, List.getElem?_eq_getElem hj]; rfl
  refine agl (J := Itl K a) ks.length hn (fun j => ((ks[j]?).map f).getD .non) (fun j => (ks[j]?).bind out) (fun j H' hj G => ⟨ks.map f, _, G.seq hS, hget j hj⟩) (fun H' G => ⟨ks.map f, G.seq hS, by rw [List.length_map]; exact Nat.le_refl _⟩) (fun j H' x H'' hj G y => ?_) (fun j H' hj G R r => ?_) (fun D H' hD hG => by rw [eo]; exact fin D H' hD hG)
  · obtain ⟨e1, y⟩ := y
    have := y _ (G.seq hS)
    rw [hget j hj] at this
    rw [List.getElem?_eq_getElem hj]
    exact ⟨(Option.some.inj this).symm, e1⟩
  · have hx : ks[j]? = some ks[j] := List.getElem?_eq_getElem hj
    rw [hx] at r ⊢
    exact step ks[j] (List.getElem_mem hj) H' G R r
def natV (l : List Nat) : List V := l.map fun (g : Nat) => V.int (g : Int)
def spIn : Sp := fun vs H Q _ => ∃ which : Int, vs = [.int which] ∧ B64 which ∧ ∀ l H', Same H H' → H l = none → H' l = some (.lst (natV (Ql90.those which.toNat))) → Q (.ref l) H'
theorem aaa : FnScope ["which", "g"] ["which"] (defScope yk) := ⟨rfl, rfl, rfl, by decide +kernel, rfl, by decide +kernel, by decide +kernel⟩
theorem wu (T : Txt K mg t) : FnOk P w K mg base CX0 1 t.rq t.r0 ["which"] spIn := by
  refine T.ke.ok aaa (fun vs H Q E h => ?_) (fun cdv A outer s H vs Q E hr h => ?_)
  · obtain ⟨wh, rfl, _⟩ := h
    rfl
  · obtain ⟨wh, rfl, hw, q⟩ := h
    refine ⟨_, (pss_one (ps_ret (pe_lc rfl aaa.nd (pi_range1 rfl T.yn (pa_cons (ai T.abh rfl) pa_nil)) (blkG (own := [("g", 1)]) (N := ["which", "g"]) (sc := defScope yk) rfl rfl rfl (by decide +kernel) (by decide +kernel) (by decide +kernel) (by decide +kernel)) (fun _ _ _ _ _ => pg_name (i := 1) aaa.nd rfl (Or.inl rfl)) (fun _ _ _ _ _ => (pts_one (pt_cmpR op_eq (pe_op op_mod (pe_op adw (pv 0) (pv 1)) pe_int) pe_int (nomark _)))) (fun _ _ _ _ _ => (pv 1))))), ?_⟩
    simp only [RD, List.replicate, List.set, Nat.reduceAdd, Nat.reduceSub]
    refine ajf (n := 64) (by rw [sizeLine_eq]; decide) (fun g => if wh.toNat.testBit g = true then some (.int g) else none) (fun R r => ?_) (fun j hj H' hH R r => ⟨rfl, ?_⟩) (fun D H' hD hH hl => ?_)
    · simp only [RD, List.replicate, List.set, Nat.reduceAdd, Nat.reduceSub]
      exact r
    · simp only [RD, List.replicate, List.set, Nat.reduceAdd, Nat.reduceSub, wipe, tYes, Int.toNat_natCast]
      have r := r H' (Same.refl _)
      rw [al5, show ((wh.toNat : Nat) : Int) = wh by have := hw.1; omega] at r
      refine ⟨by omega, by decide, ?_⟩
      by_cases h : wh / ((2 ^ j : Nat) : Int) % 2 = 1
      · rw [if_pos h]
        rw [if_pos (decide_eq_true h)] at r
        exact r
      · rw [if_neg h]
        rw [if_neg (by rw [decide_eq_false h]; exact Bool.false_ne_true)] at r
        exact r
    · rw [anf] at hl
      exact q D H' hH hD hl
theorem alf : FnScope ["g"] ["g"] (defScope adg) := ⟨rfl, rfl, rfl, by decide +kernel, rfl, by decide +kernel, by decide +kernel⟩
theorem yf (T : Txt K mg t) : FnOk P w K mg base CX0 1 t.vj t.vg ["g"] (spb (fun _ => True) fun g => decide (0 ≤ g) && decide (g < 64)) := by
  refine T.mo.ok alf (fun vs H Q E h => ?_) (fun cdv A outer s H vs Q E hr h => ?_)
  · obtain ⟨k, rfl, _⟩ := h
    rfl
  · obtain ⟨k, rfl, _, q⟩ := h
    refine ⟨_, (pss_one (ps_ret (pe_chain op_le op_lt pe_int (pv 0) (ai T.abh rfl)))), ?_⟩
    have q : Q (V.bl (decide (0 ≤ k) && decide (k < 64))) H := q
    simp only [RD, List.replicate, List.set, Nat.reduceAdd, Nat.reduceSub]
    by_cases h0 : 0 ≤ k
    · rw [if_pos h0]
      rw [decide_eq_true h0, Bool.true_and] at q
      exact q
    · rw [if_neg h0]
      rw [decide_eq_false h0, Bool.false_and] at q
      exact q
def ar7 (K : PySem.W.Frag) : Sp := fun vs H Q _ => ∃ (a : Addr) (ns : List Nat), vs = [.ref a] ∧ SqL K H a (natV ns) ∧ ns.length ≤ 64 ∧ (∀ g ∈ ns, g < 64) ∧ ∀ H', Same H H' → Q (.int (((ns.map fun (g : Nat) => 2 ^ g).sum : Nat) : Int)) H'
theorem apv (l : List Nat) : (l.map fun (x : Nat) => (x : Int)).sum = ((l.sum : Nat) : Int) := by
  induction l with
  | nil => rfl
  | cons x r ih => rw [List.map_cons, List.sum_cons, List.sum_cons, ih, Int.natCast_add]
theorem abp : FnScope ["numbers", "g"] ["numbers"] (defScope z7) := ⟨rfl, rfl, rfl, by decide +kernel, rfl, by decide +kernel, by decide +kernel⟩
theorem afv (T : Txt K mg t) : FnOk P w K mg base CX0 1 t.ug t.um ["numbers"] (ar7 K) := by
  refine T.rj.ok abp (fun vs H Q E h => ?_) (fun cdv A outer s H vs Q E hr h => ?_)
  · obtain ⟨a, ns, rfl, _⟩ := h
    rfl
  · obtain ⟨a, ns, rfl, hS, hl, hb, q⟩ := h
    refine ⟨_, (pss_one (ps_ret (pe_callB (cr_sum rfl) (by rfl) T.am8 aow (pa_cons (pe_lc rfl abp.nd (pi_list (pv 0)) (blkG (own := [("g", 1)]) (N := ["numbers", "g"]) (sc := defScope z7) rfl rfl rfl (by decide +kernel) (by decide +kernel) (by decide +kernel) (by decide +kernel)) (fun _ _ _ _ _ => pg_name (i := 1) abp.nd rfl (Or.inl rfl)) (fun _ _ _ _ _ => pts_nil) (fun _ _ _ _ _ => (pe_op fe pe_int (pv 1)))) pa_nil)))), ?_⟩
    simp only [RD, List.replicate, List.set, Nat.reduceAdd, Nat.reduceSub]
    refine ox (H1 := H) (a := a) (ks := ns) (f := fun g => .int (g : Int)) (by rw [sizeLine_eq]; omega) (fun g => some (.int ((2 ^ g : Nat) : Int))) (fun R r => ?_) hS (fun g hg H' hH R r => ⟨rfl, ?_⟩) (fun D H' hD hH hl' => ?_)
    · simp only [RD, List.replicate, List.set, Nat.reduceAdd, Nat.reduceSub]
      exact r
    · simp only [RD, List.replicate, List.set, Nat.reduceAdd, Nat.reduceSub, wipe, tYes, Int.toNat_natCast, Int.one_mul]
      have := hb g hg
      exact ⟨⟨au (by decide) (by decide), by omega, by omega⟩, r H' (Same.refl _)⟩
    · rw [am] at hl'
      refine ⟨D, ns.map fun (g : Nat) => ((2 ^ g : Nat) : Int), rfl, SqL.of (by rw [hl', List.map_map]; rfl), ?_⟩
      have e : (ns.map fun (g : Nat) => ((2 ^ g : Nat) : Int)).sum = (((ns.map fun (g : Nat) => 2 ^ g).sum : Nat) : Int) := by
        rw [← apv, List.map_map]
        rfl
      rw [e]
      exact q H' hH
def as1 (t : Ad) (H : Hp) (v : V) (s : Option Ql90.Seen) : Prop := (v = .non ∧ s = none) ∨ ∃ (p dx lim tr : Addr) (g : Ql90.Gauge) (m : MR), v = .ref p ∧ H p = some (.ins t.ac dx (gfs g lim tr m)) ∧ s = some ⟨m.last, DB m.val, DB m.smo, DB m.lea, DB m.gre⟩ ∧ Yok m.val ∧ Sok m.smo ∧ Yok m.lea ∧ Yok m.gre
def atw (t : Ad) : Sp := fun vs H Q _ => ∃ (v : V) (form : Nat) (s : Option Ql90.Seen), vs = [v, .int (form : Int)] ∧ form ≤ 4 ∧ as1 t H v s ∧ Q (.int (Ql90.told form s : Nat)) H
theorem auq (s : Ql90.Seen) : Ql90.told 0 (some s) = s.y := rfl
theorem aui (s : Ql90.Seen) : Ql90.told 1 (some s) = Ql90.single s.y := rfl
theorem auh (s : Ql90.Seen) : Ql90.told 2 (some s) = s.s := rfl
theorem at7 (s : Ql90.Seen) : Ql90.told 3 (some s) = s.lo := rfl
theorem aun (s : Ql90.Seen) : Ql90.told 4 (some s) = s.hi := rfl
theorem art : FnScope ["gauge", "form"] ["gauge", "form"] (defScope amm) := ⟨rfl, rfl, rfl, by decide +kernel, rfl, by decide +kernel, by decide +kernel⟩
theorem aso (T : Txt K mg t) : FnOk P w K mg base CX0 4 t.aet t.aeu ["gauge", "form"] (atw t) := by
  refine T.aex.ok art (fun vs H Q E h => ?_) (fun cdv A outer s H vs Q E hr h => ?_)
  · obtain ⟨v, form, s, rfl, _⟩ := h
    rfl
  · obtain ⟨v, form, s', rfl, hf, hv, q⟩ := h
    refine ⟨_, (pss_cons (ps_if (pt_cmpR op_isN (pv 0) pe_non (nomark _))
        (pss_one (ps_ret (pe_ifExp (pt_cmpR op_eq (pv 1) pe_int (nomark _)) (ai T.yi rfl) (ai T.yt rfl))))
        pss_nil)
      (pss_cons (ps_if (pt_cmpR op_eq (pv 1) pe_int (nomark _))
        (pss_one (ps_ret (pe_call (lr T) (hr.mono (by decide)) rfl T.fb T.b6.kp T.kl .nil pass0 (pa_cons (pe_fld (pv 0) rfl) pa_nil))))
        pss_nil)
      (pss_cons (ps_if (pt_cmpR op_eq (pv 1) pe_int (nomark _))
        (pss_one (ps_ret (pe_call (abz T) (hr.mono (by decide)) rfl T.qp T.kj.kp T.zb .nil pass0 (pa_cons (pe_call (aa8 T) (hr.mono (by decide)) rfl T.qm T.km.kp T.zc .nil pass0 (pa_cons (pe_fld (pv 0) rfl) pa_nil)) pa_nil))))
        pss_nil)
      (pss_cons (ps_if (pt_cmpR op_eq (pv 1) pe_int (nomark _))
        (pss_one (ps_ret (pe_call (lr T) (hr.mono (by decide)) rfl T.fb T.b6.kp T.kl .nil pass0 (pa_cons (pe_fld (pv 0) rfl) pa_nil))))
        pss_nil)
      (pss_cons (ps_if (pt_cmpR op_eq (pv 1) pe_int (nomark _))
        (pss_one (ps_ret (pe_call (lr T) (hr.mono (by decide)) rfl T.fb T.b6.kp T.kl .nil pass0 (pa_cons (pe_fld (pv 0) rfl) pa_nil))))
        pss_nil)
      (pss_one (ps_ret (pe_call (lr T) (hr.mono (by decide)) rfl T.fb T.b6.kp T.kl .nil pass0 (pa_cons (pe_fld (pv 0) rfl) pa_nil))))))))), ?_⟩
    simp only [RD, List.replicate, List.set, Nat.reduceAdd, Nat.reduceSub]
    have hf' : form = 0 ∨ form = 1 ∨ form = 2 ∨ form = 3 ∨ form = 4 := by omega
    rcases hv with ⟨rfl, rfl⟩ | ⟨p, dx, lim, tr, g, m, rfl, hp, rfl, y1, y2, y3, y4⟩
    · simp only [true_and]
      rcases hf' with rfl | rfl | rfl | rfl | rfl <;> exact q
    · simp only [RD, List.replicate, List.set, Nat.reduceAdd, Nat.reduceSub, true_and, reduceCtorEq, af hp T.aa T.ia agy, af hp T.aa T.cg af3, af hp T.aa T.g9 alq, af hp T.aa T.cj afz, if_false]
      have e1 := ag5 y1
      rcases hf' with rfl | rfl | rfl | rfl | rfl
      · rw [auq] at q
        rw [if_pos (by decide)]
        exact ⟨y1.sm.mono (by decide), q⟩
      · rw [aui, e1] at q
        rw [if_neg (by decide), if_pos (by decide)]
        exact ⟨y1.sm.mono (by decide), (abu (amp y1).bd).mono (by decide), q⟩
      · rw [auh] at q
        rw [if_neg (by decide), if_neg (by decide), if_pos (by decide)]
        exact ⟨y2.sm.mono (by decide), q⟩
      · rw [at7] at q
        rw [if_neg (by decide), if_neg (by decide), if_neg (by decide), if_pos (by decide)]
        exact ⟨y3.sm.mono (by decide), q⟩
      · rw [aun] at q
        rw [if_neg (by decide), if_neg (by decide), if_neg (by decide), if_neg (by decide)]
        exact ⟨y4.sm.mono (by decide), q⟩
end
end GB
end

section
set_option Elab.async false
set_option maxRecDepth 100000
set_option maxHeartbeats 4000000
set_option linter.all false
set_option exponentiation.threshold 100
namespace GB
open PySem L2
section
variable {P : Program} {w : World} {K : PySem.W.Frag} {mg : Str → Option Value} {base : Heap} {t : Ad}
def isR : V → Bool
  | .non => false
  | _ => true
def ai5 (K : PySem.W.Frag) : Sp := fun vs H Q _ => ∃ (a n : Addr) (ks : List Nat) (f : Nat → V) (ns : List V), vs = [.ref a, .ref n] ∧ SqL K H a (ks.map f) ∧ H n = some (.lst ns) ∧ ks.length ≤ 64 ∧ ns.length ≤ 64 ∧
  ∀ l H', Same H H' → H l = none → H' l = some (.lst (.int ((ks.filter fun g => isR (f g)).length : Nat) :: ns)) → Q (.ref l) H'
theorem ar0 (v : V) : (!decide (v = V.non)) = isR v := by cases v <;> rfl
theorem acx : FnScope ["gauges", "numbers", "gauge"] ["gauges", "numbers"] (defScope ab8) := ⟨rfl, rfl, rfl, by decide +kernel, rfl, by decide +kernel, by decide +kernel⟩
theorem ahm (T : Txt K mg t) : FnOk P w K mg base CX0 1 t.xh t.xb ["gauges", "numbers"] (ai5 K) := by
  refine T.vf.ok acx (fun vs H Q E h => ?_) (fun cdv A outer s H vs Q E hr h => ?_)
  · obtain ⟨a, n, ks, f, ns, rfl, _⟩ := h
    rfl
  · obtain ⟨a, n, ks, f, ns, rfl, hS, hn, hk, hz, q⟩ := h
    refine ⟨_, (pss_one (ps_ret (pe_op op_cat (pe_lst (pa_cons (pe_callB call_len_seq (by rfl) T.zr PySem.boot_len (pa_cons (pe_lc rfl acx.nd (pi_list (pv 0)) (blkG (own := [("gauge", 2)]) (N := ["gauges", "numbers", "gauge"]) (sc := defScope ab8) rfl rfl rfl (by decide +kernel) (by decide +kernel) (by decide +kernel) (by decide +kernel)) (fun _ _ _ _ _ => pg_name (i := 2) acx.nd rfl (Or.inl rfl)) (fun _ _ _ _ _ => (pts_one (pt_cmpR op_notN (pv 2) pe_non (nomark _)))) (fun _ _ _ _ _ => (pv 2))) pa_nil)) pa_nil)) (pv 1)))), ?_⟩
    simp only [RD, List.replicate, List.set, Nat.reduceAdd, Nat.reduceSub]
    refine ox (H1 := H) (a := a) (ks := ks) (f := f) (by rw [sizeLine_eq]; omega) (fun g => if isR (f g) = true then some (f g) else none) (fun R r => ?_) hS (fun g hg H' hH R r => ⟨rfl, ?_⟩) (fun D H' hD hH hl' => ?_)
    · simp only [RD, List.replicate, List.set, Nat.reduceAdd, Nat.reduceSub]
      exact r
    · simp only [RD, List.replicate, List.set, Nat.reduceAdd, Nat.reduceSub, wipe, tYes, true_and, ar0]
      have r := r H' (Same.refl _)
      cases e : isR (f g) with
      | true =>
        rw [if_pos rfl]
        rw [e, if_pos rfl] at r
        exact r
      | false =>
        rw [if_neg (by simp)]
        rw [e, if_neg (by simp)] at r
        exact r
    · rw [anf] at hl'
      refine ⟨D, _, rfl, .inl (SqL.of hl'), ?_⟩
      refine ⟨by decide, fun l hl => ⟨l, n, _, ns, rfl, rfl, upd_same, ?_, ?_, fun l2 hl2 => ?_⟩⟩
      · rw [upd_ne (ne_of_none (hH _ _ hn) hl)]
        exact hH _ _ hn
      · rw [sizeLine_eq, List.length_singleton]
        omega
      · refine q l2 _ (hH.trans ((Same.new hl).trans (Same.new hl2))) (hH.free ((Same.new hl).free hl2)) ?_
        rw [upd_same, List.length_map]
        rfl
def spBF (t : Ad) : Sp := fun vs H Q _ => ∃ (p dx lim tr : Addr) (g : Ql90.Gauge) (m : MR) (y : Int), vs = [.ref p, .int y] ∧ H p = some (.ins t.ac dx (gfs g lim tr m)) ∧ aed g ∧ st g.a ≠ 0 ∧ B64 y ∧ Ql90.fair y.toNat = true ∧
  ∀ l H', Same H H' → H l = none → H' l = some (.lst (.int (if hold (acp (st y.toNat) (st g.b) (st g.a)) g.kind = acp (st y.toNat) (st g.b) (st g.a) then 0 else 1) :: (qv (hold (acp (st y.toNat) (st g.b) (st g.a)) g.kind) g.kind).map V.int)) → Q (.ref l) H'
theorem ab3 (z : Int) (k : Nat) : (qv z k).length = wd k := by
  unfold qv yb
  split
  · rw [List.length_reverse, List.length_map, List.length_range]
  · rw [List.length_map, List.length_range]
theorem z5 : FnScope ["gauge", "y", "asked", "sent"] ["gauge", "y"] (defScope aa9) := ⟨rfl, rfl, rfl, by decide +kernel, rfl, by decide +kernel, by decide +kernel⟩
theorem ad9 (T : Txt K mg t) : FnOk P w K mg base CX0 6 t.se t.r8 ["gauge", "y"] (spBF t) := by
  refine T.o5.ok z5 (fun vs H Q E h => ?_) (fun cdv A outer s H vs Q E hr h => ?_)
  · obtain ⟨p, dx, lim, tr, g, m, y, rfl, _⟩ := h
    rfl
  · obtain ⟨p, dx, lim, tr, g, m, y, rfl, hp, hG, ha, hy, hf, q⟩ := h
    refine ⟨_, (pss_cons (ps_set (i := 2) z5.nd rfl (Or.inl rfl) (pe_meth (pv 0) T.aa T.mq (ack T) (hr.mono (by decide)) T.xq .nil pass0 (pa_cons (pe_call (aba T) (hr.mono (by decide)) rfl T.uz T.o4.kp T.aaj .nil pass0 (pa_cons (pv 1) pa_nil)) pa_nil)))
      (pss_cons (ps_set (i := 3) z5.nd rfl (Or.inl rfl) (pe_call (ajy T) (hr.mono (by decide)) rfl T.afb T.abx.kp T.aj0 .nil pass0 (pa_cons (pv 2) (pa_cons (pe_fld (pv 0) rfl) pa_nil))))
      (pss_one (ps_ret (pe_op op_cat (pe_lst (pa_cons (pe_ifExp (pt_cmpR op_eq (pv 3) (pv 2) (nomark _)) pe_int pe_int) pa_nil)) (pe_call (akt T) (hr.mono (by decide)) rfl T.aab T.ve.kp T.ahb .nil pass0 (pa_cons (pv 3) (pa_cons (pe_fld (pv 0) rfl) pa_nil)))))))), ?_⟩
    simp only [RD, List.replicate, List.set, Nat.reduceAdd, Nat.reduceSub, ax hp aig]
    have hfl := ang (y := y.toNat) (by have := hy.1; have := hy.2; omega) hf
    refine ⟨hy, p, dx, lim, tr, g, m, _, rfl, hp, Nat.lt_of_lt_of_le hfl (Nat.pow_le_pow_right (by decide) (by decide)), hG.b.sm, hG.a.sm, ha, ?_⟩
    simp only [RD, List.replicate, List.set, Nat.reduceAdd, Nat.reduceSub, af hp T.aa T.g6 ads, Int.toNat_natCast]
    refine ⟨Int.natCast_nonneg _, ?_⟩
    have q := q
    generalize acp (st y.toNat) (st g.b) (st g.a) = asked at q ⊢
    have hw := ab3 (hold asked g.kind) g.kind
    have hw8 := adm g.kind
    have fin : ∀ z : Int, z = (if hold asked g.kind = asked then 0 else 1) → ∀ l, H l = none → Fld K "kind" (.ref p) (upd H l (.lst [.int z])) fun x H1 => anu [.int (hold asked g.kind), x] H1 (fun y H2 => rCat (.ref l) y H2 Q) E0 := by
      intro z hz l hl
      have hp' : upd H l (.lst [.int z]) p = some (.ins t.ac dx (gfs g lim tr m)) := Same.new hl _ _ hp
      rw [af hp' T.aa T.g6 ads]
      refine ⟨_, g.kind, rfl, fun l2 H2 hS2 hn2 hl2 => ⟨l, l2, _, _, rfl, rfl, hS2 _ _ upd_same, hl2, ?_, fun l3 hl3 => ?_⟩⟩
      · rw [List.length_map, hw, sizeLine_eq, List.length_singleton]
        omega
      · refine q l3 _ (((Same.new hl).trans hS2).trans (Same.new hl3)) (((Same.new hl).trans hS2).free hl3) ?_
        rw [upd_same, hz]
        rfl
    by_cases h : hold asked g.kind = asked
    · rw [if_pos h]
      exact ⟨by decide, fun l hl => fin 0 (by rw [if_pos h]) l hl⟩
    · rw [if_neg h]
      exact ⟨by decide, fun l hl => fin 1 (by rw [if_neg h]) l hl⟩
end
end GB
end

section
set_option Elab.async false
set_option maxRecDepth 100000
set_option maxHeartbeats 4000000
set_option linter.all false
set_option exponentiation.threshold 100
namespace GB
open PySem L2
inductive Role where
  | board | dict | evs | gau (g : Nat) | tra (g : Nat) | lim (g : Nat)
structure wb (x : Ql90.Slot) (m : MR) (xs : List Int) : Prop where
  good : aed x.g
  kind : x.g.kind ≤ 15
  place : x.g.place + wd x.g.kind ≤ 1024
  state : x.state = m.state
  seen : x.seen = if m.has = true then some ⟨m.last, DB m.val, DB m.smo, DB m.lea, DB m.gre⟩ else none
  vals : m.has = true → Yok m.val ∧ Sok m.smo ∧ Yok m.lea ∧ Yok m.gre
  trace : x.trace = xs.map SB
  toks : ∀ z ∈ xs, Tok' z
  len : xs.length ≤ 256
  st4 : m.state ≤ 4
structure Lay where
  d : Addr
  e : Addr
  bx : Addr
  ks : List Nat
  po : Nat → Addr
  tr : Nat → Addr
  lim : Nat → Addr
  dx : Nat → Addr
  ms : Nat → MR
  xs : Nat → List Int
  ea : List Addr
def bfs (d e : Addr) (lost : Nat) : List (Str × V) := [("gauges", .ref d), ("events", .ref e), ("lost", .int (lost : Int))]
theorem ft {d e : Addr} {n : Nat} : (bfs d e n).lookup ("gauges" : Str) = some (V.ref d) := rfl
theorem ab7 {d e : Addr} {n : Nat} : (bfs d e n).lookup ("events" : Str) = some (V.ref e) := rfl
theorem anl {d e : Addr} {n : Nat} : (bfs d e n).lookup ("lost" : Str) = some (V.int (n : Int)) := rfl
theorem aol {d e e' : Addr} {n : Nat} : putF "events" (.ref e') (bfs d e n) = bfs d e' n := rfl
theorem asf {d e : Addr} {n k : Nat} : putF "lost" (.int (k : Int)) (bfs d e n) = bfs d e k := rfl
def evV (e : Ql90.Event) : List V := [.int (e.time : Int), .int (e.value : Int), .int ((e.g : Int) + 256 * (e.old : Int) + 65536 * (e.now : Int))]
structure GRep (t : Ad) (H : Hp) (L : Lay) (g : Nat) (x : Ql90.Slot) : Prop where
  ok : wb x (L.ms g) (L.xs g)
  hp : H (L.po g) = some (.ins t.ac (L.dx g) (gfs x.g (L.lim g) (L.tr g) (L.ms g)))
  hl : H (L.lim g) = some (lims x.g)
  ht : H (L.tr g) = some (.lst ((L.xs g).map V.int))
structure BRep (t : Ad) (H : Hp) (ρ : Addr → Option Role) (B : Addr) (b : Ql90.Board) (L : Lay) : Prop where
  hB : H B = some (.ins t.ah L.bx (bfs L.d L.e b.lost))
  hd : H L.d = some (.dK (gkv L.ks fun g => .ref (L.po g)))
  he : H L.e = some (.lst (L.ea.map V.ref))
  ev : L.ea.length = b.events.length ∧ ∀ (i : Nat) (a : Addr) (e : Ql90.Event), L.ea[i]? = some a → b.events[i]? = some e → H a = some (.tup (evV e))
  evl : b.events.length ≤ 256
  nd : L.ks.Nodup
  len : b.slots.length = 64
  mem : ∀ g, g ∈ L.ks ↔ (b.at_ g).isSome = true
  gau : ∀ g x, b.at_ g = some x → GRep t H L g x
  rg : ∀ g ∈ L.ks, ρ (L.po g) = some (.gau g) ∧ ρ (L.lim g) = some (.lim g) ∧ ρ (L.tr g) = some (.tra g)
  rB : ρ B = some .board
  rd : ρ L.d = some .dict
  re : ρ L.e = some .evs
theorem auf {b : Ql90.Board} (h : b.slots.length = 64) {g : Nat} (hg : (b.at_ g).isSome = true) : g < 64 := by
  unfold Ql90.Board.at_ at hg
  cases e : b.slots[g]? with
  | none => rw [e] at hg; cases hg
  | some o =>
    have := (List.getElem?_eq_some_iff.mp e).1
    omega
section
variable {K : PySem.W.Frag} {t : Ad} {H H' : Hp} {ρ : Addr → Option Role} {B : Addr} {b : Ql90.Board} {L : Lay}
theorem BRep.lt (R : BRep t H ρ B b L) {g : Nat} (h : g ∈ L.ks) : g < 64 := auf R.len ((R.mem g).mp h)
theorem aq4 {l : List Nat} (h : l.Nodup) (hb : ∀ g ∈ l, g < 64) : l.length ≤ 64 := by
  have := ai4 l (List.range 64) h fun g hg => List.mem_range.mpr (hb g hg)
  rw [List.length_range] at this
  exact this
theorem BRep.klen (R : BRep t H ρ B b L) : L.ks.length ≤ 64 := aq4 R.nd fun g hg => R.lt hg
theorem BRep.mono (R : BRep t H ρ B b L) (h : ∀ a o, H a = some o → (ρ a).isSome = true ∨ (∃ xs, o = .tup xs) → H' a = some o) : BRep t H' ρ B b L := by
  refine ⟨h _ _ R.hB (.inl (by rw [R.rB]; rfl)), h _ _ R.hd (.inl (by rw [R.rd]; rfl)), h _ _ R.he (.inl (by rw [R.re]; rfl)), ⟨R.ev.1, fun i a e h1 h2 => h _ _ (R.ev.2 i a e h1 h2) (.inr ⟨_, rfl⟩)⟩, R.evl, R.nd, R.len, R.mem, fun g x hx => ?_, R.rg, R.rB, R.rd, R.re⟩
  have G := R.gau g x hx
  obtain ⟨r1, r2, r3⟩ := R.rg g ((R.mem g).mpr (by rw [hx]; rfl))
  exact ⟨G.ok, h _ _ G.hp (.inl (by rw [r1]; rfl)), h _ _ G.hl (.inl (by rw [r2]; rfl)), h _ _ G.ht (.inl (by rw [r3]; rfl))⟩
theorem BRep.same (R : BRep t H ρ B b L) (h : Same H H') : BRep t H' ρ B b L := R.mono fun a o e _ => h a o e
theorem adl (ks : List Nat) (f : Nat → V) (g : Nat) : valV (gkv ks f) (Sum.inl (g : Int)) = if g ∈ ks then some (f g) else none := by
  induction ks with
  | nil => rfl
  | cons k r ih =>
    show valV (((Sum.inl (k : Int) : Key), f k) :: gkv r f) (Sum.inl (g : Int)) = _
    by_cases h : k = g
    · subst h
      rw [valV_pos rfl, if_pos (List.mem_cons_self ..)]
    · rw [valV_neg (fun e => h (by have := Sum.inl.inj e; omega)), ih]
      by_cases h2 : g ∈ r
      · rw [if_pos h2, if_pos (List.mem_cons_of_mem _ h2)]
      · rw [if_neg h2, if_neg (fun h3 => (List.mem_cons.mp h3).elim (fun e => h e.symm) h2)]
theorem BRep.get (R : BRep t H ρ B b L) (g : Nat) : DGet H L.d (.int (g : Int)) (if g ∈ L.ks then some (.ref (L.po g)) else none) := by
  have := DGet.k (k := Sum.inl (g : Int)) R.hd
  rw [adl] at this
  exact this
theorem BRep.isD (R : BRep t H ρ B b L) : IsD H L.d := .inl ⟨_, .inl R.hd⟩
theorem BRep.slot (R : BRep t H ρ B b L) {g : Nat} (h : g ∈ L.ks) : ∃ x, b.at_ g = some x ∧ GRep t H L g x := by
  have := (R.mem g).mp h
  cases e : b.at_ g with
  | none => rw [e] at this; cases this
  | some x => exact ⟨x, rfl, R.gau g x e⟩
theorem BRep.none (R : BRep t H ρ B b L) {g : Nat} (h : ¬ g ∈ L.ks) : b.at_ g = none := by
  cases e : b.at_ g with
  | none => rfl
  | some x => exact absurd ((R.mem g).mpr (by rw [e]; rfl)) h
end
theorem ap7 {K : PySem.W.Frag} {H : Hp} {Q : VK} {tl : TE} {g : TG} {tt : TT} {te : TE} {vs : List Nat} {σ : St} (h : tl σ H fun x H1 => tLc (iList K (tC x)) g tt te vs σ H1 Q) : tLc (iList K tl) g tt te vs σ H Q := h
section
variable {P : Program} {w : World} {K : PySem.W.Frag} {mg : Str → Option Value} {base : Heap} {t : Ad}
def anw (t : Ad) : Sp := fun vs H Q _ => ∃ (p dx : Addr), vs = [.ref p] ∧ H p = some (.ins t.ah dx []) ∧ ∀ d e H', H d = none → H e = none → d ≠ e → H' p = some (.ins t.ah dx (bfs d e 0)) → H' d = some (.dK []) → H' e = some (.lst []) → (∀ b o, b ≠ p → H b = some o → H' b = some o) → Q .non H'
theorem aij : FnScope ["self"] ["self"] (defScope pb) := ⟨rfl, rfl, rfl, by decide +kernel, rfl, by decide +kernel, by decide +kernel⟩
theorem acu (T : Txt K mg t) : FnOk P w K mg base CX0 1 t.pi t.p9 ["self"] (anw t) := by
  refine T.sv.ok aij (fun vs H Q E h => ?_) (fun cdv A outer s H vs Q E hr h => ?_)
  · obtain ⟨p, dx, rfl, _⟩ := h
    rfl
  · obtain ⟨p, dx, rfl, hp, q⟩ := h
    refine ⟨_, (pss_cons (ps_fld (pv 0) pe_dnewK rfl)
      (pss_cons (ps_fld (pv 0) (pe_lst pa_nil) rfl)
      (pss_one (ps_fld (pv 0) pe_int rfl)))), ?_⟩
    simp only [RD, List.replicate, List.set, Nat.reduceAdd, Nat.reduceSub, tDNewK]
    intro d hd
    have hpd : p ≠ d := ne_of_none hp hd
    rw [wg (by rw [upd_ne hpd]; exact hp) T.ab T.aj (by decide)]
    refine ⟨by decide, fun e he => ?_⟩
    have hpe : p ≠ e := ne_of_none upd_same he
    rw [upd_ne (Ne.symm hpe)] at he
    have hde : d ≠ e := ne_of_none upd_same he
    rw [upd_ne (Ne.symm hde)] at he
    have l1 : (putF "gauges" (V.ref d) []).length < 2 := lpF (k := 1) (by decide)
    rw [wg (by rw [upd_ne hpe]; exact upd_same) T.ab T.dg (by omega)]
    have l2 := lpF (f := "events") (v := V.ref e) l1
    rw [stoU T.ab T.pf (by omega)]
    refine q d e _ hd he hde upd_same ?_ ?_ fun b o hb h => ?_
    · rw [upd_ne (Ne.symm hpd), upd_ne hde, upd_ne (Ne.symm hpd), upd_same]
    · rw [upd_ne (Ne.symm hpe), upd_same]
    · rw [upd_ne hb, upd_ne (ne_of_none h he), upd_ne hb, upd_ne (ne_of_none h hd)]
      exact h
def ym (L : Lay) (b : Ql90.Board) (g : Nat) : V := if (b.seen g).isSome = true then .ref (L.po g) else .non
def ate (t : Ad) : Sp := fun vs H Q _ => ∃ (B : Addr) (which : Int) (ρ : Addr → Option Role) (b : Ql90.Board) (L : Lay), vs = [.ref B, .int which] ∧ B64 which ∧ BRep t H ρ B b L ∧
  ∀ l H', Same H H' → H l = none → H' l = some (.lst ((Ql90.those which.toNat).map (ym L b))) → Q (.ref l) H'
theorem xj (n : Nat) : (Ql90.those n).length ≤ 64 := by
  unfold Ql90.those Ql90.GAUGES
  have := List.length_filter_le (fun (g : Nat) => n.testBit g) (List.range 64)
  rw [List.length_range] at this
  exact this
theorem ahk {n g : Nat} (h : g ∈ Ql90.those n) : g < 64 := by
  unfold Ql90.those Ql90.GAUGES at h
  exact List.mem_range.mp (List.mem_filter.mp h).1
theorem wp (n : Nat) : (Ql90.those n).length ≤ sizeLine := by rw [sizeLine_eq]; exact Nat.le_trans (xj n) (by decide)
theorem wb.some {x : Ql90.Slot} {m : MR} {xs : List Int} (h : wb x m xs) : x.seen.isSome = m.has := by
  rw [h.seen]
  cases m.has <;> rfl
theorem BRep.seen {H : Hp} {ρ : Addr → Option Role} {B : Addr} {b : Ql90.Board} {L : Lay} (R : BRep t H ρ B b L) (g : Nat) : (b.seen g).isSome = (decide (g ∈ L.ks) && (L.ms g).has) := by
  unfold Ql90.Board.seen
  by_cases h : g ∈ L.ks
  · obtain ⟨x, hx, G⟩ := R.slot h
    rw [hx, decide_eq_true h, Bool.true_and]
    exact G.ok.some
  · rw [R.none h, decide_eq_false h]
    rfl
theorem da : FnScope ["self", "which", "found", "g", "gauge"] ["self", "which"] (defScope aq) := ⟨rfl, rfl, rfl, by decide +kernel, rfl, by decide +kernel, by decide +kernel⟩
theorem mt (T : Txt K mg t) : FnOk P w K mg base CX0 2 t.b5 t.bw ["self", "which"] (ate t) := by
  refine T.dr.ok da (fun vs H Q E h => ?_) (fun cdv A outer s H vs Q E hr h => ?_)
  · obtain ⟨B, wh, ρ, b, L, rfl, _⟩ := h
    rfl
  · obtain ⟨B, wh, ρ, b, L, rfl, hw, R, q⟩ := h
    refine ⟨_, (pss_cons (ps_setLc (i := 2) rfl da.nd rfl rfl rfl (pi_list (pe_call (wu T) (hr.mono (by decide)) rfl T.ot T.ke.kp T.vx .nil pass0 (pa_cons (pv 1) pa_nil))) (blkG (own := [("g", 3)]) (N := ["self", "which", "found", "g", "gauge"]) (sc := defScope aq) rfl rfl rfl (by decide +kernel) (by decide +kernel) (by decide +kernel) (by decide +kernel)) (fun _ _ _ _ _ => pg_name (i := 3) da.nd rfl (Or.inl rfl)) (fun _ _ _ _ _ => pts_nil) (fun _ _ _ _ _ => (pe_dget1 (hu_of hr) (yj K rfl (pv 0) rfl) (pv 3) ⟨rfl, rfl, rfl, rfl⟩)))
      (pss_one (ps_ret (pe_lc rfl da.nd (pi_list (pv 2)) (blkG (own := [("gauge", 4)]) (N := ["self", "which", "found", "g", "gauge"]) (sc := defScope aq) rfl rfl rfl (by decide +kernel) (by decide +kernel) (by decide +kernel) (by decide +kernel)) (fun _ _ _ _ _ => pg_name (i := 4) da.nd rfl (Or.inl rfl)) (fun _ _ _ _ _ => pts_nil) (fun _ _ _ _ _ => (pe_ifExp (PW.pt (pw_and (pt_cmpR op_notN (pv 4) pe_non (nomark _)) (pw_and1 (pt_val (yj K rfl (pv 4) rfl))))) (pv 4) pe_non)))))), ?_⟩
    simp only [RD, List.replicate, List.set, Nat.reduceAdd, Nat.reduceSub]
    refine ap7 ?_
    simp only [RD, List.replicate, List.set, Nat.reduceAdd, Nat.reduceSub]
    refine ⟨wh, rfl, hw, fun l H1 hS1 hn1 hl1 => ?_⟩
    have R1 := R.same hS1
    refine ox (H1 := H1) (a := l) (ks := Ql90.those wh.toNat) (f := fun g => .int (g : Int)) (wp _) (fun g => some (if g ∈ L.ks then .ref (L.po g) else .non)) (fun R r => r) (SqL.of hl1) (fun g hg H' hH R' r => ⟨rfl, ?_⟩) (fun D H' hD hH hl' => ?_)
    · have R2 := R1.same hH
      simp only [RD, List.replicate, List.set, Nat.reduceAdd, Nat.reduceSub, wipe, tYes, tDGet1, af R2.hB T.ab T.aj ft]
      refine ⟨R2.isD, _, R2.get g, ?_⟩
      have r := r H' (Same.refl _)
      by_cases h : g ∈ L.ks
      · rw [if_pos h] at r ⊢
        exact r
      · rw [if_neg h] at r ⊢
        exact r
    · rw [am] at hl'
      have R2 := R1.same hH
      refine ox (H1 := H') (a := D) (ks := Ql90.those wh.toNat) (f := fun g => if g ∈ L.ks then .ref (L.po g) else .non) (wp _) (fun g => some (ym L b g)) (fun R r => ?_) (SqL.of hl') (fun g hg H2 hH2 R' r => ⟨rfl, ?_⟩) (fun D2 H2 hD2 hH2 hl2 => ?_)
      · simp only [RD, List.replicate, List.set, Nat.reduceAdd, Nat.reduceSub]
        exact r
      · have R3 := R2.same hH2
        have r := r H2 (Same.refl _)
        unfold ym at r
        rw [R.seen g] at r
        simp only [RD, List.replicate, List.set, Nat.reduceAdd, Nat.reduceSub, wipe, tYes, true_and]
        by_cases h : g ∈ L.ks
        · obtain ⟨x, hx, G⟩ := R3.slot h
          rw [decide_eq_true h, Bool.true_and] at r
          simp only [if_pos h, reduceCtorEq, RD, List.replicate, List.set, Nat.reduceAdd, Nat.reduceSub, af G.hp T.aa T.be xz, decide_false]
          cases e : (L.ms g).has with
          | true =>
            rw [e, if_pos rfl] at r
            simpa using r
          | false =>
            rw [e, if_neg (by simp)] at r
            simpa using r
        · rw [decide_eq_false h, Bool.false_and, if_neg (by simp)] at r
          simp only [if_neg h, RD, List.replicate, List.set, Nat.reduceAdd, Nat.reduceSub]
          simpa using r
      · rw [am] at hl2
        exact q D2 H2 ((hS1.trans hH).trans hH2) (hS1.free (hH.free hD2)) hl2
end
end GB
end

section
set_option Elab.async false
set_option maxRecDepth 100000
set_option maxHeartbeats 4000000
set_option linter.all false
set_option exponentiation.threshold 100
namespace GB
open PySem L2
section
variable {P : Program} {w : World} {K : PySem.W.Frag} {mg : Str → Option Value} {base : Heap} {t : Ad}
theorem BRep.lockB {H H' : Hp} {ρ : Addr → Option Role} {B : Addr} {b : Ql90.Board} {L : Lay} {o : Obj} (R : BRep t H ρ B b L) (hS : Same (upd H L.d (.frz o (.dK (gkv L.ks fun g => .ref (L.po g))))) H') : H' B = some (.ins t.ah L.bx (bfs L.d L.e b.lost)) :=
  hS _ _ (by rw [upd_ne (ne_of R.hB R.hd (by intro z; cases z))]; exact R.hB)
theorem BRep.lockG {H H' : Hp} {ρ : Addr → Option Role} {B : Addr} {b : Ql90.Board} {L : Lay} {o : Obj} (R : BRep t H ρ B b L) (hS : Same (upd H L.d (.frz o (.dK (gkv L.ks fun g => .ref (L.po g))))) H') {g : Nat} {x : Ql90.Slot} (G : GRep t H L g x) : H' (L.po g) = some (.ins t.ac (L.dx g) (gfs x.g (L.lim g) (L.tr g) (L.ms g))) :=
  hS _ _ (by rw [upd_ne (ne_of G.hp R.hd (by intro z; cases z))]; exact G.hp)
theorem BRep.lockGet {H H' : Hp} {ρ : Addr → Option Role} {B : Addr} {b : Ql90.Board} {L : Lay} {o : Obj} (R : BRep t H ρ B b L) (hS : Same (upd H L.d (.frz o (.dK (gkv L.ks fun g => .ref (L.po g))))) H') {g : Nat} (h : g ∈ L.ks) : DGet H' L.d (.int (g : Int)) (some (.ref (L.po g))) :=
  .inl ⟨_, Sum.inl (g : Int), .inr ⟨o, hS _ _ upd_same⟩, rfl, by rw [adl, if_pos h]⟩
def ou (b : Ql90.Board) (n g : Nat) : Bool := (b.at_ g).any fun (x : Ql90.Slot) => decide (x.g.place + Ql90.width x.g.kind ≤ n)
def canB (b : Ql90.Board) (g : Nat) : Bool := (b.at_ g).any fun (x : Ql90.Slot) => !decide (x.g.a = 0)
def atj (t : Ad) : Sp := fun vs H Q _ => ∃ (B : Addr) (g n : Nat) (ρ : Addr → Option Role) (b : Ql90.Board) (L : Lay), vs = [.ref B, .int (g : Int), .int (n : Int)] ∧ BRep t H ρ B b L ∧ Q (.bl (ou b n g)) H
theorem ah7 : FnScope ["self", "g", "length"] ["self", "g", "length"] (defScope qf) := ⟨rfl, rfl, rfl, by decide +kernel, rfl, by decide +kernel, by decide +kernel⟩
theorem acr (T : Txt K mg t) : FnOk P w K mg base CX0 3 t.qe t.pz ["self", "g", "length"] (atj t) := by
  refine T.tp.ok ah7 (fun vs H Q E h => ?_) (fun cdv A outer s H vs Q E hr h => ?_)
  · obtain ⟨B, g, n, ρ, b, L, rfl, _⟩ := h
    rfl
  · obtain ⟨B, g, n, ρ, b, L, rfl, R, q⟩ := h
    refine ⟨_, (pss_one (ps_ret (pe_and (pe_cmp (pc_din (hu_of hr) (pv 1) (pe_fld (pv 0) rfl))) (pe_one (pe_cmpR op_le (pe_meth0 (pe_dget (hu_of hr) (pe_fld (pv 0) rfl) (pv 1) (fun _ _ => rfl)) T.aa T.n6 (ac2 T) (hr.mono (by decide)) T.yl .nil pass0) (pv 2) (nomark _)))))), ?_⟩
    simp only [RD, List.replicate, List.set, Nat.reduceAdd, Nat.reduceSub, tDIn, tDGet, af R.hB T.ab T.aj ft]
    refine ⟨_, _, rfl, R.get g, ?_⟩
    unfold ou at q
    by_cases h : g ∈ L.ks
    · obtain ⟨x, hx, G⟩ := R.slot h
      have hg := R.get g
      rw [if_pos h] at hg ⊢
      rw [hx] at q
      simp only [Option.isSome_some, if_true]
      refine ⟨_, _, rfl, hg, ?_⟩
      rw [ax G.hp ajm]
      refine ⟨_, _, _, _, _, _, rfl, G.hp, ?_⟩
      simp only [RD, List.replicate, List.set, Nat.reduceAdd, Nat.reduceSub]
      have e : decide ((x.g.place : Int) + (wd x.g.kind : Int) ≤ (n : Int)) = decide (x.g.place + Ql90.width x.g.kind ≤ n) := by
        rw [lp]
        exact decide_eq_decide.mpr ⟨fun h => by omega, fun h => by omega⟩
      rw [e]
      exact q
    · rw [if_neg h]
      rw [R.none h] at q
      simp only [Option.isSome_none, Bool.false_eq_true, if_false]
      exact q
def auu (t : Ad) : Sp := fun vs H Q _ => ∃ (B : Addr) (g : Nat) (ρ : Addr → Option Role) (b : Ql90.Board) (L : Lay), vs = [.ref B, .int (g : Int)] ∧ BRep t H ρ B b L ∧ Q (.bl (canB b g)) H
theorem adk : FnScope ["self", "g"] ["self", "g"] (defScope fk) := ⟨rfl, rfl, rfl, by decide +kernel, rfl, by decide +kernel, by decide +kernel⟩
theorem xx (T : Txt K mg t) : FnOk P w K mg base CX0 1 t.gg t.gf ["self", "g"] (auu t) := by
  refine T.j7.ok adk (fun vs H Q E h => ?_) (fun cdv A outer s H vs Q E hr h => ?_)
  · obtain ⟨B, g, ρ, b, L, rfl, _⟩ := h
    rfl
  · obtain ⟨B, g, ρ, b, L, rfl, R, q⟩ := h
    refine ⟨_, (pss_one (ps_ret (pe_and (pe_cmp (pc_din (hu_of hr) (pv 1) (pe_fld (pv 0) rfl))) (pe_one (pe_cmpR op_ne (pe_fld (pe_dget (hu_of hr) (pe_fld (pv 0) rfl) (pv 1) (fun _ _ => rfl)) rfl) pe_int (nomark _)))))), ?_⟩
    simp only [RD, List.replicate, List.set, Nat.reduceAdd, Nat.reduceSub, tDIn, tDGet, af R.hB T.ab T.aj ft]
    refine ⟨_, _, rfl, R.get g, ?_⟩
    unfold canB at q
    by_cases h : g ∈ L.ks
    · obtain ⟨x, hx, G⟩ := R.slot h
      have hg := R.get g
      rw [if_pos h] at hg ⊢
      rw [hx] at q
      simp only [Option.isSome_some, if_true]
      refine ⟨_, _, rfl, hg, ?_⟩
      rw [af G.hp T.aa T.ki ahl, agk]
      have e : decide (st x.g.a = 0) = decide (x.g.a = 0) := decide_eq_decide.mpr G.ok.good.a.ne
      rw [e]
      exact q
    · rw [if_neg h]
      rw [R.none h] at q
      simp only [Option.isSome_none, Bool.false_eq_true, if_false]
      exact q
def aqm (t : Ad) : Sp := fun vs H Q _ => ∃ (B : Addr) (s : Nat) (ρ : Addr → Option Role) (b : Ql90.Board) (L : Lay), vs = [.ref B, .int (s : Int)] ∧ BRep t H ρ B b L ∧ ∀ H', Same H H' → Q (.int ((Ql90.bits fun (g : Nat) => (b.at_ g).any fun (x : Ql90.Slot) => x.state == s) : Nat)) H'
theorem sj : FnScope ["self", "state", "g"] ["self", "state"] (defScope ef) := ⟨rfl, rfl, rfl, by decide +kernel, rfl, by decide +kernel, by decide +kernel⟩
theorem ad7 (T : Txt K mg t) : FnOk P w K mg base CX0 2 t.iq t.iu ["self", "state"] (aqm t) := by
  refine T.li.ok sj (fun vs H Q E h => ?_) (fun cdv A outer s H vs Q E hr h => ?_)
  · obtain ⟨B, s, ρ, b, L, rfl, _⟩ := h
    rfl
  · obtain ⟨B, s', ρ, b, L, rfl, R, q⟩ := h
    refine ⟨_, (pss_one (ps_ret (pe_call (afv T) (hr.mono (by decide)) rfl T.xn T.rj.kp T.adh .nil pass0 (pa_cons (pe_lock (pe_lc rfl sj.nd (pi_keys (pe_fld (pv 0) rfl)) (blkG (own := [("g", 2)]) (N := ["self", "state", "g"]) (sc := defScope ef) rfl rfl rfl (by decide +kernel) (by decide +kernel) (by decide +kernel) (by decide +kernel)) (fun _ _ _ _ _ => pg_name (i := 2) sj.nd rfl (Or.inl rfl)) (fun _ _ _ _ _ => (pts_one (pt_cmpR op_eq (yj K rfl (pe_dget (hu_of hr) (yj K rfl (pv 0) rfl) (pv 2) (fun _ _ => rfl)) rfl) (pv 1) (nomark _)))) (fun _ _ _ _ _ => (pv 2)))) pa_nil)))), ?_⟩
    simp only [RD, List.replicate, List.set, Nat.reduceAdd, Nat.reduceSub]
    refine ald R.hd (by rw [sizeLine_eq]; exact Nat.le_trans R.klen (by decide)) (fun g => if ((L.ms g).state == s') = true then some (.int (g : Int)) else none) (fun o R' r => ?_) (fun g hg o H' hH R' r => ⟨rfl, ?_⟩) (fun D H' hD hH hl' => ?_)
    · simp only [RD, List.replicate, List.set, Nat.reduceAdd, Nat.reduceSub, af (R.lockB (Same.refl _)) T.ab T.aj ft]
      exact r
    · obtain ⟨x, hx, G⟩ := R.slot hg
      have r := r H' (Same.refl _)
      simp only [RD, List.replicate, List.set, Nat.reduceAdd, Nat.reduceSub, wipe, tYes, tDGet, af (R.lockB hH) T.ab T.aj ft]
      refine ⟨_, _, rfl, R.lockGet hH hg, ?_⟩
      rw [af (R.lockG hH G) T.aa T.cy abq]
      simp only [RD, List.replicate, List.set, Nat.reduceAdd, Nat.reduceSub]
      by_cases h : (L.ms g).state = s'
      · rw [if_pos (by exact_mod_cast h)]
        rw [if_pos (by simpa using h)] at r
        exact r
      · rw [if_neg (by exact_mod_cast h)]
        rw [if_neg (by simpa using h)] at r
        exact r
    · rw [anf] at hl'
      refine ⟨D, _, rfl, SqL.of hl', ?_, fun g hg => R.lt (List.mem_filter.mp hg).1, fun H2 hH2 => ?_⟩
      · exact Nat.le_trans (List.length_filter_le _ _) R.klen
      · rw [← akv R.nd (fun g hg => R.lt hg) (fun g => (L.ms g).state == s') (fun (g : Nat) => (b.at_ g).any fun (x : Ql90.Slot) => x.state == s') fun g _ => ?_]
        · exact q _ (hH.trans hH2)
        · by_cases h : g ∈ L.ks
          · obtain ⟨x, hx, G⟩ := R.slot h
            rw [hx, decide_eq_true h, Bool.true_and, Option.any_some, G.ok.state]
          · rw [R.none h, decide_eq_false h]
            rfl
def trOf (L : Lay) (g : Nat) : List Int := if g ∈ L.ks then L.xs g else []
theorem apn (ns : List Int) {a : Nat} (ha : a ≤ ns.length) : cutV (ns.map V.int) (some (a : Int)) none = (ns.drop a).map V.int := by
  unfold cutV HT.sIx
  simp only [List.length_map]
  rw [if_neg (by omega), ← List.map_drop, ← List.map_take]
  congr 1
  rw [show min (a : Int).toNat ns.length = a by omega, ← List.length_drop]
  exact List.take_length
def at1 (t : Ad) : Sp := fun vs H Q _ => ∃ (B : Addr) (g n : Nat) (ρ : Addr → Option Role) (b : Ql90.Board) (L : Lay), vs = [.ref B, .int (g : Int), .int (n : Int)] ∧ BRep t H ρ B b L ∧
  ((trOf L g).length < n → ∀ H', Same H H' → Q .non H') ∧ (¬ (trOf L g).length < n → ∀ l H', Same H H' → H l = none → H' l = some (.lst ((Ql90.last n (trOf L g)).map V.int)) → Q (.ref l) H')
theorem tq : FnScope ["self", "g", "n", "trace"] ["self", "g", "n"] (defScope br) := ⟨rfl, rfl, rfl, by decide +kernel, rfl, by decide +kernel, by decide +kernel⟩
theorem so (T : Txt K mg t) : FnOk P w K mg base CX0 1 t.bv t.bu ["self", "g", "n"] (at1 t) := by
  refine T.dt.ok tq (fun vs H Q E h => ?_) (fun cdv A outer s H vs Q E hr h => ?_)
  · obtain ⟨B, g, n, ρ, b, L, rfl, _⟩ := h
    rfl
  · obtain ⟨B, g, n, ρ, b, L, rfl, R, q1, q2⟩ := h
    refine ⟨_, (pss_cons (ps_set (i := 3) tq.nd rfl (Or.inl rfl) (pe_ifExp (pt_cmp (pc_din (hu_of hr) (pv 1) (pe_fld (pv 0) rfl))) (pe_fld (pe_dget (hu_of hr) (pe_fld (pv 0) rfl) (pv 1) (fun _ _ => rfl)) rfl) (pe_lst pa_nil)))
      (pss_cons (ps_if (pt_cmpR op_gt (pv 2) (pe_callB call_len_seq (by rfl) T.zr PySem.boot_len (pa_cons (pv 3) pa_nil)) (nomark _))
        (pss_one (ps_ret pe_non))
        pss_nil)
      (pss_one (ps_ret (pe_slice sl_list (pv 3) (po_some (pe_op op_sub (pe_callB call_len_seq (by rfl) T.zr PySem.boot_len (pa_cons (pv 3) pa_nil)) (pv 2))) po_none))))), ?_⟩
    simp only [RD, List.replicate, List.set, Nat.reduceAdd, Nat.reduceSub, tDIn, tDGet, af R.hB T.ab T.aj ft]
    refine ⟨_, _, rfl, R.get g, ?_⟩
    have tail : ∀ a H1, Same H H1 → H1 a = some (.lst ((trOf L g).map V.int)) → ∃ p ys, [V.ref a] = [V.ref p] ∧ (SqL K H1 p ys ∨ SqT K H1 p ys) ∧ if (ys.length : Int) < (n : Int) then Q .non H1 else ∃ p ys, [V.ref a] = [V.ref p] ∧ (SqL K H1 p ys ∨ SqT K H1 p ys) ∧ rSlL K (.ref a) (some ((ys.length : Int) - (n : Int))) none H1 Q := by
      intro a H1 hS1 ha
      refine ⟨a, _, rfl, .inl (SqL.of ha), ?_⟩
      rw [List.length_map]
      by_cases hc : (trOf L g).length < n
      · rw [if_pos (by omega)]
        exact q1 hc H1 hS1
      · rw [if_neg (by omega)]
        refine ⟨a, _, rfl, .inl (SqL.of ha), slL (SqL.of ha) fun l hl => ?_⟩
        rw [List.length_map, show ((trOf L g).length : Int) - (n : Int) = (((trOf L g).length - n : Nat) : Int) by omega, apn _ (by omega)]
        exact q2 hc l _ (hS1.trans (Same.new hl)) (hS1.free hl) upd_same
    by_cases h : g ∈ L.ks
    · obtain ⟨x, hx, G⟩ := R.slot h
      have hg := R.get g
      rw [if_pos h] at hg ⊢
      simp only [Option.isSome_some, if_true]
      refine ⟨_, _, rfl, hg, ?_⟩
      rw [af G.hp T.aa T.kh agv]
      exact tail _ H (Same.refl _) (by unfold trOf; rw [if_pos h]; exact G.ht)
    · rw [if_neg h]
      simp only [Option.isSome_none, Bool.false_eq_true, if_false]
      exact ⟨by decide, fun a ha => tail a _ (Same.new ha) (by unfold trOf; rw [if_neg h]; exact upd_same)⟩
def mev (evs : List V) (x : V) : List V := if 256 < (evs ++ [x]).length then (evs ++ [x]).drop 1 else evs ++ [x]
def as9 (t : Ad) : Sp := fun vs H Q _ => ∃ (B bx d e : Addr) (lost : Nat) (evs : List V) (x : V), vs = [.ref B, x] ∧ H B = some (.ins t.ah bx (bfs d e lost)) ∧ H e = some (.lst evs) ∧ evs.length ≤ 256 ∧
  ∀ H', H' B = some (.ins t.ah bx (bfs d e (lost + if evs.length < 256 then 0 else 1))) → H' e = some (.lst (mev evs x)) → (∀ b o, b ≠ B → b ≠ e → H b = some o → H' b = some o) → Q .non H'
theorem acm : FnScope ["self", "event"] ["self", "event"] (defScope eu) := ⟨rfl, rfl, rfl, by decide +kernel, rfl, by decide +kernel, by decide +kernel⟩
theorem aco (T : Txt K mg t) : FnOk P w K mg base CX0 1 t.ej t.eq ["self", "event"] (as9 t) := by
  refine T.jb.ok acm (fun vs H Q E h => ?_) (fun cdv A outer s H vs Q E hr h => ?_)
  · obtain ⟨B, bx, d, e, lost, evs, x, rfl, _⟩ := h
    rfl
  · obtain ⟨B, bx, d, e, lost, evs, x, rfl, hB, he, hl, q⟩ := h
    refine ⟨_, (pss_cons (ps_expr (pe_bm PySem.F.plainAttrs_list PySem.F.slot_list_append PySem.F.type_list_append mt_append (pe_fld (pv 0) rfl) (pa_cons (pv 1) pa_nil)))
      (pss_one (ps_if (pt_cmpR op_gt (pe_callB call_len_seq (by rfl) T.zr PySem.boot_len (pa_cons (pe_fld (pv 0) rfl) pa_nil)) (ai T.qr rfl) (nomark _))
        (pss_cons (ps_expr (pe_bm PySem.F.plainAttrs_list PySem.F.slot_list_pop PySem.F.type_list_pop mt_popAt (pe_fld (pv 0) rfl) (pa_cons pe_int pa_nil)))
      (pss_one (ps_fldaug (pv 0) pe_int in_add)))
        pss_nil))), ?_⟩
    have hBe : B ≠ e := ne_of hB he (by intro z; cases z)
    simp only [RD, List.replicate, List.set, Nat.reduceAdd, Nat.reduceSub, af hB T.ab T.dg ab7, ac0]
    rw [ap4 he (by rw [sizeLine_eq]; omega)]
    have hB2 : ∀ o, upd H e o B = some (.ins t.ah bx (bfs d e lost)) := fun o => by rw [upd_ne hBe]; exact hB
    simp only [RD, List.replicate, List.set, Nat.reduceAdd, Nat.reduceSub, af (hB2 _) T.ab T.dg ab7]
    refine ⟨e, _, rfl, .inl (SqL.of upd_same), ?_⟩
    unfold mev at q
    have hlen : (evs ++ [x]).length = evs.length + 1 := by rw [List.length_append, List.length_singleton]
    by_cases h : 256 < (evs ++ [x]).length
    · rw [if_pos (by omega)]
      rw [if_pos h, if_neg (by omega)] at q
      cases hx : evs ++ [x] with
      | nil => rw [hx] at h; simp at h
      | cons z r =>
        rw [hx] at q
        refine pop0 (z := z) (xs := r) upd_same ?_
        rw [upd_upd]
        refine ⟨B, _, bx, _, _, rfl, hB2 _, T.ab, T.pf, anl, ?_⟩
        rw [abt]
        refine ⟨bx, _, hB2 _, by show 3 < 1000; decide, ?_⟩
        rw [show ((lost : Int) + 1) = ((lost + 1 : Nat) : Int) from rfl, asf]
        refine q _ upd_same ?_ fun b o h1 h2 e => ?_
        · rw [upd_ne (Ne.symm hBe), upd_same]
          rfl
        · rw [upd_ne h1, upd_ne h2]
          exact e
    · rw [if_neg (by omega)]
      rw [if_neg h, if_pos (by omega)] at q
      exact q _ (by rw [upd_ne hBe]; exact hB) upd_same fun b o h1 h2 e => by rw [upd_ne h2]; exact e
end
end GB
end

section
set_option Elab.async false
set_option maxRecDepth 100000
set_option maxHeartbeats 4000000
set_option linter.all false
set_option exponentiation.threshold 100
namespace GB
open PySem L2
section
variable {P : Program} {w : World} {K : PySem.W.Frag} {mg : Str → Option Value} {base : Heap} {t : Ad}
def ansV (a : Ql90.Ans) : List V := (a.v :: a.out).map V.int
def zn (H : Hp) (Q : VK) (a : Ql90.Ans) : Prop := ∀ l H', Same H H' → H l = none → H' l = some (.lst (ansV a)) → Q (.ref l) H'
theorem aqn {H : Hp} {ρ : Addr → Option Role} {B : Addr} {b : Ql90.Board} {L : Lay} (R : BRep t H ρ B b L) (g : Nat) : as1 t H (ym L b g) (b.seen g) := by
  have hs := R.seen g
  unfold ym
  by_cases h : g ∈ L.ks
  · obtain ⟨x, hx, G⟩ := R.slot h
    rw [decide_eq_true h, Bool.true_and] at hs
    have e : b.seen g = x.seen := by unfold Ql90.Board.seen; rw [hx]; rfl
    cases hh : (L.ms g).has with
    | true =>
      rw [hs, hh, if_pos rfl]
      obtain ⟨v1, v2, v3, v4⟩ := G.ok.vals hh
      exact .inr ⟨_, _, _, _, _, _, rfl, G.hp, by rw [e, G.ok.seen, if_pos hh], v1, v2, v3, v4⟩
    | false =>
      rw [hs, hh, if_neg (by simp)]
      exact .inl ⟨rfl, by rw [e, G.ok.seen, if_neg (by simp [hh])]⟩
  · have e : b.seen g = none := by unfold Ql90.Board.seen; rw [R.none h]; rfl
    rw [e]
    exact .inl ⟨rfl, rfl⟩
theorem ur {d e : Addr} {n : Nat} : (bfs d e n).lookup ("with_readings" : Str) = none := rfl
theorem aj4 {d e : Addr} {n : Nat} : (bfs d e n).lookup ("fits" : Str) = none := rfl
theorem adx {d e : Addr} {n : Nat} : (bfs d e n).lookup ("can_point" : Str) = none := rfl
theorem ak1 {d e : Addr} {n : Nat} : (bfs d e n).lookup ("in_state" : Str) = none := rfl
theorem zt {d e : Addr} {n : Nat} : (bfs d e n).lookup ("last_of_trace" : Str) = none := rfl
theorem aie {d e : Addr} {n : Nat} : (bfs d e n).lookup ("keep_event" : Str) = none := rfl
theorem aos {d e : Addr} {n : Nat} : (bfs d e n).lookup ("gb_set" : Str) = none := rfl
theorem ak3 {d e : Addr} {n : Nat} : (bfs d e n).lookup ("gb_frame" : Str) = none := rfl
theorem al9 {d e : Addr} {n : Nat} : (bfs d e n).lookup ("gb_tell" : Str) = none := rfl
theorem apb {d e : Addr} {n : Nat} : (bfs d e n).lookup ("gb_raw" : Str) = none := rfl
theorem al6 {d e : Addr} {n : Nat} : (bfs d e n).lookup ("gb_dial" : Str) = none := rfl
theorem akn {d e : Addr} {n : Nat} : (bfs d e n).lookup ("gb_point" : Str) = none := rfl
theorem aj6 {d e : Addr} {n : Nat} : (bfs d e n).lookup ("gb_points" : Str) = none := rfl
theorem ajn {d e : Addr} {n : Nat} : (bfs d e n).lookup ("gb_states" : Str) = none := rfl
theorem ajz {d e : Addr} {n : Nat} : (bfs d e n).lookup ("gb_events" : Str) = none := rfl
theorem amq {d e : Addr} {n : Nat} : (bfs d e n).lookup ("gb_lost" : Str) = none := rfl
theorem ala {d e : Addr} {n : Nat} : (bfs d e n).lookup ("gb_trace" : Str) = none := rfl
theorem am4 {d e : Addr} {n : Nat} : (bfs d e n).lookup ("gb_sums" : Str) = none := rfl
theorem akp {d e : Addr} {n : Nat} : (bfs d e n).lookup ("gb_clear" : Str) = none := rfl
theorem zg {H H2 : Hp} {Q : VK} {p D : Addr} {xs ys : List V} (S : Same H H2) (hp : H2 p = some (.lst xs)) (hD : H2 D = some (.lst ys)) (hlen : xs.length + ys.length ≤ 10000) (hq : ∀ l H', Same H H' → H l = none → H' l = some (.lst (xs ++ ys)) → Q (.ref l) H') : rCat (.ref p) (.ref D) H2 Q :=
  ⟨p, D, xs, ys, rfl, rfl, hp, hD, Nat.le_trans hlen (by rw [sizeLine_eq]; decide), fun l hl => hq l _ (S.trans (Same.new hl)) (S.free hl) upd_same⟩
theorem natF {z : Int} (h : 0 ≤ z) : ∃ n : Nat, z = (n : Int) := ⟨z.toNat, by omega⟩
def ato (t : Ad) : Sp := fun vs H Q _ => ∃ (B : Addr) (which form : Int) (ρ : Addr → Option Role) (b : Ql90.Board) (L : Lay), vs = [.ref B, .int which, .int form] ∧ B64 which ∧ BRep t H ρ B b L ∧ zn H Q (b.act (.tell which.toNat form)).1
theorem ab6 {z : Int} {lo hi : Nat} : Ql90.between z lo hi = (decide ((lo : Int) ≤ z) && decide (z ≤ (hi : Int))) := rfl
theorem akq (b : Ql90.Board) (which : Nat) (form : Int) : (b.act (.tell which form)).1 = if Ql90.between form 0 4 = false then Ql90.only (-2) else ⟨0, Ql90.ints ((Ql90.those which).map fun (g : Nat) => Ql90.told form.toNat (b.seen g))⟩ := by
  show (if Ql90.between form 0 4 = false then (Ql90.only (-2), b) else _).1 = _
  split <;> rfl
theorem uj : FnScope ["self", "which", "form", "gauge"] ["self", "which", "form"] (defScope gw) := ⟨rfl, rfl, rfl, by decide +kernel, rfl, by decide +kernel, by decide +kernel⟩
theorem aev (T : Txt K mg t) : FnOk P w K mg base CX0 5 t.jz t.jl ["self", "which", "form"] (ato t) := by
  refine T.m3.ok uj (fun vs H Q E h => ?_) (fun cdv A outer s H vs Q E hr h => ?_)
  · obtain ⟨B, wh, form, ρ, b, L, rfl, _⟩ := h
    rfl
  · obtain ⟨B, wh, form, ρ, b, L, rfl, hw, R, q⟩ := h
    refine ⟨_, (pss_cons (ps_if (pt_not (pt_chain op_le op_le pe_int (pv 2) pe_int))
        (pss_one (ps_ret (pe_lst (pa_cons (pe_un un_neg pe_int) pa_nil))))
        pss_nil)
      (pss_one (ps_ret (pe_op op_cat (pe_lst (pa_cons pe_int pa_nil)) (pe_lc rfl uj.nd (pi_list (pe_meth (pv 0) T.ab T.bp (mt T) (hr.mono (by decide)) T.jf .nil pass0 (pa_cons (pv 1) pa_nil))) (blkG (own := [("gauge", 3)]) (N := ["self", "which", "form", "gauge"]) (sc := defScope gw) rfl rfl rfl (by decide +kernel) (by decide +kernel) (by decide +kernel) (by decide +kernel)) (fun _ _ _ _ _ => pg_name (i := 3) uj.nd rfl (Or.inl rfl)) (fun _ _ _ _ _ => pts_nil) (fun _ _ _ _ _ => (pe_call (aso T) (hr.mono (by decide)) rfl T.akb T.aex.kp T.aqg .nil pass0 (pa_cons (pv 3) (pa_cons (pv 2) pa_nil))))))))), ?_⟩
    rw [akq, ab6] at q
    simp only [RD, List.replicate, List.set, Nat.reduceAdd, Nat.reduceSub]
    have bad : (¬ (0 ≤ form ∧ form ≤ 4)) → ∀ l, H l = none → Q (.ref l) (upd H l (.lst [.int (-2)])) := by
      intro hb l hl
      rw [if_pos (by rw [Bool.and_eq_false_iff]; by_cases h0 : 0 ≤ form; exact .inr (decide_eq_false fun h => hb ⟨h0, h⟩); exact .inl (decide_eq_false h0))] at q
      exact q l _ (Same.new hl) hl upd_same
    by_cases h0 : 0 ≤ form
    · by_cases h1 : form ≤ 4
      · rw [if_neg (by rw [decide_eq_true (show ((0 : Nat) : Int) ≤ form from h0), decide_eq_true (show form ≤ ((4 : Nat) : Int) from h1)]; simp)] at q
        simp only [if_pos h0, h1, RD, List.replicate, List.set, Nat.reduceAdd, Nat.reduceSub, decide_true]
        rw [if_neg (fun h => h trivial)]
        refine ⟨by decide, fun p hp => ap7 ?_⟩
        have R0 := R.same (Same.new (o := .lst [V.int 0]) hp)
        simp only [RD, List.replicate, List.set, Nat.reduceAdd, Nat.reduceSub, ax R0.hB ur]
        refine ⟨B, wh, ρ, b, L, rfl, hw, R0, fun l H1 hS1 hn1 hl1 => ?_⟩
        have R1 := R0.same hS1
        have S1 := (Same.new (o := .lst [V.int 0]) hp).trans hS1
        obtain ⟨f, rfl⟩ := natF h0
        rw [Int.toNat_natCast] at q
        refine ox (H1 := H1) (a := l) (ks := Ql90.those wh.toNat) (f := ym L b) (wp _) (fun g => some (.int (Ql90.told f (b.seen g) : Nat))) (fun R r => r) (SqL.of hl1) (fun g hg H' hH R' r => ⟨rfl, ?_⟩) (fun D H' hD hH hl' => ?_)
        · simp only [RD, List.replicate, List.set, Nat.reduceAdd, Nat.reduceSub, wipe, tYes]
          exact ⟨_, f, _, rfl, by omega, aqn (R1.same hH) g, r _ (Same.refl _)⟩
        · rw [am] at hl'
          refine zg (S1.trans hH) (hH _ _ (hS1 _ _ upd_same)) hl' ?_ fun l' H2 hS2 hn2 hl2 => q l' H2 hS2 hn2 ?_
          · have := xj wh.toNat
            rw [List.length_map, List.length_singleton]
            omega
          · rw [hl2]
            unfold ansV Ql90.ints
            simp only [List.map_cons, List.map_map]
            rfl
      · simp only [if_pos h0, h1, RD, List.replicate, List.set, Nat.reduceAdd, Nat.reduceSub, decide_false]
        exact ⟨by decide, bad (fun h => h1 h.2)⟩
    · simp only [if_neg h0, RD, List.replicate, List.set, Nat.reduceAdd, Nat.reduceSub]
      exact ⟨by decide, bad (fun h => h0 h.1)⟩
end
end GB
end

section
set_option Elab.async false
set_option maxRecDepth 100000
set_option maxHeartbeats 4000000
set_option linter.all false
set_option exponentiation.threshold 100
namespace GB
open PySem L2
section
variable {P : Program} {w : World} {K : PySem.W.Frag} {mg : Str → Option Value} {base : Heap} {t : Ad}
theorem as4 {H : Hp} {ρ : Addr → Option Role} {B : Addr} {b : Ql90.Board} {L : Lay} (R : BRep t H ρ B b L) (g : Nat) : (ym L b g = .non ∧ b.seen g = none) ∨ ∃ x, b.at_ g = some x ∧ GRep t H L g x ∧ (L.ms g).has = true ∧ ym L b g = .ref (L.po g) ∧ b.seen g = some ⟨(L.ms g).last, DB (L.ms g).val, DB (L.ms g).smo, DB (L.ms g).lea, DB (L.ms g).gre⟩ := by
  have hs := R.seen g
  unfold ym
  by_cases h : g ∈ L.ks
  · obtain ⟨x, hx, G⟩ := R.slot h
    rw [decide_eq_true h, Bool.true_and] at hs
    have e : b.seen g = x.seen := by unfold Ql90.Board.seen; rw [hx]; rfl
    cases hh : (L.ms g).has with
    | true =>
      rw [hs, hh, if_pos rfl]
      exact .inr ⟨x, hx, G, rfl, rfl, by rw [e, G.ok.seen, if_pos hh]⟩
    | false =>
      rw [hs, hh, if_neg (by simp)]
      exact .inl ⟨rfl, by rw [e, G.ok.seen, if_neg (by simp [hh])]⟩
  · have e : b.seen g = none := by unfold Ql90.Board.seen; rw [R.none h]; rfl
    rw [e]
    exact .inl ⟨rfl, rfl⟩
theorem api (L : Lay) (b : Ql90.Board) (g : Nat) : isR (ym L b g) = (b.seen g).isSome := by
  unfold ym
  cases (b.seen g).isSome <;> rfl
def ap9 (b : Ql90.Board) (f : Nat) (g : Nat) : Int := match b.seen g with
  | some s => Ql90.held f s.raw
  | none => 0
theorem anm (b : Ql90.Board) (which : Nat) (form : Int) : (b.act (.raw which form)).1 = if Ql90.between form 0 7 = false then Ql90.only (-2) else ⟨b.read which, (Ql90.those which).map (ap9 b form.toNat)⟩ := by
  show (if Ql90.between form 0 7 = false then (Ql90.only (-2), b) else _).1 = _
  split <;> rfl
def aup (t : Ad) : Sp := fun vs H Q _ => ∃ (B : Addr) (which form : Int) (ρ : Addr → Option Role) (b : Ql90.Board) (L : Lay), vs = [.ref B, .int which, .int form] ∧ B64 which ∧ BRep t H ρ B b L ∧ zn H Q (b.act (.raw which.toNat form)).1
theorem agu {H H1 : Hp} {Q : VK} {E : XK} {a n : Addr} {L : Lay} {b : Ql90.Board} {wh : Nat} {zs : Nat → Int} (S : Same H H1) (ha : H1 a = some (.lst ((Ql90.those wh).map (ym L b)))) (hn : H1 n = some (.lst ((Ql90.those wh).map fun g => V.int (zs g)))) (q : zn H Q ⟨b.read wh, (Ql90.those wh).map zs⟩) : ai5 K [.ref a, .ref n] H1 Q E := by
  have hl := xj wh
  refine ⟨a, n, _, _, _, rfl, SqL.of ha, hn, hl, by rw [List.length_map]; exact hl, fun l H' hS hl hl' => q l H' (S.trans hS) (S.free hl) ?_⟩
  rw [hl']
  unfold ansV Ql90.Board.read
  simp only [api, List.map_cons, List.map_map]
  rfl
theorem q0 : FnScope ["self", "which", "form", "gauges", "gauge"] ["self", "which", "form"] (defScope iz) := ⟨rfl, rfl, rfl, by decide +kernel, rfl, by decide +kernel, by decide +kernel⟩
theorem agd (T : Txt K mg t) : FnOk P w K mg base CX0 5 t.lj t.lx ["self", "which", "form"] (aup t) := by
  refine T.o3.ok q0 (fun vs H Q E h => ?_) (fun cdv A outer s H vs Q E hr h => ?_)
  · obtain ⟨B, wh, form, ρ, b, L, rfl, _⟩ := h
    rfl
  · obtain ⟨B, wh, form, ρ, b, L, rfl, hw, R, q⟩ := h
    refine ⟨_, (pss_cons (ps_if (pt_not (pt_chain op_le op_le pe_int (pv 2) pe_int))
        (pss_one (ps_ret (pe_lst (pa_cons (pe_un un_neg pe_int) pa_nil))))
        pss_nil)
      (pss_cons (ps_set (i := 3) q0.nd rfl (Or.inl rfl) (pe_meth (pv 0) T.ab T.bp (mt T) (hr.mono (by decide)) T.jf .nil pass0 (pa_cons (pv 1) pa_nil)))
      (pss_one (ps_ret (pe_call (ahm T) (hr.mono (by decide)) rfl T.zp T.vf.kp T.aew .nil pass0 (pa_cons (pv 3) (pa_cons (pe_lc rfl q0.nd (pi_list (pv 3)) (blkG (own := [("gauge", 4)]) (N := ["self", "which", "form", "gauges", "gauge"]) (sc := defScope iz) rfl rfl rfl (by decide +kernel) (by decide +kernel) (by decide +kernel) (by decide +kernel)) (fun _ _ _ _ _ => pg_name (i := 4) q0.nd rfl (Or.inl rfl)) (fun _ _ _ _ _ => pts_nil) (fun _ _ _ _ _ => (pe_ifExp (pt_cmpR op_isN (pv 4) pe_non (nomark _)) pe_int (pe_call (ajy T) (hr.mono (by decide)) rfl T.afb T.abx.kp T.aj0 .nil pass0 (pa_cons (yj K rfl (pv 4) rfl) (pa_cons (pv 2) pa_nil)))))) pa_nil))))))), ?_⟩
    rw [anm, ab6] at q
    simp only [RD, List.replicate, List.set, Nat.reduceAdd, Nat.reduceSub]
    have bad : (¬ (0 ≤ form ∧ form ≤ 7)) → ∀ l, H l = none → Q (.ref l) (upd H l (.lst [.int (-2)])) := by
      intro hb l hl
      rw [if_pos (by rw [Bool.and_eq_false_iff]; by_cases h0 : 0 ≤ form; exact .inr (decide_eq_false fun h => hb ⟨h0, h⟩); exact .inl (decide_eq_false h0))] at q
      exact q l _ (Same.new hl) hl upd_same
    by_cases h0 : 0 ≤ form
    · by_cases h1 : form ≤ 7
      · rw [if_neg (by rw [decide_eq_true (show ((0 : Nat) : Int) ≤ form from h0), decide_eq_true (show form ≤ ((7 : Nat) : Int) from h1)]; simp)] at q
        simp only [if_pos h0, h1, RD, List.replicate, List.set, Nat.reduceAdd, Nat.reduceSub, decide_true]
        rw [if_neg (fun h => h trivial), ax R.hB ur]
        refine ⟨B, wh, ρ, b, L, rfl, hw, R, fun l H1 hS1 hn1 hl1 => ?_⟩
        have R1 := R.same hS1
        obtain ⟨f, rfl⟩ := natF h0
        rw [Int.toNat_natCast] at q
        refine ox (H1 := H1) (a := l) (ks := Ql90.those wh.toNat) (f := ym L b) (wp _) (fun g => some (.int (ap9 b f g))) (fun R r => ?_) (SqL.of hl1) (fun g hg H' hH R' r => ⟨rfl, ?_⟩) (fun D H' hD hH hl' => ?_)
        · simp only [RD, List.replicate, List.set, Nat.reduceAdd, Nat.reduceSub]
          exact r
        · have r := r _ (Same.refl _)
          simp only [RD, List.replicate, List.set, Nat.reduceAdd, Nat.reduceSub, wipe, tYes, true_and]
          unfold ap9 at r
          rcases as4 (R1.same hH) g with ⟨e1, e2⟩ | ⟨x, hx, G, hh, e1, e2⟩
          · rw [e2] at r
            rw [e1]
            exact r
          · rw [e2] at r
            rw [e1]
            simp only [reduceCtorEq, if_false, af G.hp T.aa T.dm ahz, aj2, Int.toNat_natCast]
            dsimp only at r
            rw [akd] at r
            exact ⟨Int.natCast_nonneg _, r⟩
        · rw [am] at hl'
          exact agu (hS1.trans hH) (hH _ _ hl1) hl' q
      · simp only [if_pos h0, h1, RD, List.replicate, List.set, Nat.reduceAdd, Nat.reduceSub, decide_false]
        exact ⟨by decide, bad (fun h => h1 h.2)⟩
    · simp only [if_neg h0, RD, List.replicate, List.set, Nat.reduceAdd, Nat.reduceSub]
      exact ⟨by decide, bad (fun h => h0 h.1)⟩
def amo (b : Ql90.Board) (g : Nat) : Int := match b.at_ g, b.seen g with
  | some x, some s => x.g.dial s.y
  | _, _ => 0
theorem alm (b : Ql90.Board) (which : Nat) : (b.act (.dial which)).1 = ⟨b.read which, (Ql90.those which).map (amo b)⟩ := rfl
def arn (t : Ad) : Sp := fun vs H Q _ => ∃ (B : Addr) (which : Int) (ρ : Addr → Option Role) (b : Ql90.Board) (L : Lay), vs = [.ref B, .int which] ∧ B64 which ∧ BRep t H ρ B b L ∧ zn H Q (b.act (.dial which.toNat)).1
theorem p7 : FnScope ["self", "which", "gauges", "gauge"] ["self", "which"] (defScope g4) := ⟨rfl, rfl, rfl, by decide +kernel, rfl, by decide +kernel, by decide +kernel⟩
theorem aey (T : Txt K mg t) : FnOk P w K mg base CX0 6 t.ju t.jq ["self", "which"] (arn t) := by
  refine T.m6.ok p7 (fun vs H Q E h => ?_) (fun cdv A outer s H vs Q E hr h => ?_)
  · obtain ⟨B, wh, ρ, b, L, rfl, _⟩ := h
    rfl
  · obtain ⟨B, wh, ρ, b, L, rfl, hw, R, q⟩ := h
    refine ⟨_, (pss_cons (ps_set (i := 2) p7.nd rfl (Or.inl rfl) (pe_meth (pv 0) T.ab T.bp (mt T) (hr.mono (by decide)) T.jf .nil pass0 (pa_cons (pv 1) pa_nil)))
      (pss_one (ps_ret (pe_call (ahm T) (hr.mono (by decide)) rfl T.zp T.vf.kp T.aew .nil pass0 (pa_cons (pv 2) (pa_cons (pe_lc rfl p7.nd (pi_list (pv 2)) (blkG (own := [("gauge", 3)]) (N := ["self", "which", "gauges", "gauge"]) (sc := defScope g4) rfl rfl rfl (by decide +kernel) (by decide +kernel) (by decide +kernel) (by decide +kernel)) (fun _ _ _ _ _ => pg_name (i := 3) p7.nd rfl (Or.inl rfl)) (fun _ _ _ _ _ => pts_nil) (fun _ _ _ _ _ => (pe_ifExp (pt_cmpR op_isN (pv 3) pe_non (nomark _)) pe_int (pe_call (ajy T) (hr.mono (by decide)) rfl T.afb T.abx.kp T.aj0 .nil pass0 (pa_cons (pe_meth0 (pv 3) T.aa T.wr (aic T) (hr.mono (by decide)) T.ad0 .nil pass0) (pa_cons (ai T.yh rfl) pa_nil)))))) pa_nil)))))), ?_⟩
    rw [alm] at q
    simp only [RD, List.replicate, List.set, Nat.reduceAdd, Nat.reduceSub, ax R.hB ur]
    refine ⟨B, wh, ρ, b, L, rfl, hw, R, fun l H1 hS1 hn1 hl1 => ?_⟩
    have R1 := R.same hS1
    refine ox (H1 := H1) (a := l) (ks := Ql90.those wh.toNat) (f := ym L b) (wp _) (fun g => some (.int (amo b g))) (fun R r => ?_) (SqL.of hl1) (fun g hg H' hH R' r => ⟨rfl, ?_⟩) (fun D H' hD hH hl' => ?_)
    · simp only [RD, List.replicate, List.set, Nat.reduceAdd, Nat.reduceSub]
      exact r
    · have r := r _ (Same.refl _)
      simp only [RD, List.replicate, List.set, Nat.reduceAdd, Nat.reduceSub, wipe, tYes, true_and]
      unfold amo at r
      rcases as4 (R1.same hH) g with ⟨e1, e2⟩ | ⟨x, hx, G, hh, e1, e2⟩
      · rw [e2] at r
        rw [e1]
        cases hx : b.at_ g with
        | none => rw [hx] at r; exact r
        | some x => rw [hx] at r; exact r
      · rw [e2, hx] at r
        rw [e1]
        have hG := G.ok.good
        have hy := (G.ok.vals hh).1
        dsimp only at r
        rw [as0 hG hy, aqi] at r
        simp only [reduceCtorEq, if_false]
        rw [ax G.hp ar1]
        refine ⟨_, _, _, _, _, _, rfl, G.hp, hy.sm, hG.lo.sm, hG.k.sm, ?_⟩
        simp only [RD, List.replicate, List.set, Nat.reduceAdd, Nat.reduceSub]
        exact ⟨by show (0 : Int) ≤ 4; decide, r⟩
    · rw [am] at hl'
      exact agu (hS1.trans hH) (hH _ _ hl1) hl' q
end
end GB
end

section
set_option Elab.async false
set_option maxRecDepth 100000
set_option maxHeartbeats 4000000
set_option linter.all false
set_option exponentiation.threshold 100
namespace GB
open PySem L2
section
variable {P : Program} {w : World} {K : PySem.W.Frag} {mg : Str → Option Value} {base : Heap} {t : Ad}
def sk (g : Ql90.Gauge) (y : Nat) : Int := acp (st y) (st g.b) (st g.a)
theorem adt {b : Ql90.Board} {g y : Nat} {x : Ql90.Slot} (hx : b.at_ g = some x) (G : aed x.g) (ha : x.g.a ≠ 0) (hy : y < 2 ^ 64) (hf : Ql90.fair y = true) :
    b.pointed g y = some (x.g, hold (sk x.g y) x.g.kind, hold (sk x.g y) x.g.kind != sk x.g y) := by
  unfold Ql90.Board.pointed
  rw [hx, Option.bind_some, if_neg ha]
  unfold Ql90.Gauge.point
  rw [asj G ha hy hf]
  simp only [akd]
  rfl
theorem afx (b : Ql90.Board) (g y : Nat) : (b.pointed g y).isSome = canB b g := by
  unfold Ql90.Board.pointed canB
  cases b.at_ g with
  | none => rfl
  | some x =>
    rw [Option.bind_some, Option.any_some]
    by_cases h : x.g.a = 0
    · rw [if_pos h, decide_eq_true h]
      rfl
    · rw [if_neg h, decide_eq_false h]
      rfl
def ajj (b : Ql90.Board) (g y : Nat) : Ql90.Ans := match b.pointed g y with
  | none => Ql90.only (-3)
  | some x => ⟨if x.2.2 = true then 1 else 0, (Ql90.bytes x.1.kind x.2.1 ++ List.replicate (8 - Ql90.width x.1.kind) 0).map fun (c : UInt8) => (c.toNat : Int)⟩
theorem ais (b : Ql90.Board) (g : Int) (y : Nat) : (b.act (.point g y)).1 = if Ql90.between g 0 63 = false ∨ Ql90.fair y = false then Ql90.only (-2) else ajj b g.toNat y := by
  unfold ajj
  show (if Ql90.between g 0 63 = false ∨ Ql90.fair y = false then (Ql90.only (-2), b) else match b.pointed g.toNat y with
      | none => (Ql90.only (-3), b)
      | some x => (⟨if x.2.2 = true then 1 else 0, (Ql90.bytes x.1.kind x.2.1 ++ List.replicate (8 - Ql90.width x.1.kind) 0).map fun (c : UInt8) => (c.toNat : Int)⟩, b)).1 = _
  split
  · rfl
  · cases b.pointed g.toNat y with
    | none => rfl
    | some x => rfl
def arq (t : Ad) : Sp := fun vs H Q _ => ∃ (B : Addr) (g y : Int) (ρ : Addr → Option Role) (b : Ql90.Board) (L : Lay), vs = [.ref B, .int g, .int y] ∧ B64 y ∧ BRep t H ρ B b L ∧ zn H Q (b.act (.point g y.toNat)).1
theorem vb (g : Int) : Ql90.between g 0 63 = (decide (0 ≤ g) && decide (g < 64)) := by
  rw [ab6]
  congr 1
  exact decide_eq_decide.mpr ⟨fun h => by omega, fun h => by omega⟩
theorem akr {α : Type} (k : Nat) (x : α) : (List.replicate k [x]).flatten = List.replicate k x := by
  induction k with
  | zero => rfl
  | succ k ih => rw [List.replicate_succ, List.replicate_succ, List.flatten_cons, ih]; rfl
theorem zn.neg {H : Hp} {Q : VK} {z : Int} (q : zn H Q (Ql90.only z)) : ∀ l, H l = none → Q (.ref l) (upd H l (.lst [.int z])) := fun l hl => q l _ (Same.new hl) hl upd_same
theorem yp : FnScope ["self", "g", "y", "gauge"] ["self", "g", "y"] (defScope ic) := ⟨rfl, rfl, rfl, by decide +kernel, rfl, by decide +kernel, by decide +kernel⟩
theorem aen (T : Txt K mg t) : FnOk P w K mg base CX0 7 t.ig t.ib ["self", "g", "y"] (arq t) := by
  refine T.ld.ok yp (fun vs H Q E h => ?_) (fun cdv A outer s H vs Q E hr h => ?_)
  · obtain ⟨B, g, y, ρ, b, L, rfl, _⟩ := h
    rfl
  · obtain ⟨B, g, y, ρ, b, L, rfl, hy, R, q⟩ := h
    refine ⟨_, (pss_cons (ps_if (PW.pt (pw_or (pt_not (pt_val (pe_call (yf T) (hr.mono (by decide)) rfl T.rf T.mo.kp T.x6 .nil pass0 (pa_cons (pv 1) pa_nil)))) (pw_or1 (pt_not (pt_val (pe_call (afy T) (hr.mono (by decide)) rfl T.x8 T.rh.kp T.ac8 .nil pass0 (pa_cons (pv 2) pa_nil)))))))
        (pss_one (ps_ret (pe_lst (pa_cons (pe_un un_neg pe_int) pa_nil))))
        pss_nil)
      (pss_cons (ps_if (pt_not (pt_val (pe_meth (pv 0) T.ab T.kf (xx T) (hr.mono (by decide)) T.tu .nil pass0 (pa_cons (pv 1) pa_nil))))
        (pss_one (ps_ret (pe_lst (pa_cons (pe_un un_neg pe_int) pa_nil))))
        pss_nil)
      (pss_cons (ps_set (i := 3) yp.nd rfl (Or.inl rfl) (pe_dget (hu_of hr) (pe_fld (pv 0) rfl) (pv 1) (fun _ _ => rfl)))
      (pss_one (ps_ret (pe_op op_cat (pe_call (ad9 T) (hr.mono (by decide)) rfl T.vz T.o5.kp T.abn .nil pass0 (pa_cons (pv 3) (pa_cons (pv 2) pa_nil))) (pe_op op_rep (pe_lst (pa_cons pe_int pa_nil)) (pe_op op_sub pe_int (pe_call (g8 T) (hr.mono (by decide)) rfl T.de T.bj.kp T.g5 .nil pass0 (pa_cons (pe_fld (pv 3) rfl) pa_nil)))))))))), ?_⟩
    rw [ais, vb] at q
    simp only [RD, List.replicate, List.set, Nat.reduceAdd, Nat.reduceSub]
    refine ⟨trivial, ?_⟩
    cases hg : decide (0 ≤ g) && decide (g < 64) with
    | false =>
      rw [hg, if_pos (.inl rfl)] at q
      rw [if_pos rfl]
      exact ⟨by decide, q.neg⟩
    | true =>
      rw [if_neg (by simp)]
      refine ⟨hy, ?_⟩
      cases hf : Ql90.fair y.toNat with
      | false =>
        rw [hf, if_pos (.inr rfl)] at q
        rw [if_pos rfl]
        exact ⟨by decide, q.neg⟩
      | true =>
        rw [hg, hf, if_neg (by simp)] at q
        rw [if_neg (by simp), ax R.hB adx]
        rw [Bool.and_eq_true] at hg
        obtain ⟨n, rfl⟩ := natF (of_decide_eq_true hg.1)
        rw [Int.toNat_natCast] at q
        refine ⟨B, n, ρ, b, L, rfl, R, ?_⟩
        unfold ajj at q
        have hc := afx b n y.toNat
        cases hcb : canB b n with
        | false =>
          rw [hcb] at hc
          cases hp : b.pointed n y.toNat with
          | some v => rw [hp] at hc; cases hc
          | none =>
            rw [hp] at q
            simp only [Bool.not_false, Bool.false_eq_true, not_false_eq_true, if_true, if_pos, RD, List.replicate, List.set, Nat.reduceAdd, Nat.reduceSub]
            exact ⟨by decide, q.neg⟩
        | true =>
          simp only [Bool.not_true, Bool.false_eq_true, if_false, RD, List.replicate, List.set, Nat.reduceAdd, Nat.reduceSub, tDGet, af R.hB T.ab T.aj ft]
          have hin : n ∈ L.ks := by
            apply (R.mem n).mpr
            unfold canB at hcb
            cases e : b.at_ n with
            | none => rw [e] at hcb; cases hcb
            | some x => rfl
          obtain ⟨x, hx, G⟩ := R.slot hin
          have ha : x.g.a ≠ 0 := by
            unfold canB at hcb
            rw [hx, Option.any_some] at hcb
            simpa using hcb
          have hy64 : y.toNat < 2 ^ 64 := by have := hy.1; have := hy.2; omega
          rw [adt hx G.ok.good ha hy64 hf] at q
          dsimp only at q
          have hget := R.get n
          rw [if_pos hin] at hget
          refine ⟨_, _, rfl, hget, _, _, _, _, _, _, _, rfl, G.hp, G.ok.good, fun e => ha (G.ok.good.a.ne.mp e), hy, hf, fun l H1 hS1 hn1 hl1 => ?_⟩
          have G1 := (R.same hS1).gau n x hx
          have hw8 := adm x.g.kind
          refine ⟨by decide, fun p hp => ?_⟩
          have G2 := ((R.same hS1).same (Same.new (o := .lst [V.int 0]) hp)).gau n x hx
          rw [af G2.hp T.aa T.g6 ads]
          simp only [RD, List.replicate, List.set, Nat.reduceAdd, Nat.reduceSub, Int.toNat_natCast]
          refine ⟨Int.natCast_nonneg _, p, _, _, rfl, rfl, upd_same, by omega, by omega, ?_, fun p2 hp2 => ?_⟩
          · rw [sizeLine_eq, List.length_singleton]
            omega
          · have S2 := (Same.new (o := .lst [V.int 0]) hp).trans (Same.new (o := .lst (List.replicate (8 - (wd x.g.kind : Int)).toNat [V.int 0]).flatten) hp2)
            refine zg (hS1.trans S2) (S2 _ _ hl1) upd_same ?_ fun l' H2 hS2 hn2 hl2 => q l' H2 hS2 hn2 ?_
            · rw [List.length_cons, List.length_map, ab3, akr, List.length_replicate]
              omega
            · rw [hl2, akr]
              unfold ansV
              have e1 : (if (hold (sk x.g y.toNat) x.g.kind != sk x.g y.toNat) = true then (1 : Int) else 0) = if hold (sk x.g y.toNat) x.g.kind = sk x.g y.toNat then 0 else 1 := by
                by_cases h : hold (sk x.g y.toNat) x.g.kind = sk x.g y.toNat
                · rw [if_pos h, if_neg (by rw [bne_iff_ne]; exact fun h' => h' h)]
                · rw [if_neg h, if_pos (by rw [bne_iff_ne]; exact h)]
              simp only [List.map_cons, List.map_append, alt G.ok.kind, List.map_replicate]
              rw [e1, lp, show (8 - (wd x.g.kind : Int)).toNat = 8 - wd x.g.kind by omega]
              rfl
end
end GB
end

section
set_option Elab.async false
set_option maxRecDepth 100000
set_option maxHeartbeats 4000000
set_option linter.all false
set_option exponentiation.threshold 100
namespace GB
open PySem L2
section
variable {P : Program} {w : World} {K : PySem.W.Frag} {mg : Str → Option Value} {base : Heap} {t : Ad}
def at2 (t : Ad) : Sp := fun vs H Q _ => ∃ (B : Addr) (ρ : Addr → Option Role) (b : Ql90.Board) (L : Lay), vs = [.ref B] ∧ BRep t H ρ B b L ∧ zn H Q (b.act .lost).1
theorem ae5 : FnScope ["self"] ["self"] (defScope jp) := ⟨rfl, rfl, rfl, by decide +kernel, rfl, by decide +kernel, by decide +kernel⟩
theorem afi (T : Txt K mg t) : FnOk P w K mg base CX0 1 t.jn t.js ["self"] (at2 t) := by
  refine T.m4.ok ae5 (fun vs H Q E h => ?_) (fun cdv A outer s H vs Q E hr h => ?_)
  · obtain ⟨B, ρ, b, L, rfl, _⟩ := h
    rfl
  · obtain ⟨B, ρ, b, L, rfl, R, q⟩ := h
    refine ⟨_, (pss_one (ps_ret (pe_lst (pa_cons (pe_fld (pv 0) rfl) pa_nil)))), ?_⟩
    simp only [RD, List.replicate, List.set, Nat.reduceAdd, Nat.reduceSub, af R.hB T.ab T.pf anl]
    exact ⟨by decide, fun l hl => q l _ (Same.new hl) hl upd_same⟩
def apg (t : Ad) : Sp := fun vs H Q _ => ∃ (B : Addr) (ρ : Addr → Option Role) (b : Ql90.Board) (L : Lay), vs = [.ref B] ∧ BRep t H ρ B b L ∧ zn H Q (b.act .states).1
theorem ee : FnScope ["self", "with_reading", "g", "state"] ["self"] (defScope bm) := ⟨rfl, rfl, rfl, by decide +kernel, rfl, by decide +kernel, by decide +kernel⟩
theorem ac5 (T : Txt K mg t) : FnOk P w K mg base CX0 3 t.fv t.fj ["self"] (apg t) := by
  refine T.ka.ok ee (fun vs H Q E h => ?_) (fun cdv A outer s H vs Q E hr h => ?_)
  · obtain ⟨B, ρ, b, L, rfl, _⟩ := h
    rfl
  · obtain ⟨B, ρ, b, L, rfl, R, q⟩ := h
    refine ⟨_, (pss_cons (ps_set (i := 1) ee.nd rfl (Or.inl rfl) (pe_call (afv T) (hr.mono (by decide)) rfl T.xn T.rj.kp T.adh .nil pass0 (pa_cons (pe_lock (pe_lc rfl ee.nd (pi_keys (pe_fld (pv 0) rfl)) (blkG (own := [("g", 2)]) (N := ["self", "with_reading", "g", "state"]) (sc := defScope bm) rfl rfl rfl (by decide +kernel) (by decide +kernel) (by decide +kernel) (by decide +kernel)) (fun _ _ _ _ _ => pg_name (i := 2) ee.nd rfl (Or.inl rfl)) (fun _ _ _ _ _ => (pts_one (pt_val (yj K rfl (pe_dget (hu_of hr) (yj K rfl (pv 0) rfl) (pv 2) (fun _ _ => rfl)) rfl)))) (fun _ _ _ _ _ => (pv 2)))) pa_nil)))
      (pss_one (ps_ret (pe_op op_cat (pe_op op_cat (pe_lst (pa_cons pe_int pa_nil)) (pe_lc rfl ee.nd (pi_range1 rfl T.yn (pa_cons (ai T.adv rfl) pa_nil)) (blkG (own := [("state", 3)]) (N := ["self", "with_reading", "g", "state"]) (sc := defScope bm) rfl rfl rfl (by decide +kernel) (by decide +kernel) (by decide +kernel) (by decide +kernel)) (fun _ _ _ _ _ => pg_name (i := 3) ee.nd rfl (Or.inl rfl)) (fun _ _ _ _ _ => pts_nil) (fun _ _ _ _ _ => (pe_meth (pv 0) T.ab T.pq (ad7 T) (hr.mono (by decide)) T.zk .nil pass0 (pa_cons (pv 3) pa_nil))))) (pe_lst (pa_cons (pv 1) pa_nil)))))), ?_⟩
    simp only [RD, List.replicate, List.set, Nat.reduceAdd, Nat.reduceSub]
    refine ald R.hd (by rw [sizeLine_eq]; exact Nat.le_trans R.klen (by decide)) (fun g => if (L.ms g).has = true then some (.int (g : Int)) else none) (fun o R' r => ?_) (fun g hg o H' hH R' r => ⟨rfl, ?_⟩) (fun D H' hD hH hl' => ?_)
    · simp only [RD, List.replicate, List.set, Nat.reduceAdd, Nat.reduceSub, af (R.lockB (Same.refl _)) T.ab T.aj ft]
      exact r
    · obtain ⟨x, hx, G⟩ := R.slot hg
      have r := r H' (Same.refl _)
      simp only [RD, List.replicate, List.set, Nat.reduceAdd, Nat.reduceSub, wipe, tYes, tDGet, af (R.lockB hH) T.ab T.aj ft]
      refine ⟨_, _, rfl, R.lockGet hH hg, ?_⟩
      rw [af (R.lockG hH G) T.aa T.be xz]
      refine ⟨_, rfl, ?_⟩
      cases e : (L.ms g).has with
      | true =>
        rw [e, if_pos rfl] at r
        exact r
      | false =>
        rw [e, if_neg (by simp)] at r
        exact r
    · rw [anf] at hl'
      refine ⟨D, _, rfl, SqL.of hl', ?_, fun g hg => R.lt (List.mem_filter.mp hg).1, fun H2 hH2 => ?_⟩
      · exact Nat.le_trans (List.length_filter_le _ _) R.klen
      · rw [← akv R.nd (fun g hg => R.lt hg) (fun g => (L.ms g).has) (fun (g : Nat) => (b.seen g).isSome) fun g _ => R.seen g]
        have S2 := hH.trans hH2
        refine ⟨by decide, fun p hp => ?_⟩
        have S3 := S2.trans (Same.new (o := .lst [V.int 0]) hp)
        refine ajf (n := 5) (by rw [sizeLine_eq]; decide) (fun s => some (.int ((Ql90.bits fun (g : Nat) => (b.at_ g).any fun (x : Ql90.Slot) => x.state == s) : Nat))) (fun R r => ?_) (fun j hj H' hH R' r => ⟨rfl, ?_⟩) (fun D5 H5 hD5 hH5 hl5 => ?_)
        · simp only [RD, List.replicate, List.set, Nat.reduceAdd, Nat.reduceSub]
          exact r
        · simp only [RD, List.replicate, List.set, Nat.reduceAdd, Nat.reduceSub, wipe, tYes, ax (R.same (S3.trans hH)).hB ak1]
          exact ⟨B, j, ρ, b, L, rfl, R.same (S3.trans hH), fun H6 hH6 => r H6 hH6⟩
        · have S5 := S3.trans hH5
          rw [am] at hl5
          refine ⟨p, D5, _, _, rfl, rfl, hH5 _ _ upd_same, hl5, by rw [List.length_map, List.length_range, sizeLine_eq]; decide, fun l1 hl1 => ⟨by decide, fun l2 hl2 => ?_⟩⟩
          refine zg ((S5.trans (Same.new hl1)).trans (Same.new hl2)) (by rw [upd_ne (ne_of_none upd_same hl2)]; exact upd_same) upd_same ?_ fun l' H6 hS6 hn6 hl6 => q l' H6 hS6 hn6 ?_
          · rw [List.length_append, List.length_map, List.length_range, List.length_singleton]
            show 1 + 5 + 1 ≤ 10000
            decide
          · rw [hl6]
            show some (HO.lst _) = some (HO.lst (ansV ⟨0, Ql90.ints ((List.range 5).map (fun (s : Nat) => Ql90.bits fun (g : Nat) => (b.at_ g).any fun (x : Ql90.Slot) => x.state == s) ++ [Ql90.bits fun (g : Nat) => (b.seen g).isSome])⟩))
            unfold ansV Ql90.ints
            simp only [List.map_cons, List.map_append, List.map_map, List.map_nil]
            rfl
theorem aha {H : Hp} {ρ : Addr → Option Role} {B : Addr} {b : Ql90.Board} {L : Lay} (R : BRep t H ρ B b L) (g : Nat) : b.traceOf g = (trOf L g).map SB ∧ (∀ z ∈ trOf L g, Tok' z) ∧ (trOf L g).length ≤ 256 := by
  unfold Ql90.Board.traceOf trOf
  by_cases h : g ∈ L.ks
  · obtain ⟨x, hx, G⟩ := R.slot h
    rw [hx, if_pos h]
    exact ⟨G.ok.trace, G.ok.toks, G.ok.len⟩
  · rw [R.none h, if_neg h]
    exact ⟨rfl, by simp, by decide⟩
theorem ai8 (b : Ql90.Board) (g n : Int) : (b.act (.trace g n)).1 = if Ql90.between g 0 63 = false ∨ Ql90.between n 0 256 = false then Ql90.only (-2) else if (b.traceOf g.toNat).length < n.toNat then Ql90.only (-3) else ⟨0, Ql90.ints (Ql90.last n.toNat (b.traceOf g.toNat))⟩ := by
  show (if Ql90.between g 0 63 = false ∨ Ql90.between n 0 256 = false then (Ql90.only (-2), b) else if (b.traceOf g.toNat).length < n.toNat then (Ql90.only (-3), b) else (_, b)).1 = _
  split
  · rfl
  · split <;> rfl
theorem alk (b : Ql90.Board) (g n : Int) : (b.act (.sums g n)).1 = if Ql90.between g 0 63 = false ∨ Ql90.between n 1 256 = false then Ql90.only (-2) else if (b.traceOf g.toNat).length < n.toNat then Ql90.only (-3) else ⟨0, Ql90.ints (Ql90.sums ((Ql90.last n.toNat (b.traceOf g.toNat)).map Ql90.ofSingle))⟩ := by
  show (if Ql90.between g 0 63 = false ∨ Ql90.between n 1 256 = false then (Ql90.only (-2), b) else if (b.traceOf g.toNat).length < n.toNat then (Ql90.only (-3), b) else (_, b)).1 = _
  split
  · rfl
  · split <;> rfl
def apq (t : Ad) : Sp := fun vs H Q _ => ∃ (B : Addr) (g n : Int) (ρ : Addr → Option Role) (b : Ql90.Board) (L : Lay), vs = [.ref B, .int g, .int n] ∧ BRep t H ρ B b L ∧ zn H Q (b.act (.trace g n)).1
theorem n4 {n : Int} {lo hi : Nat} : Ql90.between n lo hi = false ↔ ¬ ((lo : Int) ≤ n ∧ n ≤ (hi : Int)) := by
  rw [ab6, Bool.and_eq_false_iff, decide_eq_false_iff_not, decide_eq_false_iff_not]
  omega
theorem alb {α : Type} (n : Nat) (l : List α) : (Ql90.last n l).length ≤ l.length := by rw [z8, List.length_drop]; omega
theorem akz {α : Type} {n : Nat} {l : List α} {x : α} (h : x ∈ Ql90.last n l) : x ∈ l := by rw [z8] at h; exact List.mem_of_mem_drop h
theorem Tok'.sm {z : Int} (h : Tok' z) : Sm 300 z := (abu h.bd).mono (by decide)
theorem oe : FnScope ["self", "g", "n", "singles", "single"] ["self", "g", "n"] (defScope dz) := ⟨rfl, rfl, rfl, by decide +kernel, rfl, by decide +kernel, by decide +kernel⟩
theorem aeb (T : Txt K mg t) : FnOk P w K mg base CX0 3 t.il t.ii ["self", "g", "n"] (apq t) := by
  refine T.ly.ok oe (fun vs H Q E h => ?_) (fun cdv A outer s H vs Q E hr h => ?_)
  · obtain ⟨B, g, n, ρ, b, L, rfl, _⟩ := h
    rfl
  · obtain ⟨B, g, n, ρ, b, L, rfl, R, q⟩ := h
    refine ⟨_, (pss_cons (ps_if (PW.pt (pw_or (pt_not (pt_val (pe_call (yf T) (hr.mono (by decide)) rfl T.rf T.mo.kp T.x6 .nil pass0 (pa_cons (pv 1) pa_nil)))) (pw_or1 (pt_not (pt_chain op_le op_le pe_int (pv 2) (ai T.lv rfl))))))
        (pss_one (ps_ret (pe_lst (pa_cons (pe_un un_neg pe_int) pa_nil))))
        pss_nil)
      (pss_cons (ps_set (i := 3) oe.nd rfl (Or.inl rfl) (pe_meth (pv 0) T.ab T.dw (so T) (hr.mono (by decide)) T.nu .nil pass0 (pa_cons (pv 1) (pa_cons (pv 2) pa_nil))))
      (pss_cons (ps_if (pt_cmpR op_isN (pv 3) pe_non (nomark _))
        (pss_one (ps_ret (pe_lst (pa_cons (pe_un un_neg pe_int) pa_nil))))
        pss_nil)
      (pss_one (ps_ret (pe_op op_cat (pe_lst (pa_cons pe_int pa_nil)) (pe_lc rfl oe.nd (pi_list (pv 3)) (blkG (own := [("single", 4)]) (N := ["self", "g", "n", "singles", "single"]) (sc := defScope dz) rfl rfl rfl (by decide +kernel) (by decide +kernel) (by decide +kernel) (by decide +kernel)) (fun _ _ _ _ _ => pg_name (i := 4) oe.nd rfl (Or.inl rfl)) (fun _ _ _ _ _ => pts_nil) (fun _ _ _ _ _ => (pe_call (abz T) (hr.mono (by decide)) rfl T.qp T.kj.kp T.zb .nil pass0 (pa_cons (pv 4) pa_nil)))))))))), ?_⟩
    rw [ai8] at q
    simp only [RD, List.replicate, List.set, Nat.reduceAdd, Nat.reduceSub]
    refine ⟨trivial, ?_⟩
    have bad : (Ql90.between g 0 63 = false ∨ Ql90.between n 0 256 = false) → 1 ≤ sizeLine ∧ ∀ l, H l = none → Q (.ref l) (upd H l (.lst [.int (-2)])) := by
      intro hb
      rw [if_pos hb] at q
      exact ⟨by decide, q.neg⟩
    cases hg : decide (0 ≤ g) && decide (g < 64) with
    | false =>
      rw [if_pos rfl]
      exact bad (.inl (by rw [vb, hg]))
    | true =>
      rw [if_neg (by simp)]
      by_cases h0 : 0 ≤ n
      · by_cases h1 : n ≤ 256
        · simp only [if_pos h0, h1, RD, List.replicate, List.set, Nat.reduceAdd, Nat.reduceSub, decide_true]
          rw [if_neg (fun h => h trivial), ax R.hB zt]
          rw [if_neg (by rw [vb, hg, n4]; simp; omega)] at q
          rw [Bool.and_eq_true] at hg
          obtain ⟨g, rfl⟩ := natF (of_decide_eq_true hg.1)
          obtain ⟨n, rfl⟩ := natF h0
          rw [Int.toNat_natCast, Int.toNat_natCast] at q
          obtain ⟨e1, e2, e3⟩ := aha R g
          rw [e1, List.length_map] at q
          refine ⟨B, g, n, ρ, b, L, rfl, R, fun hlt H1 hS1 => ?_, fun hlt l H1 hS1 hn1 hl1 => ?_⟩
          · rw [if_pos hlt] at q
            simp only [RD, List.replicate, List.set, Nat.reduceAdd, Nat.reduceSub, true_and]
            exact ⟨by decide, fun l hl => q l _ (hS1.trans (Same.new hl)) (hS1.free hl) upd_same⟩
          · rw [if_neg hlt] at q
            simp only [RD, List.replicate, List.set, Nat.reduceAdd, Nat.reduceSub, true_and, reduceCtorEq]
            refine ⟨by decide, fun p hp => ?_⟩
            have S2 := Same.new (o := .lst [V.int 0]) hp
            have hz := alb n (trOf L g)
            refine zm (H1 := upd H1 p (.lst [V.int 0])) (a := l) (xs := (Ql90.last n (trOf L g)).map V.int) (by rw [List.length_map, sizeLine_eq]; omega) (fun x => match x with | .int z => some (.int (SB z : Nat)) | _ => none) (fun R r => ?_) (SqL.of (S2 _ _ hl1)) (fun x hx H' hH R' r => ⟨rfl, ?_⟩) (fun D H' hD hH hl' => ?_)
            · simp only [RD, List.replicate, List.set, Nat.reduceAdd, Nat.reduceSub]
              exact r
            · obtain ⟨z, hz, rfl⟩ := List.mem_map.mp hx
              simp only [RD, List.replicate, List.set, Nat.reduceAdd, Nat.reduceSub, wipe, tYes]
              exact ⟨(e2 z (akz hz)).sm.mono (by decide), r _ (Same.refl _)⟩
            · have e4 : ((Ql90.last n (trOf L g)).map V.int).filterMap (fun x => match x with | .int z => some (V.int (SB z : Nat)) | _ => none) = (Ql90.last n (trOf L g)).map fun z => V.int (SB z : Nat) := by
                rw [List.filterMap_map]
                exact am _ _
              rw [e4] at hl'
              refine zg ((hS1.trans S2).trans hH) (hH _ _ upd_same) hl' (by rw [List.length_map, List.length_singleton]; omega) fun l' H2 hS2 hn2 hl2 => q l' H2 hS2 hn2 ?_
              rw [hl2, ahx]
              unfold ansV Ql90.ints
              simp only [List.map_cons, List.map_map]
              rfl
        · simp only [if_pos h0, h1, RD, List.replicate, List.set, Nat.reduceAdd, Nat.reduceSub, decide_false]
          exact bad (.inr (n4.mpr fun h => h1 h.2))
      · simp only [if_neg h0, RD, List.replicate, List.set, Nat.reduceAdd, Nat.reduceSub]
        exact bad (.inr (n4.mpr fun h => h0 h.1))
end
end GB
end

section
set_option Elab.async false
set_option maxRecDepth 100000
set_option maxHeartbeats 4000000
set_option linter.all false
set_option exponentiation.threshold 100
namespace GB
open PySem L2
section
variable {P : Program} {w : World} {K : PySem.W.Frag} {mg : Str → Option Value} {base : Heap} {t : Ad}
def ar9 (t : Ad) : Sp := fun vs H Q _ => ∃ (B : Addr) (g n : Int) (ρ : Addr → Option Role) (b : Ql90.Board) (L : Lay), vs = [.ref B, .int g, .int n] ∧ BRep t H ρ B b L ∧ zn H Q (b.act (.sums g n)).1
theorem anp (f : Int → V) (l : List Int) : (l.map V.int).filterMap (fun x => match x with | .int z => some (f z) | _ => none) = l.map f := by
  rw [List.filterMap_map]
  exact am _ _
theorem ek : FnScope ["self", "g", "n", "singles", "sums", "single", "number"] ["self", "g", "n"] (defScope dq) := ⟨rfl, rfl, rfl, by decide +kernel, rfl, by decide +kernel, by decide +kernel⟩
theorem ae6 (T : Txt K mg t) : FnOk P w K mg base CX0 7 t.jw t.jr ["self", "g", "n"] (ar9 t) := by
  refine T.mx.ok ek (fun vs H Q E h => ?_) (fun cdv A outer s H vs Q E hr h => ?_)
  · obtain ⟨B, g, n, ρ, b, L, rfl, _⟩ := h
    rfl
  · obtain ⟨B, g, n, ρ, b, L, rfl, R, q⟩ := h
    refine ⟨_, (pss_cons (ps_if (PW.pt (pw_or (pt_not (pt_val (pe_call (yf T) (hr.mono (by decide)) rfl T.rf T.mo.kp T.x6 .nil pass0 (pa_cons (pv 1) pa_nil)))) (pw_or1 (pt_not (pt_chain op_le op_le pe_int (pv 2) (ai T.lv rfl))))))
        (pss_one (ps_ret (pe_lst (pa_cons (pe_un un_neg pe_int) pa_nil))))
        pss_nil)
      (pss_cons (ps_set (i := 3) ek.nd rfl (Or.inl rfl) (pe_meth (pv 0) T.ab T.dw (so T) (hr.mono (by decide)) T.nu .nil pass0 (pa_cons (pv 1) (pa_cons (pv 2) pa_nil))))
      (pss_cons (ps_if (pt_cmpR op_isN (pv 3) pe_non (nomark _))
        (pss_one (ps_ret (pe_lst (pa_cons (pe_un un_neg pe_int) pa_nil))))
        pss_nil)
      (pss_cons (ps_set (i := 4) ek.nd rfl (Or.inl rfl) (pe_call (amt T) (hr.mono (by decide)) rfl T.ace T.xk.kp T.ajb .nil pass0 (pa_cons (pe_lc rfl ek.nd (pi_list (pv 3)) (blkG (own := [("single", 5)]) (N := ["self", "g", "n", "singles", "sums", "single", "number"]) (sc := defScope dq) rfl rfl rfl (by decide +kernel) (by decide +kernel) (by decide +kernel) (by decide +kernel)) (fun _ _ _ _ _ => pg_name (i := 5) ek.nd rfl (Or.inl rfl)) (fun _ _ _ _ _ => pts_nil) (fun _ _ _ _ _ => (pe_call (aa4 T) (hr.mono (by decide)) rfl T.j8 T.cc.kp T.vw .nil pass0 (pa_cons (pv 5) pa_nil)))) pa_nil)))
      (pss_one (ps_ret (pe_op op_cat (pe_lst (pa_cons pe_int pa_nil)) (pe_lc rfl ek.nd (pi_list (pv 4)) (blkG (own := [("number", 6)]) (N := ["self", "g", "n", "singles", "sums", "single", "number"]) (sc := defScope dq) rfl rfl rfl (by decide +kernel) (by decide +kernel) (by decide +kernel) (by decide +kernel)) (fun _ _ _ _ _ => pg_name (i := 6) ek.nd rfl (Or.inl rfl)) (fun _ _ _ _ _ => pts_nil) (fun _ _ _ _ _ => (pe_call (lr T) (hr.mono (by decide)) rfl T.fb T.b6.kp T.kl .nil pass0 (pa_cons (pv 6) pa_nil))))))))))), ?_⟩
    rw [alk] at q
    simp only [RD, List.replicate, List.set, Nat.reduceAdd, Nat.reduceSub]
    refine ⟨trivial, ?_⟩
    have bad : (Ql90.between g 0 63 = false ∨ Ql90.between n 1 256 = false) → 1 ≤ sizeLine ∧ ∀ l, H l = none → Q (.ref l) (upd H l (.lst [.int (-2)])) := by
      intro hb
      rw [if_pos hb] at q
      exact ⟨by decide, q.neg⟩
    cases hg : decide (0 ≤ g) && decide (g < 64) with
    | false =>
      rw [if_pos rfl]
      exact bad (.inl (by rw [vb, hg]))
    | true =>
      rw [if_neg (by simp)]
      by_cases h0 : 1 ≤ n
      · by_cases h1 : n ≤ 256
        · simp only [if_pos h0, h1, RD, List.replicate, List.set, Nat.reduceAdd, Nat.reduceSub, decide_true]
          rw [if_neg (fun h => h trivial), ax R.hB zt]
          rw [if_neg (by rw [vb, hg, n4]; simp; omega)] at q
          rw [Bool.and_eq_true] at hg
          obtain ⟨g, rfl⟩ := natF (of_decide_eq_true hg.1)
          obtain ⟨n, rfl⟩ := natF (show 0 ≤ n by omega)
          rw [Int.toNat_natCast, Int.toNat_natCast] at q
          obtain ⟨e1, e2, e3⟩ := aha R g
          rw [e1, List.length_map] at q
          refine ⟨B, g, n, ρ, b, L, rfl, R, fun hlt H1 hS1 => ?_, fun hlt l H1 hS1 hn1 hl1 => ?_⟩
          · rw [if_pos hlt] at q
            simp only [RD, List.replicate, List.set, Nat.reduceAdd, Nat.reduceSub, true_and]
            exact ⟨by decide, fun l hl => q l _ (hS1.trans (Same.new hl)) (hS1.free hl) upd_same⟩
          · rw [if_neg hlt] at q
            simp only [RD, List.replicate, List.set, Nat.reduceAdd, Nat.reduceSub, true_and, reduceCtorEq]
            have hz := alb n (trOf L g)
            have htk : ∀ z ∈ Ql90.last n (trOf L g), Tok' z := fun z hz => e2 z (akz hz)
            rw [ahx, amk htk] at q
            have hne : 0 < (Ql90.last n (trOf L g)).length := by rw [z8, List.length_drop]; omega
            generalize Ql90.last n (trOf L g) = ls at *
            refine zm (H1 := H1) (a := l) (xs := ls.map V.int) (by rw [List.length_map, sizeLine_eq]; omega) (fun x => match x with | .int z => some (.int (z * (S25 : Int))) | _ => none) (fun R r => ?_) (SqL.of hl1) (fun x hx H' hH R' r => ⟨rfl, ?_⟩) (fun D H' hD hH hl' => ?_)
            · simp only [RD, List.replicate, List.set, Nat.reduceAdd, Nat.reduceSub]
              exact r
            · obtain ⟨z, hz, rfl⟩ := List.mem_map.mp hx
              simp only [RD, List.replicate, List.set, Nat.reduceAdd, Nat.reduceSub, wipe, tYes]
              exact ⟨(htk z hz).sm.mono (by decide), r _ (Same.refl _)⟩
            · rw [anp] at hl'
              have hyk : ∀ y ∈ ls.map fun z => z * (S25 : Int), Yok y := by
                intro y hy
                obtain ⟨z, hz, rfl⟩ := List.mem_map.mp hy
                exact (ai2 (htk z hz)).2
              have hll : (ls.map fun z => z * (S25 : Int)).length = ls.length := List.length_map _
              have hl2 : H' D = some (.lst ((ls.map fun z => z * (S25 : Int)).map V.int)) := by rw [hl', List.map_map]; rfl
              generalize (ls.map fun z => z * (S25 : Int)) = ms at *
              cases ms with
              | nil => simp at hll; omega
              | cons n0 ns =>
                have hlen : (n0 :: ns).length ≤ 256 := by omega
                rw [asz n0 ns hyk hlen] at q
                refine ⟨D, n0, ns, rfl, SqL.of hl2, hyk, hlen, fun l3 H3 hS3 hn3 hl3 => ?_⟩
                refine ⟨by decide, fun p hp => ?_⟩
                have S2 := Same.new (o := .lst [V.int 0]) hp
                have b1 := agw _ hyk hlen
                have b2 := ai6 _ hyk hlen
                have m1 := (hyk _ (afj ns n0).1).sm
                have m2 := (hyk _ (afd ns n0).1).sm
                refine zm (H1 := upd H3 p (.lst [V.int 0])) (a := l3) (xs := [mall madd (n0 :: ns), mall msq (n0 :: ns), mmin n0 ns, mmax n0 ns].map V.int) (by show 4 ≤ sizeLine; decide) (fun x => match x with | .int z => some (.int (DB z : Nat)) | _ => none) (fun R r => ?_) (SqL.of (S2 _ _ hl3)) (fun x hx H' hH R' r => ⟨rfl, ?_⟩) (fun D2 H4 hD2 hH4 hl4 => ?_)
                · simp only [RD, List.replicate, List.set, Nat.reduceAdd, Nat.reduceSub]
                  exact r
                · obtain ⟨z, hz, rfl⟩ := List.mem_map.mp hx
                  simp only [RD, List.replicate, List.set, Nat.reduceAdd, Nat.reduceSub, wipe, tYes]
                  refine ⟨?_, r _ (Same.refl _)⟩
                  simp only [List.mem_cons, List.not_mem_nil, or_false] at hz
                  rcases hz with rfl | rfl | rfl | rfl
                  · exact (abu b1.2.2).mono (by decide)
                  · exact (abu b2.2.2).mono (by decide)
                  · exact m1.mono (by decide)
                  · exact m2.mono (by decide)
                · rw [anp] at hl4
                  refine zg ((((hS1.trans hH).trans hS3).trans S2).trans hH4) (hH4 _ _ upd_same) hl4 (by show 1 + 4 ≤ 10000; decide) fun l' H5 hS5 hn5 hl5 => q l' H5 hS5 hn5 ?_
                  rw [hl5]
                  unfold ansV Ql90.ints
                  simp only [List.map_cons, List.map_nil, List.cons_append, List.nil_append]
        · simp only [if_pos h0, h1, RD, List.replicate, List.set, Nat.reduceAdd, Nat.reduceSub, decide_false]
          exact bad (.inr (n4.mpr fun h => h1 h.2))
      · simp only [if_neg h0, RD, List.replicate, List.set, Nat.reduceAdd, Nat.reduceSub]
        exact bad (.inr (n4.mpr fun h => h0 h.1))
end
end GB
end

section
set_option Elab.async false
set_option maxRecDepth 100000
set_option maxHeartbeats 4000000
set_option linter.all false
set_option exponentiation.threshold 100
namespace GB
open PySem L2
section
variable {P : Program} {w : World} {K : PySem.W.Frag} {mg : Str → Option Value} {base : Heap} {t : Ad}
def yOf (ys : List Int) (g : Nat) : Nat := (aaw ys).getD g 0
theorem agz (b : Ql90.Board) (wh : Nat) (ys : List Int) (n : Nat) (hn : n ≤ 1024) (f : Ql90.Bytes) : (b.act (.points wh (aaw ys) (n : Int) f)).1 =
    if ((Ql90.those wh).all fun g => Ql90.fair (yOf ys g)) = false then Ql90.only (-2) else if ((Ql90.those wh).all fun g => canB b g && ou b n g) = false then Ql90.only (-3)
    else ⟨((b.points (yOf ys) (Ql90.those wh) f).2 : Int), (b.points (yOf ys) (Ql90.those wh) f).1.map fun (c : UInt8) => (c.toNat : Int)⟩ := by
  have hb : Ql90.between (n : Int) 0 Ql90.PLACES = true := by
    rw [ab6, Bool.and_eq_true]
    exact ⟨decide_eq_true (by omega), decide_eq_true (by show (n : Int) ≤ ((1024 : Nat) : Int); omega)⟩
  show (if Ql90.between (n : Int) 0 Ql90.PLACES = false ∨ ((Ql90.those wh).all fun g => Ql90.fair (yOf ys g)) = false then (Ql90.only (-2), b)
    else if b.ready wh (n : Int).toNat = false ∨ ((Ql90.those wh).all fun (g : Nat) => (b.pointed g 0).isSome) = false then (Ql90.only (-3), b)
    else (⟨((b.points (yOf ys) (Ql90.those wh) f).2 : Int), (b.points (yOf ys) (Ql90.those wh) f).1.map fun (c : UInt8) => (c.toNat : Int)⟩, b)).1 = _
  have hr : b.ready wh (n : Int).toNat = (Ql90.those wh).all (ou b n) := by rw [Int.toNat_natCast]; rfl
  have hc : ((Ql90.those wh).all fun (g : Nat) => (b.pointed g 0).isSome) = (Ql90.those wh).all (canB b) := by
    congr 1
    funext g
    exact afx b g 0
  rw [hb, hr, hc, aqo]
  cases (Ql90.those wh).all fun g => Ql90.fair (yOf ys g) with
  | false => rfl
  | true =>
    cases (Ql90.those wh).all (canB b) <;> cases (Ql90.those wh).all (ou b n) <;> rfl
def aqx (K : PySem.W.Frag) (t : Ad) : Sp := fun vs H Q _ => ∃ (B ya fa : Addr) (which : Int) (ys fr : List Int) (ρ : Addr → Option Role) (b : Ql90.Board) (L : Lay), vs = [.ref B, .int which, .ref ya, .ref fa] ∧ B64 which ∧ BRep t H ρ B b L ∧ SqL K H ya (ys.map V.int) ∧ ys.length = 64 ∧ (∀ y ∈ ys, B64 y) ∧ SqL K H fa (fr.map V.int) ∧ (∀ x ∈ fr, o8 x) ∧ fr.length ≤ 1024 ∧
  zn H Q (b.act (.points which.toNat (aaw ys) (fr.length : Int) (fr.map jh))).1
theorem asb {H : Hp} {ρ : Addr → Option Role} {B : Addr} {b : Ql90.Board} {L : Lay} (R : BRep t H ρ B b L) {g n : Nat} (hc : canB b g = true) (hf : ou b n g = true) : ∃ x, b.at_ g = some x ∧ g ∈ L.ks ∧ GRep t H L g x ∧ x.g.a ≠ 0 ∧ x.g.place + wd x.g.kind ≤ n := by
  unfold canB ou at *
  cases e : b.at_ g with
  | none => rw [e] at hc; cases hc
  | some x =>
    rw [e, Option.any_some] at hc hf
    refine ⟨x, rfl, (R.mem g).mpr (by rw [e]; rfl), R.gau g x e, by simpa using hc, ?_⟩
    have := of_decide_eq_true hf
    rw [lp] at this
    exact this
theorem ap5 {K : PySem.W.Frag} {H : Hp} {ta : TA} {g : TG} {tb : TS} {D : Ends} {σ : St} (h : ta σ H fun vs H1 => tFor (iEnum K (fun _ H Q => Q vs H)) g tb D σ H1) : tFor (iEnum K ta) g tb D σ H := h
theorem ar3 (z : V) (bs : List V) : cutV (z :: bs) (some 1) none = bs := by
  unfold cutV HT.sIx
  dsimp only
  rw [if_neg (by decide)]
  have e : min (Int.toNat 1) (z :: bs).length = 1 := by rw [List.length_cons]; omega
  simp only [e, List.drop_one, List.tail_cons]
  rw [List.take_of_length_le (by rw [List.length_cons]; omega)]
theorem at0 {α : Type} (x : α) (l : List α) : atI (x :: l) (0 : Int) = some x := atI_nat (j := 0) rfl
def φ8 (c : UInt8) : V := V.int (c.toNat : Int)
theorem φ8_map (f : List UInt8) : f.map φ8 = (f.map fun (c : UInt8) => (c.toNat : Int)).map V.int := by rw [List.map_map]; rfl
theorem asu {n j : Nat} (h : j < n) : ixN n (j : Int) = some j := by
  unfold ixN
  rw [if_pos (Int.natCast_nonneg _), if_pos (by omega), Int.toNat_natCast]
theorem ae : FnScope ["self", "which", "y", "frame", "numbers", "filled", "others", "g", "gauge", "sent", "i", "byte"] ["self", "which", "y", "frame"] (defScope bn) := ⟨rfl, rfl, rfl, by decide +kernel, rfl, by decide +kernel, by decide +kernel⟩
theorem acz (T : Txt K mg t) : FnOk P w K mg base CX0 7 t.fw t.fi ["self", "which", "y", "frame"] (aqx K t) := by
  refine T.j3.ok ae (fun vs H Q E h => ?_) (fun cdv A outer s H vs Q E hr h => ?_)
  · obtain ⟨B, ya, fa, wh, ys, fr, ρ, b, L, rfl, _⟩ := h
    rfl
  · obtain ⟨B, ya, fa, wh, ys, fr, ρ, b, L, rfl, hw, R, hY, hYl, hYb, hF, hFb, hFl, q⟩ := h
    refine ⟨_, (pss_cons (ps_set (i := 4) ae.nd rfl (Or.inl rfl) (pe_call (wu T) (hr.mono (by decide)) rfl T.ot T.ke.kp T.vx .nil pass0 (pa_cons (pv 1) pa_nil)))
      (pss_cons (ps_if (pt_not (pt_val (pe_callB (cr_all rfl) (by rfl) T.afu zf (pa_cons (pe_lc rfl ae.nd (pi_list (pv 4)) (blkG (own := [("g", 7)]) (N := ["self", "which", "y", "frame", "numbers", "filled", "others", "g", "gauge", "sent", "i", "byte"]) (sc := defScope bn) rfl rfl rfl (by decide +kernel) (by decide +kernel) (by decide +kernel) (by decide +kernel)) (fun _ _ _ _ _ => pg_name (i := 7) ae.nd rfl (Or.inl rfl)) (fun _ _ _ _ _ => pts_nil) (fun _ _ _ _ _ => (pe_call (afy T) (hr.mono (by decide)) rfl T.x8 T.rh.kp T.ac8 .nil pass0 (pa_cons (pe_ix (arg K rfl) (pv 2) (pv 7) (fun _ _ => rfl)) pa_nil)))) pa_nil))))
        (pss_one (ps_ret (pe_lst (pa_cons (pe_un un_neg pe_int) pa_nil))))
        pss_nil)
      (pss_cons (ps_if (pt_not (pt_val (pe_callB (cr_all rfl) (by rfl) T.afu zf (pa_cons (pe_lc rfl ae.nd (pi_list (pv 4)) (blkG (own := [("g", 7)]) (N := ["self", "which", "y", "frame", "numbers", "filled", "others", "g", "gauge", "sent", "i", "byte"]) (sc := defScope bn) rfl rfl rfl (by decide +kernel) (by decide +kernel) (by decide +kernel) (by decide +kernel)) (fun _ _ _ _ _ => pg_name (i := 7) ae.nd rfl (Or.inl rfl)) (fun _ _ _ _ _ => pts_nil) (fun _ _ _ _ _ => (pe_and (pe_meth (pv 0) T.ab T.kf (xx T) (hr.mono (by decide)) T.tu .nil pass0 (pa_cons (pv 7) pa_nil)) (pe_one (pe_meth (pv 0) T.ab T.sy (acr T) (hr.mono (by decide)) T.aas .nil pass0 (pa_cons (pv 7) (pa_cons (pe_callB (aiq K rfl) (by rfl) T.zr PySem.boot_len (pa_cons (pv 3) pa_nil)) pa_nil))))))) pa_nil))))
        (pss_one (ps_ret (pe_lst (pa_cons (pe_un un_neg pe_int) pa_nil))))
        pss_nil)
      (pss_cons (ps_set (i := 5) ae.nd rfl (Or.inl rfl) (pe_callTy call_list_of (by rfl) T.aes aho (pa_cons (pv 3) pa_nil)))
      (pss_cons (ps_set (i := 6) ae.nd rfl (Or.inl rfl) pe_int)
      (pss_cons (ps_for PassesOwn.never rfl (pi_list (pv 4)) (pg_name (i := 7) ae.nd rfl (Or.inl rfl))
        (pss_cons (ps_set (i := 8) ae.nd rfl (Or.inl rfl) (pe_dget (hu_of hr) (pe_fld (pv 0) rfl) (pv 7) (fun _ _ => rfl)))
      (pss_cons (ps_set (i := 9) ae.nd rfl (Or.inl rfl) (pe_call (ad9 T) (hr.mono (by decide)) rfl T.vz T.o5.kp T.abn .nil pass0 (pa_cons (pv 8) (pa_cons (pe_ix ix_list (pv 2) (pv 7) (fun _ _ => rfl)) pa_nil))))
      (pss_cons (ps_aug (i := 6) ae.nd rfl (Or.inl rfl) (pe_ix ix_list (pv 9) pe_int (fun _ _ => rfl)) atr)
      (pss_one (ps_for PassesOwn.never rfl (pi_enum rfl T.vp (pa_cons (pe_slice sl_list (pv 9) (po_some pe_int) po_none) pa_nil)) (pg_tup (n := 2) rfl (pgs_cons (pg_name (i := 10) ae.nd rfl (Or.inl rfl)) (pgs_cons (pg_name (i := 11) ae.nd rfl (Or.inl rfl)) pgs_nil)))
        (pss_one (ps_asg (pv 11) (pg_sub (pv 5) (pe_op op_add (pe_fld (pv 8) rfl) (pv 10)) set_list)))))))))
      (pss_one (ps_ret (pe_op op_cat (pe_lst (pa_cons (pv 6) pa_nil)) (pv 5)))))))))), ?_⟩
    rw [agz b _ ys fr.length hFl] at q
    have hyg : ∀ g, g < 64 → ∃ z, ys[g]? = some z ∧ B64 z ∧ yOf ys g = z.toNat := by
      intro g hg
      have hg' : g < ys.length := by omega
      exact ⟨ys[g], List.getElem?_eq_getElem hg', hYb _ (List.getElem_mem hg'), ap2 (List.getElem?_eq_getElem hg')⟩
    simp only [RD, List.replicate, List.set, Nat.reduceAdd, Nat.reduceSub]
    refine ⟨wh, rfl, hw, fun l H1 hS1 hn1 hl1 => ?_⟩
    refine ox (H1 := H1) (a := l) (ks := Ql90.those wh.toNat) (f := fun g => .int (g : Int)) (wp _) (fun g => some (.bl (Ql90.fair (yOf ys g)))) (fun R r => ?_) (SqL.of hl1) (fun g hg H' hH R' r => ⟨rfl, ?_⟩) (fun D H2 hD hH hl2 => ?_)
    · simp only [RD, List.replicate, List.set, Nat.reduceAdd, Nat.reduceSub]
      exact r
    · obtain ⟨z, hz, hzb, e⟩ := hyg g (ahk hg)
      simp only [RD, List.replicate, List.set, Nat.reduceAdd, Nat.reduceSub, wipe, tYes]
      refine ixL ((hS1.trans hH).seq hY) (atI_nat (v := .int z) (by rw [List.getElem?_map, hz]; rfl)) ?_
      simp only [RD, List.replicate, List.set, Nat.reduceAdd, Nat.reduceSub]
      refine ⟨hzb, ?_⟩
      rw [← e]
      exact r _ (Same.refl _)
    · rw [am] at hl2
      have S2 := hS1.trans hH
      refine allB (bs := (Ql90.those wh.toNat).map fun g => Ql90.fair (yOf ys g)) (SqL.of (by rw [hl2, List.map_map]; rfl)) ?_
      rw [aeo]
      simp only [RD, List.replicate, List.set, Nat.reduceAdd, Nat.reduceSub]
      cases hfair : (Ql90.those wh.toNat).all fun g => Ql90.fair (yOf ys g) with
      | false =>
        rw [hfair, if_pos rfl] at q
        rw [if_pos rfl]
        exact ⟨by decide, fun l hl => q l _ (S2.trans (Same.new hl)) (S2.free hl) upd_same⟩
      | true =>
        rw [hfair, if_neg (by simp)] at q
        rw [if_neg (by simp)]
        refine ox (H1 := H2) (a := l) (ks := Ql90.those wh.toNat) (f := fun g => .int (g : Int)) (wp _) (fun g => some (.bl (canB b g && ou b fr.length g))) (fun R r => ?_) (SqL.of (hH _ _ hl1)) (fun g hg H' hH' R' r => ⟨rfl, ?_⟩) (fun D3 H3 hD3 hH3 hl3 => ?_)
        · simp only [RD, List.replicate, List.set, Nat.reduceAdd, Nat.reduceSub]
          exact r
        · have R3 := R.same (S2.trans hH')
          have r := r _ (Same.refl _)
          simp only [RD, List.replicate, List.set, Nat.reduceAdd, Nat.reduceSub, wipe, tYes, ax R3.hB adx, ax R3.hB aj4]
          refine ⟨B, g, ρ, b, L, rfl, R3, _, rfl, ?_⟩
          cases hc : canB b g with
          | false =>
            rw [hc, Bool.false_and] at r
            rw [if_neg (by simp)]
            exact r
          | true =>
            rw [hc, Bool.true_and] at r
            rw [if_pos rfl, ax R3.hB aj4]
            refine ⟨fa, _, rfl, .inl ((S2.trans hH').seq hF), ?_⟩
            rw [List.length_map]
            exact ⟨B, g, fr.length, ρ, b, L, rfl, R3, r⟩
        · rw [am] at hl3
          have S3 := S2.trans hH3
          refine allB (bs := (Ql90.those wh.toNat).map fun g => canB b g && ou b fr.length g) (SqL.of (by rw [hl3, List.map_map]; rfl)) ?_
          rw [aeo]
          simp only [RD, List.replicate, List.set, Nat.reduceAdd, Nat.reduceSub]
          cases hready : (Ql90.those wh.toNat).all fun g => canB b g && ou b fr.length g with
          | false =>
            rw [hready, if_pos rfl] at q
            rw [if_pos rfl]
            exact ⟨by decide, fun l hl => q l _ (S3.trans (Same.new hl)) (S3.free hl) upd_same⟩
          | true =>
            rw [hready, if_neg (by simp)] at q
            rw [if_neg (by simp)]
            refine ⟨fa, _, rfl, .inl (S3.seq hF), fun fl hfl => ?_⟩
            have S4 := S3.trans (Same.new (o := .lst (fr.map V.int)) hfl)
            have hnfl : H fl = none := S3.free hfl
            have hlfl : l ≠ fl := by
              intro e
              rw [e] at hl1
              rw [hH3 _ _ (hH _ _ hl1)] at hfl
              cases hfl
            have hall : ∀ g ∈ Ql90.those wh.toNat, Ql90.fair (yOf ys g) = true ∧ canB b g = true ∧ ou b fr.length g = true := by
              intro g hg
              have h1 := List.all_eq_true.mp hfair g hg
              have h2 := List.all_eq_true.mp hready g hg
              rw [Bool.and_eq_true] at h2
              exact ⟨h1, h2⟩
            generalize hth : Ql90.those wh.toNat = th at *
            have hth64 : ∀ g ∈ th, g < 64 := fun g hg => by rw [← hth] at hg; exact ahk hg
            refine forL (i := 4) rfl (SqL.of (Same.new (o := .lst (fr.map V.int)) hfl _ _ (hH3 _ _ (hH _ _ hl1)))) (fun i σ H' => (∃ v7 v8 v9 v10 v11, ∃ (Fi : List UInt8) (ci : Nat), σ = [some (.ref B), some (.int wh), some (.ref ya), some (.ref fa), some (.ref l), some (.ref fl), some (.int (ci : Int)), v7, v8, v9, v10, v11] ∧ H' fl = some (.lst (Fi.map φ8)) ∧ Fi.length = fr.length ∧
                (b.points (yOf ys) (th.drop i) Fi).1 = (b.points (yOf ys) th (fr.map jh)).1 ∧ (b.points (yOf ys) (th.drop i) Fi).2 + ci = (b.points (yOf ys) th (fr.map jh)).2) ∧ Same H H' ∧ H' l = some (.lst (natV th)))
              ⟨⟨_, _, _, _, _, fr.map jh, 0, rfl, by rw [upd_same, φ8_map, ak5 hFb], by rw [List.length_map], rfl, rfl⟩, S4, Same.new (o := .lst (fr.map V.int)) hfl _ _ (hH3 _ _ (hH _ _ hl1))⟩ (fun i σ H' _ h' => SqL.of h'.2.2) (fun i x σ H' hx h' => ?_) (fun σ H' h' => ?_)
            · obtain ⟨⟨v7, v8, v9, v10, v11, Fi, ci, rfl, hfl', hFi, hp1, hp2⟩, hS', hl'⟩ := h'
              have hgi : ∃ g, th[i]? = some g ∧ x = .int (g : Int) := by
                unfold natV at hx
                rw [List.getElem?_map] at hx
                cases e : th[i]? with
                | none => rw [e] at hx; cases hx
                | some g => rw [e] at hx; exact ⟨g, rfl, (Option.some.inj hx).symm⟩
              obtain ⟨g, hg, rfl⟩ := hgi
              have hgm : g ∈ th := List.mem_of_getElem? hg
              obtain ⟨a1, a2, a3⟩ := hall g hgm
              have R5 := R.same hS'
              obtain ⟨x, hx, hin, G, ha, hfit⟩ := asb R5 a2 a3
              obtain ⟨z, hz, hzb, ez⟩ := hyg g (hth64 g hgm)
              have hdrop : th.drop i = g :: th.drop (i + 1) := by
                obtain ⟨hi, e⟩ := List.getElem?_eq_some_iff.mp hg
                rw [List.drop_eq_getElem_cons hi, e]
              have hz64 : z.toNat < 2 ^ 64 := by have := hzb.1; have := hzb.2; omega
              rw [ez] at a1
              have hpt := adt (y := yOf ys g) hx G.ok.good ha (by rw [ez]; exact hz64) (by rw [ez]; exact a1)
              have hstep : b.points (yOf ys) (g :: th.drop (i + 1)) Fi = ((b.points (yOf ys) (th.drop (i + 1)) (Ql90.put Fi x.g.place (Ql90.bytes x.g.kind (hold (sk x.g (yOf ys g)) x.g.kind)))).1,
                  (b.points (yOf ys) (th.drop (i + 1)) (Ql90.put Fi x.g.place (Ql90.bytes x.g.kind (hold (sk x.g (yOf ys g)) x.g.kind)))).2 + if (hold (sk x.g (yOf ys g)) x.g.kind != sk x.g (yOf ys g)) = true then 1 else 0) := by
                show (match b.pointed g (yOf ys g) with
                  | none => b.points (yOf ys) (th.drop (i + 1)) Fi
                  | some x => _) = _
                rw [hpt]
              rw [hdrop, hstep] at hp1 hp2
              have hget := R5.get g
              rw [if_pos hin] at hget
              simp only [RD, List.replicate, List.set, Nat.reduceAdd, Nat.reduceSub, tDGet, af R5.hB T.ab T.aj ft]
              refine ⟨_, _, rfl, hget, ?_⟩
              refine ixL (hS'.seq hY) (atI_nat (v := .int z) (by rw [List.getElem?_map, hz]; rfl)) ?_
              refine ⟨_, _, _, _, _, _, _, rfl, G.hp, G.ok.good, fun e => ha (G.ok.good.a.ne.mp e), hzb, a1, fun l4 H4 hS4 hn4 hl4 => ?_⟩
              have es : sk x.g (yOf ys g) = acp (st z.toNat) (st x.g.b) (st x.g.a) := by rw [ez]; rfl
              rw [es] at hp1 hp2
              have hp1 := hp1
              generalize acp (st z.toNat) (st x.g.b) (st x.g.a) = asked at hp1 hp2 hl4
              simp only [RD, List.replicate, List.set, Nat.reduceAdd, Nat.reduceSub]
              refine ixL (SqL.of hl4) (at0 _ _) ?_
              simp only [RD, List.replicate, List.set, Nat.reduceAdd, Nat.reduceSub]
              refine ap5 ?_
              simp only [RD, List.replicate, List.set, Nat.reduceAdd, Nat.reduceSub]
              refine slL (SqL.of hl4) fun l5 hl5 => ?_
              rw [ar3]
              have S5 := Same.new (o := .lst ((qv (hold asked x.g.kind) x.g.kind).map V.int)) hl5
              have S45 := hS4.trans S5
              have eb : (qv (hold asked x.g.kind) x.g.kind).map V.int = (Ql90.bytes x.g.kind (hold asked x.g.kind)).map φ8 := by rw [φ8_map, alt G.ok.kind]
              have hbl : ((qv (hold asked x.g.kind) x.g.kind).map V.int).length = wd x.g.kind := by rw [List.length_map, ab3]
              generalize hbs : (qv (hold asked x.g.kind) x.g.kind).map V.int = bs at *
              have n45 : l5 ≠ fl := by
                intro e
                rw [e, hS4 _ _ hfl'] at hl5
                cases hl5
              have n5l : l5 ≠ l := by
                intro e
                rw [e, hS4 _ _ hl'] at hl5
                cases hl5
              have hFv : (Fi.map φ8).length = fr.length := by rw [List.length_map]; exact hFi
              refine forE (H1 := upd H4 l5 (.lst bs)) (a := l5) (xs := bs) (fun R r => r) (SqL.of upd_same) (fun j σ H' => (∃ v10 v11, σ = [some (.ref B), some (.int wh), some (.ref ya), some (.ref fa), some (.ref l), some (.ref fl), some (.int ((ci : Int) + if hold asked x.g.kind = asked then 0 else 1)), some (.int (g : Int)), some (.ref (L.po g)), some (.ref l4), v10, v11]) ∧
                  Same H H' ∧ H' l = some (.lst (natV th)) ∧ H' l5 = some (.lst bs) ∧ H' fl = some (.lst (mput (Fi.map φ8) x.g.place (bs.take j))))
                ⟨⟨_, _, rfl⟩, hS'.trans S45, S45 _ _ hl', upd_same, by rw [List.take_zero, ap3]; exact S45 _ _ hfl'⟩ (fun j σ H' _ h' => SqL.of h'.2.2.2.1) (fun j y σ H6 H7 hy h6 hS7 => ?_) (fun σ H6 h6 => ?_)
              · obtain ⟨⟨v10, v11, rfl⟩, k1, k2, k3, k4⟩ := h6
                have R7 := R.same (k1.trans hS7)
                have G7 := R7.gau g x hx
                have hj := (List.getElem?_eq_some_iff.mp hy).1
                have htl : (bs.take j).length = j := by rw [List.length_take]; omega
                simp only [RD, List.replicate, List.set, Nat.reduceAdd, Nat.reduceSub, gSub, af G7.hp T.aa T.ko ahj]
                have hpos : x.g.place + j < (Fi.map φ8).length := by omega
                have hml : (mput (Fi.map φ8) x.g.place (bs.take j)).length = (Fi.map φ8).length := aqq _ _ _ (by omega)
                refine ⟨fl, _, _, x.g.place + j, rfl, by rw [← Int.natCast_add], hS7 _ _ k4, asu (by omega), ⟨_, _, rfl⟩, fun c o e => ?_, ?_, ?_, ?_⟩
                · rw [upd_ne (ne_of_none e hnfl)]
                  exact hS7 _ _ (k1 _ _ e)
                · rw [upd_ne hlfl]
                  exact hS7 _ _ k2
                · rw [upd_ne n45]
                  exact hS7 _ _ k3
                · have e := apm (Fi.map φ8) x.g.place (bs.take j) y (by omega)
                  rw [htl] at e
                  rw [upd_same, e, List.take_add_one, hy]
                  rfl
              · obtain ⟨⟨v10, v11, rfl⟩, k1, k2, k3, k4⟩ := h6
                rw [List.take_length, eb, ← asv] at k4
                have hbl2 : (Ql90.bytes x.g.kind (hold asked x.g.kind)).length = wd x.g.kind := by rw [eb, List.length_map] at hbl; exact hbl
                refine ⟨⟨some (.int (g : Int)), some (.ref (L.po g)), some (.ref l4), v10, v11, _, ci + (if hold asked x.g.kind = asked then 0 else 1), ?_, k4, ?_, hp1, ?_⟩, k1, k2⟩
                · by_cases h : hold asked x.g.kind = asked
                  · rw [if_pos h, if_pos h]
                    rfl
                  · rw [if_neg h, if_neg h]
                    rfl
                · rw [ant _ _ _ (by omega)]
                  exact hFi
                · rw [← hp2]
                  by_cases h : hold asked x.g.kind = asked
                  · rw [if_pos h, if_neg (by rw [bne_iff_ne]; exact fun h' => h' h)]
                    rfl
                  · rw [if_neg h, if_pos (by rw [bne_iff_ne]; exact h)]
                    omega
            · obtain ⟨⟨v7, v8, v9, v10, v11, Fi, ci, rfl, hfl', hFi, hp1, hp2⟩, hS', hl'⟩ := h'
              have hnil : th.drop (natV th).length = [] := by
                unfold natV
                rw [List.length_map]
                exact List.drop_length
              rw [hnil] at hp1 hp2
              have e1 : b.points (yOf ys) [] Fi = (Fi, 0) := rfl
              rw [e1] at hp1 hp2
              simp only [RD, List.replicate, List.set, Nat.reduceAdd, Nat.reduceSub]
              refine ⟨by decide, fun p hp => zg (hS'.trans (Same.new hp)) upd_same (by rw [upd_ne (ne_of_none hfl' hp)]; exact hfl') ?_ fun l' H7 hS7 hn7 hl7 => q l' H7 hS7 hn7 ?_⟩
              · rw [List.length_map, List.length_singleton]
                omega
              · rw [hl7, ← hp1, ← hp2]
                unfold ansV
                rw [φ8_map]
                simp only [Nat.zero_add]
                rfl
end
end GB
end

section
set_option Elab.async false
set_option maxRecDepth 100000
set_option maxHeartbeats 4000000
set_option linter.all false
namespace GB
open PySem L2
theorem apf {y l : Int} (hy : Yok y) (hl : Yok l) : (if Ql90.below (DB y) (DB l) = true then DB y else DB l) = DB (min l y) := by
  rw [ad4 hy.good hl.good]
  by_cases h : y < l
  · rw [if_pos (decide_eq_true h), show min l y = y by omega]
  · rw [if_neg (by rw [decide_eq_false h]; exact Bool.false_ne_true), show min l y = l by omega]
theorem aod {y l : Int} (hy : Yok y) (hl : Yok l) : (if Ql90.below (DB l) (DB y) = true then DB y else DB l) = DB (max l y) := by
  rw [ad4 hl.good hy.good]
  by_cases h : l < y
  · rw [if_pos (decide_eq_true h), show max l y = y by omega]
  · rw [if_neg (by rw [decide_eq_false h]; exact Bool.false_ne_true), show max l y = l by omega]
theorem ame (x : Ql90.Slot) (raw : Int) : (x.reads raw).seen = some (match x.seen with | none => ⟨raw, x.g.value raw, x.g.value raw, x.g.value raw, x.g.value raw⟩ | some s => s.next x.g.w raw (x.g.value raw)) := rfl
theorem aky (x : Ql90.Slot) (raw : Int) : (x.reads raw).state = x.g.next x.state (x.g.value raw) := rfl
theorem apr : Ql90.TRACE = 256 := rfl
theorem ak4 (x : Ql90.Slot) (raw : Int) : (x.reads raw).trace = Ql90.last 256 (x.trace ++ [Ql90.single (x.g.value raw)]) := by
  rw [← apr]
  rfl
theorem asr (x : Ql90.Slot) (raw : Int) : (x.reads raw).g = x.g := rfl
theorem asc {a b : Int} (ha : Yok a) (hb : Yok b) : Yok (min a b) := by
  rcases Int.le_total a b with h | h
  · rw [show min a b = a by omega]; exact ha
  · rw [show min a b = b by omega]; exact hb
theorem asy {a b : Int} (ha : Yok a) (hb : Yok b) : Yok (max a b) := by
  rcases Int.le_total a b with h | h
  · rw [show max a b = b by omega]; exact hb
  · rw [show max a b = a by omega]; exact ha
theorem ahc (y l0 l1 l2 l3 : Int) : su y l0 l1 l2 l3 ≤ 4 := by
  unfold su
  split
  · decide
  · split
    · decide
    · split
      · decide
      · split <;> decide
theorem ap8 {s : Nat} (hs : s ≤ 4) (y l0 l1 l2 l3 h : Int) : afs s y l0 l1 l2 l3 h ≤ 4 := by
  unfold afs
  have h1 := ahc y l0 l1 l2 l3
  have h2 := ahc y (nd (l0 + h) 1 53) (nd (l1 + h) 1 53) l2 l3
  have h3 := ahc y l0 l1 (nd (l2 - h) 1 53) (nd (l3 - h) 1 53)
  repeat' split
  all_goals omega
theorem wb.reads {x : Ql90.Slot} {m : MR} {xs : List Int} (S : wb x m xs) {raw : Int} (hr : raw.natAbs ≤ 2 ^ 64) : wb (x.reads raw) (zh x.g m raw) (mtr xs (msi (mval (st x.g.a) (st x.g.b) raw))) := by
  obtain ⟨ev, hy⟩ := ai0 S.good hr
  have hseen := ame x raw
  have hstate := aky x raw
  have htrace := ak4 x raw
  rw [ev] at hseen hstate htrace
  rw [ar4 S.good x.state hy, S.state] at hstate
  rw [ag5 hy, S.trace] at htrace
  have hs := S.seen
  unfold zh
  generalize mval (st x.g.a) (st x.g.b) raw = y at *
  have hcase : ∃ s', (x.reads raw).seen = Option.some ⟨raw, DB y, DB s', DB (if m.has = true then min m.lea y else y), DB (if m.has = true then max m.gre y else y)⟩ ∧ s' = (if m.has = true then msm y m.smo (st x.g.w) else y) ∧ Sok s' ∧ Yok (if m.has = true then min m.lea y else y) ∧ Yok (if m.has = true then max m.gre y else y) := by
    cases hh : m.has with
    | false =>
      rw [hh, if_neg (by simp)] at hs
      rw [hs] at hseen
      simp only [Bool.false_eq_true, if_false]
      dsimp only at hseen
      exact ⟨y, hseen, rfl, hy.sok, hy, hy⟩
    | true =>
      obtain ⟨v1, v2, v3, v4⟩ := S.vals hh
      rw [hh, if_pos rfl] at hs
      rw [hs] at hseen
      simp only [if_true]
      dsimp only [Ql90.Seen.next] at hseen
      rw [apt hy v2 S.good.w0 S.good.w1, apf hy v3, aod hy v4] at hseen
      exact ⟨msm y m.smo (st x.g.w), hseen, rfl, aq0 hy v2 S.good.w0 S.good.w1, asc v3 hy, asy v4 hy⟩
  obtain ⟨s', h1, h2, h3, h4, h5⟩ := hcase
  subst h2
  refine ⟨S.good, S.kind, S.place, hstate, ?_, fun _ => ⟨hy, h3, h4, h5⟩, ?_, ?_, ?_, ap8 S.st4 _ _ _ _ _ _⟩
  · rw [h1, if_pos rfl]
  · rw [htrace]
    have e : xs.map SB ++ [SB (msi y)] = (xs ++ [msi y]).map SB := by rw [List.map_append, List.map_cons, List.map_nil]
    rw [e, ahx, air 256 xs (msi y) S.len]
    unfold mtr
    with_reducible rfl
  · intro z hz
    have hz' : z ∈ xs ++ [msi y] := by
      unfold mtr at hz
      split at hz
      · exact List.mem_of_mem_drop hz
      · exact hz
    rcases List.mem_append.mp hz' with h | h
    · exact S.toks z h
    · rw [List.mem_singleton.mp h]
      exact amp hy
  · have := S.len
    unfold mtr
    split
    · rw [List.length_drop, List.length_append, List.length_singleton]
      omega
    · rename_i h
      omega
end GB
end

section
set_option Elab.async false
set_option maxRecDepth 100000
set_option maxHeartbeats 4000000
set_option linter.all false
namespace GB
open PySem L2
section
variable {t : Ad} {H H' : Hp} {ρ : Addr → Option Role} {B : Addr} {b : Ql90.Board} {L : Lay}
def setS (b : Ql90.Board) (g : Nat) (o : Option Ql90.Slot) : Ql90.Board := { b with slots := b.slots.set g o }
theorem ahi (h : b.slots.length = 64) {g : Nat} (hg : g < 64) (o : Option Ql90.Slot) (k : Nat) : (setS b g o).at_ k = if k = g then o else b.at_ k := by
  unfold setS Ql90.Board.at_
  dsimp only
  rw [List.getElem?_set]
  by_cases e : k = g
  · subst e
    rw [if_pos rfl, if_pos (by omega), if_pos rfl]
    rfl
  · rw [if_neg (fun h => e h.symm), if_neg e]
def set1 {α : Type} (f : Nat → α) (g : Nat) (v : α) : Nat → α := fun k => if k = g then v else f k
theorem lz {α : Type} {f : Nat → α} {g : Nat} {v : α} : set1 f g v g = v := if_pos rfl
theorem sw {α : Type} {f : Nat → α} {g k : Nat} {v : α} (h : k ≠ g) : set1 f g v k = f k := if_neg h
def ai1 (ρ : Addr → Option Role) (tr : Addr) (g : Nat) : Addr → Option Role := fun a => if a = tr then some (.tra g) else ρ a
theorem BRep.upd1 (R : BRep t H ρ B b L) {g : Nat} {x x' : Ql90.Slot} (hx : b.at_ g = some x) (hgg : x'.g = x.g) {m' : MR} {xs' : List Int} (hok : wb x' m' xs') {tr' : Addr} (htr : tr' = L.tr g ∨ H tr' = Option.none)
    (h1 : H' (L.po g) = some (.ins t.ac (L.dx g) (gfs x.g (L.lim g) tr' m'))) (h2 : H' tr' = some (.lst (xs'.map V.int))) (hk : ∀ a o, a ≠ L.po g → a ≠ L.tr g → H a = some o → H' a = some o) :
    BRep t H' (ai1 ρ tr' g) B (setS b g (some x')) { L with tr := set1 L.tr g tr', ms := set1 L.ms g m', xs := set1 L.xs g xs' } := by
  have hin : g ∈ L.ks := (R.mem g).mpr (by rw [hx]; rfl)
  have hg64 := R.lt hin
  have G := R.gau g x hx
  obtain ⟨rp, rl, rt⟩ := R.rg g hin
  have hρ : ∀ a o r, H a = some o → ρ a = some r → r ≠ .tra g → ai1 ρ tr' g a = some r := by
    intro a o r ha hr hn
    unfold ai1
    rw [if_neg ?_]
    · exact hr
    · intro e
      rcases htr with h | h
      · rw [e, h, rt] at hr
        exact hn (Option.some.inj hr).symm
      · rw [e, h] at ha
        cases ha
  have hkeep : ∀ a o r, H a = some o → ρ a = some r → r ≠ .gau g → r ≠ .tra g → H' a = some o := by
    intro a o r ha hr n1 n2
    refine hk a o ?_ ?_ ha
    · intro e
      rw [e, rp] at hr
      exact n1 (Option.some.inj hr).symm
    · intro e
      rw [e, rt] at hr
      exact n2 (Option.some.inj hr).symm
  refine ⟨hkeep _ _ _ R.hB R.rB (by simp) (by simp), hkeep _ _ _ R.hd R.rd (by simp) (by simp), hkeep _ _ _ R.he R.re (by simp) (by simp), ⟨R.ev.1, fun i a e h1 h2 => ?_⟩, R.evl, R.nd, ?_, fun k => ?_, fun k y hy => ?_, fun k hk' => ?_, hρ _ _ _ R.hB R.rB (by simp), hρ _ _ _ R.hd R.rd (by simp), hρ _ _ _ R.he R.re (by simp)⟩
  · have ha := R.ev.2 i a e h1 h2
    exact hk _ _ (ne_of ha G.hp (by intro z; cases z)) (ne_of ha G.ht (by intro z; cases z)) ha
  · show (b.slots.set g (some x')).length = 64
    rw [List.length_set]
    exact R.len
  · rw [ahi R.len hg64]
    by_cases e : k = g
    · rw [if_pos e, e]
      exact ⟨fun _ => rfl, fun _ => hin⟩
    · rw [if_neg e]
      exact R.mem k
  · rw [ahi R.len hg64] at hy
    by_cases e : k = g
    · subst e
      rw [if_pos rfl] at hy
      cases hy
      refine ⟨by simp only [lz]; exact hok, ?_, ?_, ?_⟩
      · simp only [lz]
        rw [hgg]
        exact h1
      · rw [hgg]
        exact hkeep _ _ _ G.hl rl (by simp) (by simp)
      · simp only [lz]
        exact h2
    · rw [if_neg e] at hy
      have Gk := R.gau k y hy
      obtain ⟨r1, r2, r3⟩ := R.rg k ((R.mem k).mpr (by rw [hy]; rfl))
      refine ⟨by simp only [sw e]; exact Gk.ok, ?_, ?_, ?_⟩
      · simp only [sw e]
        exact hkeep _ _ _ Gk.hp r1 (fun h => e (Role.gau.inj h)) (by simp)
      · exact hkeep _ _ _ Gk.hl r2 (by simp) (by simp)
      · simp only [sw e]
        exact hkeep _ _ _ Gk.ht r3 (by simp) (fun h => e (Role.tra.inj h))
  · obtain ⟨y, hy, Gk⟩ := R.slot hk'
    obtain ⟨r1, r2, r3⟩ := R.rg k hk'
    refine ⟨hρ _ _ _ Gk.hp r1 (by simp), hρ _ _ _ Gk.hl r2 (by simp), ?_⟩
    by_cases e : k = g
    · subst e
      simp only [lz]
      exact if_pos rfl
    · simp only [sw e]
      exact hρ _ _ _ Gk.ht r3 (fun h => e (Role.tra.inj h))
def mea {α : Type} (ea : List α) (a : α) : List α := if 256 < (ea ++ [a]).length then (ea ++ [a]).drop 1 else ea ++ [a]
theorem ae0 : Ql90.EVENTS = 256 := rfl
theorem ake (b : Ql90.Board) (e : Ql90.Event) : (b.event e).events = Ql90.last 256 (b.events ++ [e]) := by
  rw [← ae0]
  rfl
theorem ami (b : Ql90.Board) (e : Ql90.Event) : (b.event e).lost = b.lost + if b.events.length < 256 then 0 else 1 := by
  rw [← ae0]
  rfl
theorem arm {α : Type} (f : α → V) (ea : List α) (a : α) : (mea ea a).map f = mev (ea.map f) (f a) := by
  unfold mea mev
  rw [show ea.map f ++ [f a] = (ea ++ [a]).map f by rw [List.map_append]; rfl, List.length_map]
  split
  · rw [List.map_drop]
  · rfl
theorem ass {α : Type} {ea : List α} {a : α} (h : ea.length ≤ 256) : (mea ea a).length ≤ 256 := by
  unfold mea
  split
  · rw [List.length_drop, List.length_append, List.length_singleton]
    omega
  · rename_i h
    omega
theorem BRep.event (R : BRep t H ρ B b L) {a : Addr} {ev : Ql90.Event} (ha : H a = some (.tup (evV ev))) (h1 : H' B = some (.ins t.ah L.bx (bfs L.d L.e (b.lost + if b.events.length < 256 then 0 else 1))))
    (h2 : H' L.e = some (.lst (mev (L.ea.map V.ref) (.ref a)))) (hk : ∀ c o, c ≠ B → c ≠ L.e → H c = some o → H' c = some o) : BRep t H' ρ B (b.event ev) { L with ea := mea L.ea a } := by
  have hev : (b.event ev).events = mea b.events ev := by rw [ake, air 256 _ _ R.evl]; rfl
  have hkeep : ∀ c o r, H c = some o → ρ c = some r → r ≠ .board → r ≠ .evs → H' c = some o := by
    intro c o r hc hr n1 n2
    refine hk c o ?_ ?_ hc
    · intro e
      rw [e, R.rB] at hr
      exact n1 (Option.some.inj hr).symm
    · intro e
      rw [e, R.re] at hr
      exact n2 (Option.some.inj hr).symm
  have htup : ∀ c xs, H c = some (.tup xs) → H' c = some (.tup xs) := fun c xs hc => hk c _ (ne_of hc R.hB (by intro z; cases z)) (ne_of hc R.he (by intro z; cases z)) hc
  refine ⟨by rw [ami]; exact h1, hkeep _ _ _ R.hd R.rd (by simp) (by simp), by rw [arm]; exact h2, ?_, by rw [hev]; exact ass R.evl, R.nd, R.len, R.mem, fun g x hx => ?_, R.rg, R.rB, R.rd, R.re⟩
  · rw [hev]
    have hl : (L.ea ++ [a]).length = (b.events ++ [ev]).length := by rw [List.length_append, List.length_append, R.ev.1]; rfl
    have hall : ∀ (i : Nat) (c : Addr) (e : Ql90.Event), (L.ea ++ [a])[i]? = some c → (b.events ++ [ev])[i]? = some e → H' c = some (.tup (evV e)) := by
      intro i c e h3 h4
      by_cases hi : i < L.ea.length
      · rw [List.getElem?_append_left hi] at h3
        rw [List.getElem?_append_left (by rw [← R.ev.1]; exact hi)] at h4
        exact htup _ _ (R.ev.2 i c e h3 h4)
      · rw [List.getElem?_append_right (by omega)] at h3
        rw [List.getElem?_append_right (by rw [← R.ev.1]; omega)] at h4
        have h5 := (List.getElem?_eq_some_iff.mp h3).1
        rw [List.length_singleton] at h5
        rw [show i - L.ea.length = 0 by omega] at h3
        rw [show i - b.events.length = 0 by rw [← R.ev.1]; omega] at h4
        cases h3
        cases h4
        exact htup _ _ ha
    show (mea L.ea a).length = _ ∧ _
    unfold mea
    rw [hl]
    by_cases hc : 256 < (b.events ++ [ev]).length
    · rw [if_pos hc, if_pos hc]
      refine ⟨by rw [List.length_drop, List.length_drop, hl], fun i c e h3 h4 => ?_⟩
      rw [List.getElem?_drop] at h3 h4
      exact hall _ c e h3 h4
    · rw [if_neg hc, if_neg hc]
      exact ⟨hl, hall⟩
  · have G := R.gau g x hx
    obtain ⟨r1, r2, r3⟩ := R.rg g ((R.mem g).mpr (by rw [show b.at_ g = some x from hx]; rfl))
    exact ⟨G.ok, hkeep _ _ _ G.hp r1 (by simp) (by simp), hkeep _ _ _ G.hl r2 (by simp) (by simp), hkeep _ _ _ G.ht r3 (by simp) (by simp)⟩
def uk (t : Ad) (H : Hp) (ρ : Addr → Option Role) (B : Addr) (Q : VK) (a : Ql90.Ans) (b' : Ql90.Board) : Prop := ∀ l H' ρ' L', BRep t H' ρ' B b' L' → (∀ c o, H c = some o → ρ c = none → H' c = some o) → (∀ c, (ρ' c).isSome = true → (ρ c).isSome = true ∨ H c = none) → H l = none → H' l = some (.lst (ansV a)) → Q (.ref l) H'
theorem uk.refuse (R : BRep t H ρ B b L) {Q : VK} {z : Int} (q : uk t H ρ B Q (Ql90.only z) b) : ∀ H1, Same H H1 → ∀ l, H1 l = none → Q (.ref l) (upd H1 l (.lst [.int z])) := fun H1 hS l hl =>
  q l _ ρ L (R.same (hS.trans (Same.new hl))) (fun c o e _ => (hS.trans (Same.new hl)) c o e) (fun c h => .inl h) (hS.free hl) upd_same
end
end GB
end

section
set_option Elab.async false
set_option maxRecDepth 100000
set_option maxHeartbeats 4000000
set_option linter.all false
namespace GB
open PySem L2
section
variable {P : Program} {w : World} {K : PySem.W.Frag} {mg : Str → Option Value} {base : Heap} {t : Ad}
theorem atb (xs : List V) (n : Nat) : cutV xs none (some (n : Int)) = xs.take n := by
  unfold cutV HT.sIx
  dsimp only
  rw [if_neg (by omega), List.drop_zero, Nat.sub_zero, Int.toNat_natCast]
  by_cases h : n ≤ xs.length
  · rw [show min n xs.length = n by omega]
  · rw [show min n xs.length = xs.length by omega, List.take_length, List.take_of_length_le (by omega)]
theorem atp (xs : List V) (n : Nat) : cutV xs (some (n : Int)) none = xs.drop n := by
  unfold cutV HT.sIx
  dsimp only
  rw [if_neg (by omega), Int.toNat_natCast, List.take_of_length_le (by rw [List.length_drop]; omega)]
  by_cases h : n ≤ xs.length
  · rw [show min n xs.length = n by omega]
  · rw [show min n xs.length = xs.length by omega, List.drop_length, List.drop_eq_nil_of_le (by omega)]
def apo (t : Ad) : Sp := fun vs H Q _ => ∃ (B : Addr) (most : Int) (ρ : Addr → Option Role) (b : Ql90.Board) (L : Lay), vs = [.ref B, .int most] ∧ BRep t H ρ B b L ∧ uk t H ρ B Q (b.act (.events most)).1 (b.act (.events most)).2
def evI (e : Ql90.Event) : List Nat := [e.time, e.value, e.g + 256 * e.old + 65536 * e.now]
theorem ath (e : Ql90.Event) : evV e = (Ql90.ints (evI e)).map V.int := by
  unfold evV evI Ql90.ints
  simp only [List.map_cons, List.map_nil, Int.natCast_add, Int.natCast_mul]
  rfl
def ark (b : Ql90.Board) (n : Nat) : Ql90.Board := { b with events := b.events.drop n }
theorem ahv (b : Ql90.Board) (most : Int) : b.act (.events most) = if Ql90.between most 0 256 = false then (Ql90.only (-2), b) else (⟨((b.events.take most.toNat).length : Int), Ql90.ints ((b.events.take most.toNat).flatMap evI)⟩, ark b most.toNat) := by
  rw [← ae0]
  rfl
theorem alj {α : Type} (l : List Ql90.Event) (f : Ql90.Event → List α) (h : ∀ e, (f e).length = 3) : (l.flatMap f).length = 3 * l.length := by
  induction l with
  | nil => rfl
  | cons x r ih => rw [List.flatMap_cons, List.length_append, h, ih, List.length_cons]; omega
theorem BRep.drop {H H' : Hp} {ρ : Addr → Option Role} {B : Addr} {b : Ql90.Board} {L : Lay} (R : BRep t H ρ B b L) {n : Nat} {l2 : Addr} (hn : H l2 = Option.none) (h1 : H' B = some (.ins t.ah L.bx (bfs L.d l2 b.lost))) (h2 : H' l2 = some (.lst ((L.ea.drop n).map V.ref))) (hk : ∀ c o, c ≠ B → H c = some o → H' c = some o) :
    BRep t H' (fun a => if a = l2 then some .evs else ρ a) B (ark b n) { L with e := l2, ea := L.ea.drop n } := by
  have hρ : ∀ a o r, H a = some o → ρ a = some r → (fun a => if a = l2 then some Role.evs else ρ a) a = some r := by
    intro a o r ha hr
    show (if a = l2 then some Role.evs else ρ a) = some r
    rw [if_neg (ne_of_none ha hn)]
    exact hr
  have hkeep : ∀ c o r, H c = some o → ρ c = some r → r ≠ .board → H' c = some o := by
    intro c o r hc hr n1
    refine hk c o ?_ hc
    intro e
    rw [e, R.rB] at hr
    exact n1 (Option.some.inj hr).symm
  refine ⟨h1, hkeep _ _ _ R.hd R.rd (by simp), h2, ⟨?_, fun i a e h3 h4 => ?_⟩, ?_, R.nd, R.len, R.mem, fun g x hx => ?_, fun g hg => ?_, hρ _ _ _ R.hB R.rB, hρ _ _ _ R.hd R.rd, if_pos rfl⟩
  · show (L.ea.drop n).length = (b.events.drop n).length
    rw [List.length_drop, List.length_drop, R.ev.1]
  · have h3 : (L.ea.drop n)[i]? = some a := h3
    have h4 : (b.events.drop n)[i]? = some e := h4
    rw [List.getElem?_drop] at h3 h4
    have ha := R.ev.2 _ a e h3 h4
    exact hk _ _ (ne_of ha R.hB (by intro z; cases z)) ha
  · show (b.events.drop n).length ≤ 256
    have := R.evl
    rw [List.length_drop]
    omega
  · have G := R.gau g x hx
    obtain ⟨r1, r2, r3⟩ := R.rg g ((R.mem g).mpr (by rw [show b.at_ g = some x from hx]; rfl))
    exact ⟨G.ok, hkeep _ _ _ G.hp r1 (by simp), hkeep _ _ _ G.hl r2 (by simp), hkeep _ _ _ G.ht r3 (by simp)⟩
  · obtain ⟨x, hx, G⟩ := R.slot hg
    obtain ⟨r1, r2, r3⟩ := R.rg g hg
    exact ⟨hρ _ _ _ G.hp r1, hρ _ _ _ G.hl r2, hρ _ _ _ G.ht r3⟩
theorem mm : FnScope ["self", "most", "oldest", "given", "event"] ["self", "most"] (defScope fu) := ⟨rfl, rfl, rfl, by decide +kernel, rfl, by decide +kernel, by decide +kernel⟩
theorem adj (T : Txt K mg t) : FnOk P w K mg base CX0 1 t.gi t.gj ["self", "most"] (apo t) := by
  refine T.j6.ok mm (fun vs H Q E h => ?_) (fun cdv A outer s H vs Q E hr h => ?_)
  · obtain ⟨B, most, ρ, b, L, rfl, _⟩ := h
    rfl
  · obtain ⟨B, most, ρ, b, L, rfl, R, q⟩ := h
    refine ⟨_, (pss_cons (ps_if (pt_not (pt_chain op_le op_le pe_int (pv 1) (ai T.qr rfl)))
        (pss_one (ps_ret (pe_lst (pa_cons (pe_un un_neg pe_int) pa_nil))))
        pss_nil)
      (pss_cons (ps_set (i := 2) mm.nd rfl (Or.inl rfl) (pe_slice sl_list (pe_fld (pv 0) rfl) po_none (po_some (pv 1))))
      (pss_cons (ps_fld (pv 0) (pe_slice sl_list (pe_fld (pv 0) rfl) (po_some (pv 1)) po_none) rfl)
      (pss_cons (ps_set (i := 3) mm.nd rfl (Or.inl rfl) (pe_lst (pa_cons (pe_callB call_len_seq (by rfl) T.zr PySem.boot_len (pa_cons (pv 2) pa_nil)) pa_nil)))
      (pss_cons (ps_for PassesOwn.never rfl (pi_list (pv 2)) (pg_name (i := 4) mm.nd rfl (Or.inl rfl))
        (pss_one (ps_expr (pe_bm PySem.F.plainAttrs_list PySem.F.slot_list_extend PySem.F.type_list_extend amr (pv 3) (pa_cons (pv 4) pa_nil)))))
      (pss_one (ps_ret (pv 3)))))))), ?_⟩
    rw [ahv] at q
    simp only [RD, List.replicate, List.set, Nat.reduceAdd, Nat.reduceSub]
    have bad : Ql90.between most 0 256 = false → 1 ≤ sizeLine ∧ ∀ l, H l = none → Q (.ref l) (upd H l (.lst [.int (-2)])) := by
      intro hb
      rw [if_pos hb] at q
      exact ⟨by decide, uk.refuse R q H (Same.refl _)⟩
    by_cases h0 : 0 ≤ most
    · by_cases h1 : most ≤ 256
      · rw [if_neg (by rw [n4]; simp; omega)] at q
        obtain ⟨n, rfl⟩ := natF h0
        rw [Int.toNat_natCast] at q
        simp only [if_pos h0, h1, RD, List.replicate, List.set, Nat.reduceAdd, Nat.reduceSub, decide_true]
        rw [if_neg (fun h => h trivial), af R.hB T.ab T.dg ab7]
        refine slL (SqL.of R.he) fun l1 hl1 => ?_
        rw [atb, ← List.map_take]
        have R1 := R.same (Same.new (o := .lst ((L.ea.take n).map V.ref)) hl1)
        rw [af R1.hB T.ab T.dg ab7]
        refine slL (SqL.of R1.he) fun l2 hl2 => ?_
        rw [atp, ← List.map_drop]
        have S12 := (Same.new (o := .lst ((L.ea.take n).map V.ref)) hl1).trans (Same.new (o := .lst ((L.ea.drop n).map V.ref)) hl2)
        have R2 := R.same S12
        have e1 := Same.new (o := .lst ((L.ea.drop n).map V.ref)) hl2 _ _ (upd_same (H := H) (a := l1) (o := .lst ((L.ea.take n).map V.ref)))
        have e2 := upd_same (H := upd H l1 (.lst ((L.ea.take n).map V.ref))) (a := l2) (o := .lst ((L.ea.drop n).map V.ref))
        have nl2 : H l2 = none := (Same.new (o := .lst ((L.ea.take n).map V.ref)) hl1).free hl2
        rw [wg R2.hB T.ab T.dg (by show 3 < 1000; decide), aol]
        generalize upd (upd H l1 _) l2 _ = H2 at *
        have hBl1 : B ≠ l1 := ne_of_none R.hB hl1
        have hBl2 : B ≠ l2 := ne_of_none R.hB nl2
        have R3 : BRep t (upd H2 B (.ins t.ah L.bx (bfs L.d l2 b.lost))) _ B (ark b n) { L with e := l2, ea := L.ea.drop n } := R.drop nl2 upd_same (by rw [upd_ne (Ne.symm hBl2)]; exact e2) fun c o hc e => by rw [upd_ne hc]; exact S12 _ _ e
        have e1' : upd H2 B (.ins t.ah L.bx (bfs L.d l2 b.lost)) l1 = some (.lst ((L.ea.take n).map V.ref)) := by rw [upd_ne (Ne.symm hBl1)]; exact e1
        have hkB : ∀ c o, H c = some o → c ≠ B → upd H2 B (.ins t.ah L.bx (bfs L.d l2 b.lost)) c = some o := fun c o e hc => by rw [upd_ne hc]; exact S12 _ _ e
        have htup : ∀ (i : Nat) (a : Addr) (e : Ql90.Event), L.ea[i]? = some a → b.events[i]? = some e → upd H2 B (.ins t.ah L.bx (bfs L.d l2 b.lost)) a = some (.tup (evV e)) := fun i a e h3 h4 => hkB _ _ (R.ev.2 i a e h3 h4) (ne_of (R.ev.2 i a e h3 h4) R.hB (by intro z; cases z))
        have hfreeB : ∀ c, upd H2 B (.ins t.ah L.bx (bfs L.d l2 b.lost)) c = none → H c = none := by
          intro c hc
          have hcB : c ≠ B := fun e => by rw [e, upd_same] at hc; cases hc
          rw [upd_ne hcB] at hc
          exact S12.free hc
        generalize upd H2 B _ = H3 at *
        refine ⟨l1, _, rfl, .inl (SqL.of e1'), ?_⟩
        rw [List.length_map]
        refine ⟨by decide, fun gv hgv => ?_⟩
        have S3 := Same.new (o := .lst [V.int ((L.ea.take n).length : Int)]) hgv
        have hlen : (L.ea.take n).length = (b.events.take n).length := by rw [List.length_take, List.length_take, R.ev.1]
        have hevl := R.evl
        refine forL (i := 2) rfl (SqL.of (S3 _ _ e1')) (fun i σ H' => (∃ v, σ = [some (.ref B), some (.int (n : Int)), some (.ref l1), some (.ref gv), v]) ∧ Same H3 H' ∧ H' gv = some (.lst (.int ((b.events.take n).length : Int) :: ((b.events.take n).take i).flatMap evV)))
          ⟨⟨_, rfl⟩, S3, by rw [upd_same, hlen]; rfl⟩ (fun i σ H' _ h' => SqL.of (h'.2.1 _ _ e1')) (fun i x σ H' hx h' => ?_) (fun σ H' h' => ?_)
        · obtain ⟨⟨v, rfl⟩, hS', hgv'⟩ := h'
          rw [List.getElem?_map] at hx
          cases ha : (L.ea.take n)[i]? with
          | none => rw [ha] at hx; cases hx
          | some a =>
            rw [ha] at hx
            cases hx
            have hi := (List.getElem?_eq_some_iff.mp ha).1
            have hi2 : i < (b.events.take n).length := by omega
            have he : (b.events.take n)[i]? = some (b.events.take n)[i] := List.getElem?_eq_getElem hi2
            have htake : (b.events.take n).take (i + 1) = (b.events.take n).take i ++ [(b.events.take n)[i]] := by rw [List.take_add_one, he]; rfl
            have hin : i < n := by rw [List.length_take] at hi2; omega
            have ha' := ha
            have he' := he
            rw [List.getElem?_take, if_pos hin] at ha' he'
            have htp := htup i a _ ha' he'
            simp only [RD, List.replicate, List.set, Nat.reduceAdd, Nat.reduceSub]
            refine ⟨.inl ⟨rfl, _, SqL.of hgv'⟩, gv, a, _, _, rfl, rfl, hgv', .inl (.inl (hS' _ _ htp)), ?_, ⟨_, rfl⟩, fun c o e => ?_, ?_⟩
            · rw [List.length_cons, alj _ _ (fun e => rfl), List.length_take, sizeLine_eq]
              have : (b.events.take n).length ≤ 256 := by rw [List.length_take]; omega
              show 3 * min i (b.events.take n).length + 1 + 3 ≤ _
              omega
            · rw [upd_ne (ne_of_none e hgv)]
              exact hS' _ _ e
            · rw [upd_same, htake, List.flatMap_append]
              simp
        · obtain ⟨⟨v, rfl⟩, hS', hgv'⟩ := h'
          rw [List.length_map, hlen, List.take_length] at hgv'
          simp only [RD, List.replicate, List.set, Nat.reduceAdd, Nat.reduceSub]
          refine q gv H' _ _ (R3.same hS') (fun c o e hc => hS' _ _ (hkB c o e fun e' => by rw [e', R.rB] at hc; cases hc)) (fun c hc => ?_) (hfreeB _ hgv) ?_
          · by_cases e : c = l2
            · exact .inr (by rw [e]; exact nl2)
            · have hc : (if c = l2 then some Role.evs else ρ c).isSome = true := hc
              rw [if_neg e] at hc
              exact .inl hc
          · rw [hgv']
            unfold ansV
            have e5 : ∀ l : List Ql90.Event, l.flatMap evV = (Ql90.ints (l.flatMap evI)).map V.int := by
              intro l
              induction l with
              | nil => rfl
              | cons x r ih =>
                rw [List.flatMap_cons, List.flatMap_cons, ih, ath]
                unfold Ql90.ints
                rw [List.map_append, List.map_append]
            rw [e5]
            rfl
      · simp only [if_pos h0, h1, RD, List.replicate, List.set, Nat.reduceAdd, Nat.reduceSub, decide_false]
        exact bad (n4.mpr fun h => h1 h.2)
    · simp only [if_neg h0, RD, List.replicate, List.set, Nat.reduceAdd, Nat.reduceSub]
      exact bad (n4.mpr fun h => h0 h.1)
end
end GB
end

section
set_option Elab.async false
set_option maxRecDepth 100000
set_option maxHeartbeats 4000000
set_option linter.all false
namespace GB
open PySem L2
def clr (x : Ql90.Slot) : Ql90.Slot := { x with seen := none, state := 2, trace := [] }
def clr1 (b : Ql90.Board) (g : Nat) : Ql90.Board := setS b g ((b.at_ g).map clr)
def clrN (b : Ql90.Board) (l : List Nat) : Ql90.Board := l.foldl clr1 b
theorem arj (b : Ql90.Board) (g k : Nat) : (clr1 b g).slots[k]? = (b.slots[k]?).map fun o => if k = g then o.map clr else o := by
  unfold clr1 setS Ql90.Board.at_
  dsimp only
  rw [List.getElem?_set]
  by_cases e : g = k
  · subst e
    rw [if_pos rfl]
    cases h : b.slots[g]? with
    | none =>
      rw [if_neg (by have := List.getElem?_eq_none_iff.mp h; omega)]
      rfl
    | some o =>
      rw [if_pos (List.getElem?_eq_some_iff.mp h).1]
      simp
  · rw [if_neg e]
    cases b.slots[k]? with
    | none => rfl
    | some o =>
      simp only [Option.map_some]
      rw [if_neg (fun h => e h.symm)]
theorem ahf : ∀ (l : List Nat) (b : Ql90.Board) (k : Nat), (clrN b l).slots[k]? = (b.slots[k]?).map fun o => if k ∈ l then o.map clr else o
  | [], b, k => by
    show b.slots[k]? = _
    cases b.slots[k]? with
    | none => rfl
    | some o => simp
  | g :: l, b, k => by
    show (clrN (clr1 b g) l).slots[k]? = _
    rw [ahf l (clr1 b g) k, arj]
    cases b.slots[k]? with
    | none => rfl
    | some o =>
      simp only [Option.map_some]
      congr 1
      by_cases h1 : k = g
      · rw [if_pos h1, if_pos (show k ∈ g :: l by rw [h1]; exact List.mem_cons_self ..)]
        split
        · cases o <;> rfl
        · rfl
      · rw [if_neg h1]
        by_cases h2 : k ∈ l
        · rw [if_pos h2, if_pos (List.mem_cons_of_mem _ h2)]
        · rw [if_neg h2, if_neg (fun h => (List.mem_cons.mp h).elim h1 h2)]
theorem aiy : ∀ (l : List Nat) (b : Ql90.Board), (clrN b l).events = b.events ∧ (clrN b l).lost = b.lost
  | [], b => ⟨rfl, rfl⟩
  | g :: l, b => aiy l (clr1 b g)
def clrS (b : Ql90.Board) (wh : Nat) : Ql90.Board := { b with slots := b.slots.zipIdx.map fun (x : Option Ql90.Slot × Nat) => if wh.testBit x.2 = true then x.1.map fun (y : Ql90.Slot) => { y with seen := none, state := 2, trace := [] } else x.1 }
theorem ajc {wh k : Nat} : k ∈ Ql90.those wh ↔ k < 64 ∧ wh.testBit k = true := by
  unfold Ql90.those Ql90.GAUGES
  rw [List.mem_filter, List.mem_range]
theorem al2 (b : Ql90.Board) (h : b.slots.length = 64) (wh : Nat) : clrN b (Ql90.those wh) = clrS b wh := by
  obtain ⟨e1, e2⟩ := aiy (Ql90.those wh) b
  have e3 : (clrN b (Ql90.those wh)).slots = (clrS b wh).slots := by
    apply List.ext_getElem?
    intro k
    unfold clrS
    dsimp only
    rw [ahf, List.getElem?_map, List.getElem?_zipIdx]
    cases hk : b.slots[k]? with
    | none => rfl
    | some o =>
      have hk64 : k < 64 := by have := (List.getElem?_eq_some_iff.mp hk).1; omega
      simp only [Option.map_some, Nat.zero_add]
      congr 1
      by_cases hb : wh.testBit k = true
      · rw [if_pos (ajc.mpr ⟨hk64, hb⟩), if_pos hb]
        rfl
      · rw [if_neg (fun h => hb (ajc.mp h).2), if_neg hb]
  generalize clrN b (Ql90.those wh) = c at *
  obtain ⟨s, e, l⟩ := c
  cases e1
  cases e2
  cases e3
  rfl
theorem ait (b : Ql90.Board) (wh : Nat) : b.act (.clear wh) = if ((Ql90.those wh).all fun (g : Nat) => (b.at_ g).isSome) = false then (Ql90.only (-3), b) else (Ql90.only 0, clrS b wh) := rfl
theorem asi (b : Ql90.Board) (l : List Nat) (k : Nat) : ((clrN b l).at_ k).isSome = (b.at_ k).isSome := by
  unfold Ql90.Board.at_
  rw [ahf]
  cases b.slots[k]? with
  | none => rfl
  | some o =>
    simp only [Option.map_some, Option.bind_some]
    split
    · cases o <;> rfl
    · rfl
theorem wb.clr {x : Ql90.Slot} {m : MR} {xs : List Int} (S : wb x m xs) : wb (clr x) MR0 [] :=
  ⟨S.good, S.kind, S.place, rfl, rfl, fun h => absurd h (by decide), rfl, fun z hz => absurd hz (by simp), by decide, by decide⟩
section
variable {P : Program} {w : World} {K : PySem.W.Frag} {mg : Str → Option Value} {base : Heap} {t : Ad}
def arw (t : Ad) : Sp := fun vs H Q _ => ∃ (B : Addr) (which : Int) (ρ : Addr → Option Role) (b : Ql90.Board) (L : Lay), vs = [.ref B, .int which] ∧ B64 which ∧ BRep t H ρ B b L ∧ uk t H ρ B Q (b.act (.clear which.toNat)).1 (b.act (.clear which.toNat)).2
theorem kg : FnScope ["self", "which", "numbers", "g"] ["self", "which"] (defScope ed) := ⟨rfl, rfl, rfl, by decide +kernel, rfl, by decide +kernel, by decide +kernel⟩
theorem aee (T : Txt K mg t) : FnOk P w K mg base CX0 2 t.io t.ip ["self", "which"] (arw t) := by
  refine T.ma.ok kg (fun vs H Q E h => ?_) (fun cdv A outer s H vs Q E hr h => ?_)
  · obtain ⟨B, wh, ρ, b, L, rfl, _⟩ := h
    rfl
  · obtain ⟨B, wh, ρ, b, L, rfl, hw, R, q⟩ := h
    refine ⟨_, (pss_cons (ps_set (i := 2) kg.nd rfl (Or.inl rfl) (pe_call (wu T) (hr.mono (by decide)) rfl T.ot T.ke.kp T.vx .nil pass0 (pa_cons (pv 1) pa_nil)))
      (pss_cons (ps_if (pt_not (pt_val (pe_callB (cr_all rfl) (by rfl) T.afu zf (pa_cons (pe_lc rfl kg.nd (pi_list (pv 2)) (blkG (own := [("g", 3)]) (N := ["self", "which", "numbers", "g"]) (sc := defScope ed) rfl rfl rfl (by decide +kernel) (by decide +kernel) (by decide +kernel) (by decide +kernel)) (fun _ _ _ _ _ => pg_name (i := 3) kg.nd rfl (Or.inl rfl)) (fun _ _ _ _ _ => pts_nil) (fun _ _ _ _ _ => (pe_cmp (pc_din (hu_of hr) (pv 3) (yj K rfl (pv 0) rfl))))) pa_nil))))
        (pss_one (ps_ret (pe_lst (pa_cons (pe_un un_neg pe_int) pa_nil))))
        pss_nil)
      (pss_cons (ps_for PassesOwn.never rfl (pi_list (pv 2)) (pg_name (i := 3) kg.nd rfl (Or.inl rfl))
        (pss_one (ps_expr (pe_meth0 (pe_dget (hu_of hr) (pe_fld (pv 0) rfl) (pv 3) (fun _ _ => rfl)) T.aa T.o0 (aat T) (hr.mono (by decide)) T.xt .nil pass0))))
      (pss_one (ps_ret (pe_lst (pa_cons pe_int pa_nil))))))), ?_⟩
    rw [ait] at q
    simp only [RD, List.replicate, List.set, Nat.reduceAdd, Nat.reduceSub]
    refine ⟨wh, rfl, hw, fun l H1 hS1 hn1 hl1 => ?_⟩
    refine ox (H1 := H1) (a := l) (ks := Ql90.those wh.toNat) (f := fun g => .int (g : Int)) (wp _) (fun g => some (.bl (b.at_ g).isSome)) (fun R r => ?_) (SqL.of hl1) (fun g hg H' hH R' r => ⟨rfl, ?_⟩) (fun D H2 hD hH hl2 => ?_)
    · simp only [RD, List.replicate, List.set, Nat.reduceAdd, Nat.reduceSub]
      exact r
    · have R2 := R.same (hS1.trans hH)
      have r := r _ (Same.refl _)
      simp only [RD, List.replicate, List.set, Nat.reduceAdd, Nat.reduceSub, wipe, tYes, tDIn, af R2.hB T.ab T.aj ft]
      refine ⟨_, _, rfl, R2.get g, ?_⟩
      by_cases h : g ∈ L.ks
      · rw [(R.mem g).mp h] at r
        rw [if_pos h]
        exact r
      · rw [R.none h] at r
        rw [if_neg h]
        exact r
    · rw [am] at hl2
      have S2 := hS1.trans hH
      refine allB (bs := (Ql90.those wh.toNat).map fun g => (b.at_ g).isSome) (SqL.of (by rw [hl2, List.map_map]; rfl)) ?_
      rw [aeo]
      simp only [RD, List.replicate, List.set, Nat.reduceAdd, Nat.reduceSub]
      cases hall : (Ql90.those wh.toNat).all fun (g : Nat) => (b.at_ g).isSome with
      | false =>
        rw [hall, if_pos rfl] at q
        rw [if_pos rfl]
        exact ⟨by decide, uk.refuse R q H2 S2⟩
      | true =>
        rw [hall, if_neg (by simp), ← al2 b R.len] at q
        rw [if_neg (by simp)]
        generalize hth : Ql90.those wh.toNat = th at *
        have htm : ∀ g ∈ th, (b.at_ g).isSome = true := fun g hg => List.all_eq_true.mp hall g hg
        refine forL (i := 2) rfl (SqL.of (hH _ _ hl1)) (fun i σ H' => (∃ v, σ = [some (.ref B), some (.int wh), some (.ref l), v]) ∧ H' l = some (.lst (natV th)) ∧ (∀ c, H' c = none → H c = none) ∧ ∃ ρ' L', BRep t H' ρ' B (clrN b (th.take i)) L' ∧ (∀ c o, H c = some o → ρ c = none → H' c = some o) ∧ (∀ c, (ρ' c).isSome = true → (ρ c).isSome = true ∨ H c = none))
          ⟨⟨_, rfl⟩, hH _ _ hl1, fun c hc => S2.free hc, ρ, L, R.same S2, fun c o e _ => S2 _ _ e, fun c hc => .inl hc⟩ (fun i σ H' _ h' => SqL.of h'.2.1) (fun i x σ H' hx h' => ?_) (fun σ H' h' => ?_)
        · obtain ⟨⟨v, rfl⟩, hl', hfree, ρ', L', R', hk', hr'⟩ := h'
          have hgi : ∃ g, th[i]? = some g ∧ x = .int (g : Int) := by
            unfold natV at hx
            rw [List.getElem?_map] at hx
            cases e : th[i]? with
            | none => rw [e] at hx; cases hx
            | some g => rw [e] at hx; exact ⟨g, rfl, (Option.some.inj hx).symm⟩
          obtain ⟨g, hg, rfl⟩ := hgi
          have hgm : g ∈ th := List.mem_of_getElem? hg
          have hin : g ∈ L'.ks := (R'.mem g).mpr (by rw [asi]; exact htm g hgm)
          obtain ⟨x, hx, G⟩ := R'.slot hin
          have htake : th.take (i + 1) = th.take i ++ [g] := by rw [List.take_add_one, hg]; rfl
          have hb' : clrN b (th.take (i + 1)) = setS (clrN b (th.take i)) g (some (clr x)) := by
            rw [htake]
            unfold clrN
            rw [List.foldl_append]
            show clr1 (clrN b (th.take i)) g = _
            unfold clr1
            rw [hx]
            rfl
          have hget := R'.get g
          rw [if_pos hin] at hget
          simp only [RD, List.replicate, List.set, Nat.reduceAdd, Nat.reduceSub, tDGet, af R'.hB T.ab T.aj ft]
          refine ⟨_, _, rfl, hget, ?_⟩
          rw [ax G.hp ao4]
          refine ⟨_, _, _, rfl, G.hp, by show 17 < 900; decide, fun tr' H'' htr e1 e2 e3 => ?_⟩
          rw [at4] at e1
          have R'' := R'.upd1 hx (show (clr x).g = x.g from rfl) G.ok.clr (.inr htr) e1 e2 (fun a o h1 _ e => e3 a o h1 e)
          rw [← hb'] at R''
          obtain ⟨r1, _, _⟩ := R'.rg g hin
          refine ⟨⟨_, rfl⟩, e3 _ _ (ne_of hl' G.hp (by intro z; cases z)) hl', fun c hc => ?_, _, _, R'', fun c o e hc => ?_, fun c hc => ?_⟩
          · apply hfree
            cases h : H' c with
            | none => rfl
            | some o =>
              by_cases hcp : c = L'.po g
              · rw [hcp, e1] at hc
                cases hc
              · rw [e3 c o hcp h] at hc
                cases hc
          · refine e3 c o (fun e' => ?_) (hk' c o e hc)
            have := hr' c (by rw [e', r1]; rfl)
            rcases this with h | h
            · rw [hc] at h; cases h
            · rw [e] at h; cases h
          · unfold ai1 at hc
            by_cases h : c = tr'
            · exact .inr (hfree c (by rw [h]; exact htr))
            · rw [if_neg h] at hc
              exact hr' c hc
        · obtain ⟨⟨v, rfl⟩, hl', hfree, ρ', L', R', hk', hr'⟩ := h'
          have e : th.take (natV th).length = th := by
            unfold natV
            rw [List.length_map]
            exact List.take_length
          rw [e] at R'
          simp only [RD, List.replicate, List.set, Nat.reduceAdd, Nat.reduceSub]
          exact ⟨by decide, fun l2 hl2 => q l2 _ ρ' L' (R'.same (Same.new hl2)) (fun c o e hc => Same.new hl2 _ _ (hk' c o e hc)) hr' (hfree _ hl2) upd_same⟩
end
end GB
end

section
set_option Elab.async false
set_option maxRecDepth 100000
set_option maxHeartbeats 4000000
set_option linter.all false
namespace GB
open PySem L2
theorem aom {ks : List Nat} {f f' : Nat → V} (h : ∀ k ∈ ks, f k = f' k) : gkv ks f = gkv ks f' := by
  unfold gkv
  apply List.map_congr_left
  intro k hk
  rw [h k hk]
theorem aqe (ks : List Nat) (f : Nat → V) (g : Nat) (v : V) : putK (gkv ks f) (Sum.inl (g : Int)) v = gkv (if g ∈ ks then ks else ks ++ [g]) (set1 f g v) := by
  by_cases h : g ∈ ks
  · rw [if_pos h]
    unfold putK
    have hany : ((gkv ks f).any fun kv => decide (kv.1 = (Sum.inl (g : Int) : Key))) = true := by rw [valV_any, adl, if_pos h]; rfl
    rw [if_pos hany]
    unfold gkv
    rw [List.map_map]
    apply List.map_congr_left
    intro k hk
    show (if (Sum.inl (k : Int) : Key) = Sum.inl (g : Int) then ((Sum.inl (k : Int) : Key), v) else (Sum.inl (k : Int), f k)) = (Sum.inl (k : Int), set1 f g v k)
    by_cases e : k = g
    · subst e
      rw [if_pos rfl, lz]
    · rw [if_neg (fun h => e (by have := Sum.inl.inj h; omega)), sw e]
  · rw [if_neg h, putK_new v (by rw [adl, if_neg h])]
    have e1 : gkv (ks ++ [g]) (set1 f g v) = gkv ks (set1 f g v) ++ [((Sum.inl (g : Int) : Key), v)] := by
      unfold gkv
      rw [List.map_append, List.map_cons, List.map_nil, lz]
    rw [e1, aom (f := f) (f' := set1 f g v) fun k hk => (sw fun e => h (by rw [← e]; exact hk)).symm]
section
variable {t : Ad} {H H' : Hp} {ρ : Addr → Option Role} {B : Addr} {b : Ql90.Board} {L : Lay}
def layS (L : Lay) (g : Nat) (p dx lim tr : Addr) : Lay := { L with ks := if g ∈ L.ks then L.ks else L.ks ++ [g], po := set1 L.po g p, lim := set1 L.lim g lim, tr := set1 L.tr g tr, dx := set1 L.dx g dx, ms := set1 L.ms g MR0, xs := set1 L.xs g [] }
def aly (ρ : Addr → Option Role) (g : Nat) (p lim tr : Addr) : Addr → Option Role := fun a => if a = p then some (.gau g) else if a = lim then some (.lim g) else if a = tr then some (.tra g) else ρ a
theorem BRep.set (R : BRep t H ρ B b L) {g : Nat} (hg : g < 64) {x : Ql90.Slot} (hok : wb x MR0 []) {p dx lim tr : Addr} (np : H p = Option.none) (nl : H lim = Option.none) (nt : H tr = Option.none) (hpl : p ≠ lim) (hpt : p ≠ tr) (hlt : lim ≠ tr)
    (h1 : H' p = some (.ins t.ac dx (gfs x.g lim tr MR0))) (h2 : H' lim = some (lims x.g)) (h3 : H' tr = some (.lst [])) (h4 : H' L.d = some (.dK (putK (gkv L.ks fun g => .ref (L.po g)) (Sum.inl (g : Int)) (.ref p)))) (hk : ∀ a o, a ≠ L.d → H a = some o → H' a = some o) :
    BRep t H' (aly ρ g p lim tr) B (setS b g (some x)) (layS L g p dx lim tr) := by
  have hρ : ∀ a o r, H a = some o → ρ a = some r → aly ρ g p lim tr a = some r := by
    intro a o r ha hr
    unfold aly
    rw [if_neg (ne_of_none ha np), if_neg (ne_of_none ha nl), if_neg (ne_of_none ha nt)]
    exact hr
  have hkeep : ∀ a o r, H a = some o → ρ a = some r → r ≠ .dict → H' a = some o := by
    intro a o r ha hr n1
    refine hk a o ?_ ha
    intro e
    rw [e, R.rd] at hr
    exact n1 (Option.some.inj hr).symm
  have hmem : ∀ k, k ∈ (layS L g p dx lim tr).ks ↔ k = g ∨ k ∈ L.ks := by
    intro k
    show k ∈ (if g ∈ L.ks then L.ks else L.ks ++ [g]) ↔ _
    by_cases h : g ∈ L.ks
    · rw [if_pos h]
      exact ⟨fun hk => .inr hk, fun hk => hk.elim (fun e => by rw [e]; exact h) id⟩
    · rw [if_neg h, List.mem_append, List.mem_singleton]
      exact ⟨fun hk => hk.elim .inr .inl, fun hk => hk.elim .inr .inl⟩
  refine ⟨hkeep _ _ _ R.hB R.rB (by simp), ?_, hkeep _ _ _ R.he R.re (by simp), ⟨R.ev.1, fun i a e q1 q2 => ?_⟩, R.evl, ?_, ?_, fun k => ?_, fun k y hy => ?_, fun k hk' => ?_, hρ _ _ _ R.hB R.rB, hρ _ _ _ R.hd R.rd, hρ _ _ _ R.he R.re⟩
  · show H' L.d = _
    rw [h4, aqe]
    congr 3
    funext k
    show set1 (fun g => V.ref (L.po g)) g (V.ref p) k = V.ref (set1 L.po g p k)
    unfold set1
    split <;> rfl
  · have ha := R.ev.2 i a e q1 q2
    exact hk _ _ (ne_of ha R.hd (by intro z; cases z)) ha
  · show (if g ∈ L.ks then L.ks else L.ks ++ [g]).Nodup
    by_cases h : g ∈ L.ks
    · rw [if_pos h]
      exact R.nd
    · rw [if_neg h]
      exact List.nodup_append.mpr ⟨R.nd, List.nodup_cons.mpr ⟨by simp, List.nodup_nil⟩, fun a ha c hc e => by rw [List.mem_singleton.mp hc] at e; exact h (by rw [← e]; exact ha)⟩
  · show (b.slots.set g (some x)).length = 64
    rw [List.length_set]
    exact R.len
  · rw [hmem, ahi R.len hg]
    by_cases e : k = g
    · rw [if_pos e]
      exact ⟨fun _ => rfl, fun _ => .inl e⟩
    · rw [if_neg e]
      exact ⟨fun h => h.elim (fun h => absurd h e) (R.mem k).mp, fun h => .inr ((R.mem k).mpr h)⟩
  · rw [ahi R.len hg] at hy
    by_cases e : k = g
    · subst e
      rw [if_pos rfl] at hy
      cases hy
      refine ⟨by simp only [layS, lz]; exact hok, ?_, ?_, ?_⟩
      · simp only [layS, lz]
        exact h1
      · simp only [layS, lz]
        exact h2
      · simp only [layS, lz]
        exact h3
    · rw [if_neg e] at hy
      have Gk := R.gau k y hy
      obtain ⟨r1, r2, r3⟩ := R.rg k ((R.mem k).mpr (by rw [hy]; rfl))
      refine ⟨by simp only [layS, sw e]; exact Gk.ok, ?_, ?_, ?_⟩
      · simp only [layS, sw e]
        exact hkeep _ _ _ Gk.hp r1 (by simp)
      · simp only [layS, sw e]
        exact hkeep _ _ _ Gk.hl r2 (by simp)
      · simp only [layS, sw e]
        exact hkeep _ _ _ Gk.ht r3 (by simp)
  · by_cases e : k = g
    · subst e
      simp only [layS, lz]
      unfold aly
      refine ⟨if_pos rfl, ?_, ?_⟩
      · rw [if_neg (Ne.symm hpl), if_pos rfl]
      · rw [if_neg (Ne.symm hpt), if_neg (Ne.symm hlt), if_pos rfl]
    · have hk2 : k ∈ L.ks := ((hmem k).mp hk').elim (fun h => absurd h e) id
      obtain ⟨y, hy, Gk⟩ := R.slot hk2
      obtain ⟨r1, r2, r3⟩ := R.rg k hk2
      simp only [layS, sw e]
      exact ⟨hρ _ _ _ Gk.hp r1, hρ _ _ _ Gk.hl r2, hρ _ _ _ Gk.ht r3⟩
end
section
variable {P : Program} {w : World} {K : PySem.W.Frag} {mg : Str → Option Value} {base : Heap} {t : Ad}
def aql (kind place : Nat) (how : List Int) : Ql90.Slot := ⟨gOf kind place how, none, 2, []⟩
theorem ann (b : Ql90.Board) (g kind place : Int) (how : List Int) : b.act (.set g kind place (aaw how)) = if Ql90.between g 0 63 = false ∨ Ql90.between kind 0 15 = false ∨ Ql90.between place 0 (1024 - Ql90.width kind.toNat) = false ∨ (gOf kind.toNat place.toNat how).good = false then (Ql90.only (-2), b) else (Ql90.only 0, setS b g.toNat (some (aql kind.toNat place.toNat how))) := rfl
def aug (K : PySem.W.Frag) (t : Ad) : Sp := fun vs H Q _ => ∃ (B a : Addr) (g kind place : Int) (how : List Int) (ρ : Addr → Option Role) (b : Ql90.Board) (L : Lay), vs = [.ref B, .int g, .int kind, .int place, .ref a] ∧ BRep t H ρ B b L ∧ SqL K H a (how.map V.int) ∧ how.length = 10 ∧ (∀ x ∈ how, B64 x) ∧ uk t H ρ B Q (b.act (.set g kind place (aaw how))).1 (b.act (.set g kind place (aaw how))).2
theorem agc : FnScope ["self", "g", "kind", "place", "how"] ["self", "g", "kind", "place", "how"] (defScope mf) := ⟨rfl, rfl, rfl, by decide +kernel, rfl, by decide +kernel, by decide +kernel⟩
theorem aga (T : Txt K mg t) : FnOk P w K mg base CX0 5 t.la t.lh ["self", "g", "kind", "place", "how"] (aug K t) := by
  refine T.om.ok agc (fun vs H Q E h => ?_) (fun cdv A outer s H vs Q E hr h => ?_)
  · obtain ⟨B, a, g, kind, place, how, ρ, b, L, rfl, _⟩ := h
    rfl
  · obtain ⟨B, a, g, kind, place, how, ρ, b, L, rfl, R, hS, hl, hb, q⟩ := h
    refine ⟨_, (pss_cons (ps_if (PW.pt (pw_or (pt_not (pt_val (pe_call (yf T) (hr.mono (by decide)) rfl T.rf T.mo.kp T.x6 .nil pass0 (pa_cons (pv 1) pa_nil)))) (pw_or1 (pt_not (pt_val (pe_call (am5 T) (hr.mono (by decide)) rfl T.aci T.xc.kp T.aiz .nil pass0 (pa_cons (pv 2) pa_nil)))))))
        (pss_one (ps_ret (pe_lst (pa_cons (pe_un un_neg pe_int) pa_nil))))
        pss_nil)
      (pss_cons (ps_if (PW.pt (pw_or (pt_cmpR op_lt (pv 3) pe_int (nomark _)) (pw_or (pt_cmpR op_gt (pe_op op_add (pv 3) (pe_call (g8 T) (hr.mono (by decide)) rfl T.de T.bj.kp T.g5 .nil pass0 (pa_cons (pv 2) pa_nil))) (ai T.qz rfl) (nomark _)) (pw_or1 (pt_not (pt_val (pe_call (agh T) (hr.mono (by decide)) rfl T.ub T.le.kp T.ab2 .nil pass0 (pa_cons (pv 4) pa_nil))))))))
        (pss_one (ps_ret (pe_lst (pa_cons (pe_un un_neg pe_int) pa_nil))))
        pss_nil)
      (pss_cons (ps_dput (hu_of hr) (pe_fld (pv 0) rfl) (pv 1) (pe_make T.aep (ah9 T) (hr.mono (by decide)) rfl T.agp T.aei .nil pass0 (pa_cons (pv 2) (pa_cons (pv 3) (pa_cons (pv 4) pa_nil)))) rfl)
      (pss_one (ps_ret (pe_lst (pa_cons pe_int pa_nil))))))), ?_⟩
    rw [ann] at q
    simp only [RD, List.replicate, List.set, Nat.reduceAdd, Nat.reduceSub]
    have bad : (Ql90.between g 0 63 = false ∨ Ql90.between kind 0 15 = false ∨ Ql90.between place 0 (1024 - Ql90.width kind.toNat) = false ∨ (gOf kind.toNat place.toNat how).good = false) → ∀ H1, Same H H1 → 1 ≤ sizeLine ∧ ∀ p, H1 p = none → Q (.ref p) (upd H1 p (.lst [.int (-2)])) := by
      intro hc H1 hS1
      rw [if_pos hc] at q
      exact ⟨by decide, uk.refuse R q H1 hS1⟩
    refine ⟨trivial, ?_⟩
    cases c1 : decide (0 ≤ g) && decide (g < 64) with
    | false =>
      rw [if_pos rfl]
      exact bad (.inl (by rw [vb, c1])) H (Same.refl _)
    | true =>
      rw [if_neg (by simp)]
      refine ⟨trivial, ?_⟩
      cases c2 : decide (0 ≤ kind) && decide (kind ≤ 15) with
      | false =>
        rw [if_pos rfl]
        exact bad (.inr (.inl c2)) H (Same.refl _)
      | true =>
        rw [if_neg (by simp)]
        have c1' := c1
        have c2' := c2
        rw [Bool.and_eq_true] at c1' c2'
        obtain ⟨gn, rfl⟩ := natF (of_decide_eq_true c1'.1)
        obtain ⟨kn, rfl⟩ := natF (of_decide_eq_true c2'.1)
        have hg64 : gn < 64 := by have := of_decide_eq_true c1'.2; omega
        have hk15 : kn ≤ 15 := by have := of_decide_eq_true c2'.2; omega
        rw [Int.toNat_natCast, Int.toNat_natCast] at q
        have bad : (Ql90.between place 0 (1024 - Ql90.width kn) = false ∨ (gOf kn place.toNat how).good = false) → ∀ H1, Same H H1 → 1 ≤ sizeLine ∧ ∀ p, H1 p = none → Q (.ref p) (upd H1 p (.lst [.int (-2)])) := fun h => bad (.inr (.inr (by rw [Int.toNat_natCast]; exact h)))
        have hwd := adm kn
        by_cases c3 : place < 0
        · rw [if_pos c3]
          exact bad (.inl (n4.mpr fun h => by have := h.1; omega)) H (Same.refl _)
        · rw [if_neg c3]
          refine ⟨Int.natCast_nonneg _, ?_⟩
          rw [Int.toNat_natCast]
          by_cases c4 : 1024 < place + (wd kn : Int)
          · rw [if_pos c4]
            exact bad (.inl (n4.mpr fun h => by have := h.2; rw [lp] at this; omega)) H (Same.refl _)
          · rw [if_neg c4]
            refine ⟨a, how, rfl, hS, hl, hb, fun H1 hS1 => ⟨_, rfl, ?_⟩⟩
            cases c5 : (gz how).good with
            | false =>
              rw [if_pos rfl]
              exact bad (.inr c5) H1 hS1
            | true =>
              rw [if_neg (by simp)]
              obtain ⟨pn, rfl⟩ := natF (show 0 ≤ place by omega)
              rw [Int.toNat_natCast] at q
              have hgd : (gOf kn pn how).good = true := c5
              rw [if_neg (by
                rintro (h | h | h | h)
                · rw [vb, c1] at h; cases h
                · have h := n4.mp h
                  omega
                · have h := n4.mp h
                  rw [lp] at h
                  omega
                · rw [hgd] at h; cases h)] at q
              have R1 := R.same hS1
              simp only [RD, List.replicate, List.set, Nat.reduceAdd, Nat.reduceSub, sDPut, tMake]
              intro p dx hp hdx hne
              have hpdx := hne
              have e0 : upd (upd H1 dx (.own p)) p (.ins t.ac dx []) p = some (.ins t.ac dx []) := upd_same
              have S0 : Same H1 (upd H1 dx (.own p)) := Same.new hdx
              have S00 : Same H1 (upd (upd H1 dx (.own p)) p (.ins t.ac dx [])) := S0.trans (Same.new (by rw [upd_ne (Ne.symm hne)]; exact hp))
              refine ⟨p, dx, a, kn, pn, how, rfl, e0, (hS1.trans S00).seq hS, hl, hb, fun lim tr H2 nlim ntr hlt f1 f2 f3 f4 => ⟨rfl, ?_⟩⟩
              have n1 : H1 lim = none := S00.free nlim
              have n2 : H1 tr = none := S00.free ntr
              have hpl : p ≠ lim := ne_of_none e0 nlim
              have hpt : p ≠ tr := ne_of_none e0 ntr
              have S2 : Same H1 H2 := fun c o e => f4 c o (ne_of_none e hp) (S00 _ _ e)
              have R2 := R1.same S2
              rw [af R2.hB T.ab T.aj ft]
              have hdl : L.d ≠ lim := ne_of_none R1.hd n1
              have hdt : L.d ≠ tr := ne_of_none R1.hd n2
              have hdp : L.d ≠ p := ne_of_none R1.hd hp
              refine ⟨L.d, _, rfl, DPut.k (k := Sum.inl (gn : Int)) R2.hd (by rw [ada, sizeLine_eq]; have := R.klen; omega), ?_⟩
              have hsl : wb (aql kn pn how) MR0 [] := by
                refine ⟨aqz hgd, hk15, ?_, rfl, rfl, fun h => absurd h (by decide), rfl, fun z hz => absurd hz (by simp), by decide, by decide⟩
                show pn + wd kn ≤ 1024
                omega
              have R3 := R1.set (H' := upd H2 L.d (.dK (putK (gkv L.ks fun g => .ref (L.po g)) (Sum.inl (gn : Int)) (.ref p)))) hg64 (x := aql kn pn how) hsl (p := p) (dx := dx) (lim := lim) (tr := tr) hp n1 n2 hpl hpt hlt
                (by rw [upd_ne (Ne.symm hdp)]; exact f1) (by rw [upd_ne (Ne.symm hdl)]; exact f3) (by rw [upd_ne (Ne.symm hdt)]; exact f2) upd_same (fun c o hc e => by rw [upd_ne hc]; exact S2 _ _ e)
              have hfree : ∀ c, upd H2 L.d (.dK (putK (gkv L.ks fun g => .ref (L.po g)) (Sum.inl (gn : Int)) (.ref p))) c = none → H c = none := by
                intro c hc
                have hcd : c ≠ L.d := fun e => by rw [e, upd_same] at hc; cases hc
                rw [upd_ne hcd] at hc
                exact (hS1.trans S2).free hc
              refine ⟨by decide, fun l hl' => q l _ _ _ (R3.same (Same.new hl')) (fun c o e hc => Same.new hl' _ _ ?_) (fun c hc => ?_) (hfree l hl') upd_same⟩
              · rw [upd_ne (fun e' => by rw [e', R.rd] at hc; cases hc)]
                exact (hS1.trans S2) _ _ e
              · unfold aly at hc
                by_cases h1 : c = p
                · exact .inr (by rw [h1]; exact hS1.free hp)
                · rw [if_neg h1] at hc
                  by_cases h2 : c = lim
                  · exact .inr (by rw [h2]; exact hS1.free n1)
                  · rw [if_neg h2] at hc
                    by_cases h3 : c = tr
                    · exact .inr (by rw [h3]; exact hS1.free n2)
                    · rw [if_neg h3] at hc
                      exact .inl hc
end
end GB
end

section
set_option Elab.async false
set_option maxRecDepth 100000
set_option maxHeartbeats 4000000
set_option linter.all false
set_option exponentiation.threshold 100
namespace GB
open PySem L2
theorem al4 {ρ : Addr → Option Role} {tr : Addr} {g : Nat} (h : ρ tr = some (.tra g)) : ai1 ρ tr g = ρ := by
  funext a
  unfold ai1
  by_cases e : a = tr
  · rw [if_pos e, e, h]
  · rw [if_neg e]
def rdN (b : Ql90.Board) (f : Ql90.Bytes) (time : Nat) (l : List Nat) : Ql90.Board := l.foldl (fun (c : Ql90.Board) (g : Nat) => c.reading f time g) b
theorem aip (b : Ql90.Board) (n : Nat) (hn : n ≤ 1024) (f : Ql90.Bytes) (wh time : Nat) : b.act (.frame (n : Int) f wh time) = if ((Ql90.those wh).all fun g => ou b n g) = false then (Ql90.only (-3), b) else (Ql90.only 0, rdN b f time (Ql90.those wh)) := by
  have hb : Ql90.between (n : Int) 0 Ql90.PLACES = true := by
    rw [ab6, Bool.and_eq_true]
    exact ⟨decide_eq_true (by omega), decide_eq_true (by show (n : Int) ≤ ((1024 : Nat) : Int); omega)⟩
  have hr : b.ready wh (n : Int).toNat = (Ql90.those wh).all fun g => ou b n g := by rw [Int.toNat_natCast]; rfl
  show (if Ql90.between (n : Int) 0 Ql90.PLACES = false then (Ql90.only (-2), b) else if b.ready wh (n : Int).toNat = false then (Ql90.only (-3), b) else (Ql90.only 0, rdN b f time (Ql90.those wh))) = _
  rw [hb, hr, if_neg (by simp)]
theorem aki {b : Ql90.Board} {g : Nat} {x : Ql90.Slot} (hx : b.at_ g = some x) (f : Ql90.Bytes) (time : Nat) {raw : Int} (hr : Ql90.number x.g.kind ((f.drop x.g.place).take (Ql90.width x.g.kind)) = raw) :
    b.reading f time g = if (x.reads raw).state = x.state then setS b g (some (x.reads raw)) else (setS b g (some (x.reads raw))).event ⟨time, x.g.value raw, g, x.state, (x.reads raw).state⟩ := by
  subst hr
  unfold Ql90.Board.reading
  rw [hx]
  rfl
theorem aqk (b : Ql90.Board) (e : Ql90.Event) (k : Nat) : (b.event e).at_ k = b.at_ k := by
  have h : (b.event e).slots = b.slots := by unfold Ql90.Board.event; rfl
  unfold Ql90.Board.at_
  rw [h]
def asm (t : Ad) : Sp := fun vs H Q _ => ∃ (B fa : Addr) (which time : Int) (fr : List Int) (ρ : Addr → Option Role) (b : Ql90.Board) (L : Lay), vs = [.ref B, .int which, .int time, .ref fa] ∧ B64 which ∧ 0 ≤ time ∧ BRep t H ρ B b L ∧ H fa = some (.lst (fr.map V.int)) ∧ ρ fa = none ∧ (∀ x ∈ fr, o8 x) ∧ fr.length ≤ 1024 ∧
  uk t H ρ B Q (b.act (.frame (fr.length : Int) (fr.map jh) which.toNat time.toNat)).1 (b.act (.frame (fr.length : Int) (fr.map jh) which.toNat time.toNat)).2
section
variable {P : Program} {w : World} {K : PySem.W.Frag} {mg : Str → Option Value} {base : Heap} {t : Ad}
theorem df : FnScope ["self", "which", "time", "frame", "numbers", "g", "gauge", "before"] ["self", "which", "time", "frame"] (defScope eh) := ⟨rfl, rfl, rfl, by decide +kernel, rfl, by decide +kernel, by decide +kernel⟩
theorem ad6 (T : Txt K mg t) : FnOk P w K mg base CX0 7 t.ir t.im ["self", "which", "time", "frame"] (asm t) := by
  refine T.kt.ok df (fun vs H Q E h => ?_) (fun cdv A outer s H vs Q E hr h => ?_)
  · obtain ⟨B, fa, wh, time, fr, ρ, b, L, rfl, _⟩ := h
    rfl
  · obtain ⟨B, fa, wh, time, fr, ρ, b, L, rfl, hw, ht, R, hF, hρF, hFb, hFl, q⟩ := h
    refine ⟨_, (pss_cons (ps_set (i := 4) df.nd rfl (Or.inl rfl) (pe_call (wu T) (hr.mono (by decide)) rfl T.ot T.ke.kp T.vx .nil pass0 (pa_cons (pv 1) pa_nil)))
      (pss_cons (ps_if (pt_not (pt_val (pe_callB (cr_all rfl) (by rfl) T.afu zf (pa_cons (pe_lc rfl df.nd (pi_list (pv 4)) (blkG (own := [("g", 5)]) (N := ["self", "which", "time", "frame", "numbers", "g", "gauge", "before"]) (sc := defScope eh) rfl rfl rfl (by decide +kernel) (by decide +kernel) (by decide +kernel) (by decide +kernel)) (fun _ _ _ _ _ => pg_name (i := 5) df.nd rfl (Or.inl rfl)) (fun _ _ _ _ _ => pts_nil) (fun _ _ _ _ _ => (pe_meth (pv 0) T.ab T.sy (acr T) (hr.mono (by decide)) T.aas .nil pass0 (pa_cons (pv 5) (pa_cons (pe_callB (aiq K rfl) (by rfl) T.zr PySem.boot_len (pa_cons (pv 3) pa_nil)) pa_nil))))) pa_nil))))
        (pss_one (ps_ret (pe_lst (pa_cons (pe_un un_neg pe_int) pa_nil))))
        pss_nil)
      (pss_cons (ps_for PassesOwn.never rfl (pi_list (pv 4)) (pg_name (i := 5) df.nd rfl (Or.inl rfl))
        (pss_cons (ps_set (i := 6) df.nd rfl (Or.inl rfl) (pe_dget (hu_of hr) (pe_fld (pv 0) rfl) (pv 5) (fun _ _ => rfl)))
      (pss_cons (ps_set (i := 7) df.nd rfl (Or.inl rfl) (pe_fld (pv 6) rfl))
      (pss_cons (ps_expr (pe_meth (pv 6) T.aa T.j1 (aa2 T) (hr.mono (by decide)) T.vv .nil pass0 (pa_cons (pe_call (ajv T) (hr.mono (by decide)) rfl T.ye T.rn.kp T.afp .nil pass0 (pa_cons (pv 3) (pa_cons (pe_fld (pv 6) rfl) (pa_cons (pe_fld (pv 6) rfl) pa_nil)))) pa_nil)))
      (pss_one (ps_if (pt_cmpR op_ne (pe_fld (pv 6) rfl) (pv 7) (nomark _))
        (pss_one (ps_expr (pe_meth (pv 0) T.ab T.mh (aco T) (hr.mono (by decide)) T.xp .nil pass0 (pa_cons (pe_tup (pa_cons (pv 2) (pa_cons (pe_call (lr T) (hr.mono (by decide)) rfl T.fb T.b6.kp T.kl .nil pass0 (pa_cons (pe_fld (pv 6) rfl) pa_nil)) (pa_cons (pe_op op_add (pe_op op_add (pv 5) (pe_op qu pe_int (pv 7))) (pe_op qu pe_int (pe_fld (pv 6) rfl))) pa_nil)))) pa_nil))))
        pss_nil))))))
      (pss_one (ps_ret (pe_lst (pa_cons pe_int pa_nil))))))), ?_⟩
    rw [aip b _ hFl] at q
    obtain ⟨tm, rfl⟩ := natF ht
    rw [Int.toNat_natCast] at q
    simp only [RD, List.replicate, List.set, Nat.reduceAdd, Nat.reduceSub]
    refine ⟨wh, rfl, hw, fun l H1 hS1 hn1 hl1 => ?_⟩
    refine ox (H1 := H1) (a := l) (ks := Ql90.those wh.toNat) (f := fun g => .int (g : Int)) (wp _) (fun g => some (.bl (ou b fr.length g))) (fun R r => ?_) (SqL.of hl1) (fun g hg H' hH R' r => ⟨rfl, ?_⟩) (fun D H2 hD hH hl2 => ?_)
    · simp only [RD, List.replicate, List.set, Nat.reduceAdd, Nat.reduceSub]
      exact r
    · have R2 := R.same (hS1.trans hH)
      have r := r _ (Same.refl _)
      simp only [RD, List.replicate, List.set, Nat.reduceAdd, Nat.reduceSub, wipe, tYes, ax R2.hB aj4]
      refine ⟨fa, _, rfl, .inl (SqL.of ((hS1.trans hH) _ _ hF)), ?_⟩
      rw [List.length_map]
      exact ⟨B, g, fr.length, ρ, b, L, rfl, R2, r⟩
    · rw [am] at hl2
      have S2 := hS1.trans hH
      refine allB (bs := (Ql90.those wh.toNat).map fun g => ou b fr.length g) (SqL.of (by rw [hl2, List.map_map]; rfl)) ?_
      rw [aeo]
      simp only [RD, List.replicate, List.set, Nat.reduceAdd, Nat.reduceSub]
      cases hall : (Ql90.those wh.toNat).all fun (g : Nat) => ou b fr.length g with
      | false =>
        rw [hall, if_pos rfl] at q
        rw [if_pos rfl]
        exact ⟨by decide, uk.refuse R q H2 S2⟩
      | true =>
        rw [hall, if_neg (by simp)] at q
        rw [if_neg (by simp)]
        generalize hth : Ql90.those wh.toNat = th at *
        have htm : ∀ g ∈ th, ou b fr.length g = true := fun g hg => List.all_eq_true.mp hall g hg
        have hth64 : ∀ g ∈ th, g < 64 := fun g hg => by rw [← hth] at hg; exact ahk hg
        have hlF : l ≠ fa := fun e => by rw [e, hF] at hn1; cases hn1
        refine forL (i := 4) rfl (SqL.of (hH _ _ hl1)) (fun i σ H' => (∃ v5 v6 v7, σ = [some (.ref B), some (.int wh), some (.int (tm : Int)), some (.ref fa), some (.ref l), v5, v6, v7]) ∧ H' l = some (.lst (natV th)) ∧ (∀ c, H' c = none → H c = none) ∧ (∀ c o, H c = some o → ρ c = none → H' c = some o) ∧
            (∀ k, ((rdN b (fr.map jh) tm (th.take i)).at_ k).map Ql90.Slot.g = (b.at_ k).map Ql90.Slot.g) ∧ ∃ L', BRep t H' ρ B (rdN b (fr.map jh) tm (th.take i)) L' ∧ (∀ k ∈ L'.ks, ∃ o, H (L'.tr k) = some o) ∧ ∃ o, H L'.e = some o)
          ⟨⟨_, _, _, rfl⟩, hH _ _ hl1, fun c hc => S2.free hc, fun c o e _ => S2 _ _ e, fun k => rfl, L, R.same S2, fun k hk => by (obtain ⟨x, _, G⟩ := R.slot hk; exact ⟨_, G.ht⟩), ⟨_, R.he⟩⟩ (fun i σ H' _ h' => SqL.of h'.2.1) (fun i x σ H' hx h' => ?_) (fun σ H' h' => ?_)
        · obtain ⟨⟨v5, v6, v7, rfl⟩, hl', hfree, hk', hgs, L', R', htrk, heo⟩ := h'
          have hgi : ∃ g, th[i]? = some g ∧ x = .int (g : Int) := by
            unfold natV at hx
            rw [List.getElem?_map] at hx
            cases e : th[i]? with
            | none => rw [e] at hx; cases hx
            | some g => rw [e] at hx; exact ⟨g, rfl, (Option.some.inj hx).symm⟩
          obtain ⟨g, hg, rfl⟩ := hgi
          have hgm : g ∈ th := List.mem_of_getElem? hg
          have htake : th.take (i + 1) = th.take i ++ [g] := by rw [List.take_add_one, hg]; rfl
          have hb' : rdN b (fr.map jh) tm (th.take (i + 1)) = (rdN b (fr.map jh) tm (th.take i)).reading (fr.map jh) tm g := by
            rw [htake]
            unfold rdN
            rw [List.foldl_append]
            rfl
          rw [hb']
          have hfit : ∃ x, (rdN b (fr.map jh) tm (th.take i)).at_ g = some x ∧ x.g.place + wd x.g.kind ≤ fr.length := by
            have h1 := htm g hgm
            have h2 := hgs g
            unfold ou at h1
            cases e : b.at_ g with
            | none => rw [e] at h1; cases h1
            | some y =>
              rw [e] at h1 h2
              cases e2 : (rdN b (fr.map jh) tm (th.take i)).at_ g with
              | none => rw [e2] at h2; cases h2
              | some x =>
                rw [e2] at h2
                have h3 : x.g = y.g := Option.some.inj h2
                have h4 := of_decide_eq_true (show decide (y.g.place + Ql90.width y.g.kind ≤ fr.length) = true from h1)
                rw [lp] at h4
                exact ⟨x, rfl, by rw [h3]; exact h4⟩
          obtain ⟨x, hx, hfit⟩ := hfit
          generalize hbi : rdN b (fr.map jh) tm (th.take i) = bi at *
          have hin : g ∈ L'.ks := (R'.mem g).mpr (by rw [hx]; rfl)
          have G := R'.gau g x hx
          obtain ⟨r1, r2, r3⟩ := R'.rg g hin
          have hget := R'.get g
          rw [if_pos hin] at hget
          have hF' := hk' _ _ hF hρF
          have hpart : ∀ z ∈ (fr.drop x.g.place).take (wd x.g.kind), o8 z := fun z hz => hFb z (List.mem_of_mem_drop (List.mem_of_mem_take hz))
          have hplen : ((fr.drop x.g.place).take (wd x.g.kind)).length = wd x.g.kind := by rw [List.length_take, List.length_drop]; omega
          have hraw := alc hpart hplen
          have hnum : Ql90.number x.g.kind (((fr.map jh).drop x.g.place).take (Ql90.width x.g.kind)) = afr ((fr.drop x.g.place).take (wd x.g.kind)) x.g.kind := by
            rw [lp, ← List.map_drop, ← List.map_take]
            exact ao1 G.ok.kind hpart hplen
          rw [aki hx (fr.map jh) tm hnum]
          simp only [RD, List.replicate, List.set, Nat.reduceAdd, Nat.reduceSub, tDGet, af R'.hB T.ab T.aj ft]
          refine ⟨_, _, rfl, hget, ?_⟩
          rw [af G.hp T.aa T.cy abq, ax G.hp af9, af G.hp T.aa T.ko ahj, af G.hp T.aa T.g6 ads]
          refine ⟨fa, fr, x.g.place, x.g.kind, rfl, SqL.of hF', hFb, hfit, fun H3 hS3 => ?_⟩
          have G3 := (R'.same hS3).gau g x hx
          have hlt : L'.lim g ≠ L'.tr g := fun e => by rw [e, r3] at r2; cases r2
          refine ⟨_, _, _, _, _, _, _, _, rfl, G3.hp, G3.ht, G3.hl, hlt, Nat.le_trans G.ok.len (by decide), G.ok.good, hraw, fun hh => (G.ok.vals hh).2.1.sm, fun H4 f1 f2 f3 => ?_⟩
          generalize hrw : afr ((fr.drop x.g.place).take (wd x.g.kind)) x.g.kind = raw at *
          have hS4 : ∀ c o, c ≠ L'.po g → c ≠ L'.tr g → H' c = some o → H4 c = some o := fun c o h1 h2 e => f3 c o h1 h2 (hS3 _ _ e)
          have R4 := R'.upd1 hx (asr x raw) (G.ok.reads hraw) (.inl rfl) f1 f2 hS4
          rw [al4 r3] at R4
          have hnR : ∀ c o, H c = some o → ρ c = none → c ≠ L'.po g ∧ c ≠ L'.tr g := fun c o e hc => ⟨fun e' => (by rw [e', r1] at hc; cases hc), fun e' => (by rw [e', r3] at hc; cases hc)⟩
          have hfree4 : ∀ c, H4 c = none → H c = none := by
            intro c hc
            apply hfree
            cases h : H' c with
            | none => rfl
            | some o =>
              by_cases h1 : c = L'.po g
              · rw [h1, f1] at hc; cases hc
              · by_cases h2 : c = L'.tr g
                · rw [h2, f2] at hc; cases hc
                · rw [hS4 c o h1 h2 h] at hc; cases hc
          have hlpo : l ≠ L'.po g := ne_of hl' G.hp (by intro z; cases z)
          have hltr : l ≠ L'.tr g := by
            intro e
            obtain ⟨o, ho⟩ := htrk g hin
            rw [← e, hn1] at ho
            cases ho
          have htrk4 : ∀ k ∈ L'.ks, ∃ o, H (set1 L'.tr g (L'.tr g) k) = some o := by
            intro k hk
            obtain ⟨o, ho⟩ := htrk k hk
            refine ⟨o, ?_⟩
            unfold set1
            split
            · rename_i e; rw [← e]; exact ho
            · exact ho
          have hl4 := hS4 l _ hlpo hltr hl'
          have hk4 : ∀ c o, H c = some o → ρ c = none → H4 c = some o := fun c o e hc => hS4 c o (hnR c o e hc).1 (hnR c o e hc).2 (hk' c o e hc)
          have hgs4 : ∀ k, ((setS bi g (some (x.reads raw))).at_ k).map Ql90.Slot.g = (b.at_ k).map Ql90.Slot.g := by
            intro k
            rw [ahi R'.len (hth64 g hgm)]
            by_cases e : k = g
            · rw [if_pos e, e, ← hgs g, hx]
              rfl
            · rw [if_neg e]
              exact hgs k
          have hst : (x.reads raw).state = (zh x.g (L'.ms g) raw).state := (G.ok.reads hraw).state
          rw [af f1 T.aa T.cy abq, agk]
          refine ⟨_, rfl, ?_⟩
          by_cases hs : (x.reads raw).state = x.state
          · have hd : decide (((zh x.g (L'.ms g) raw).state : Int) = ((L'.ms g).state : Int)) = true := decide_eq_true (by rw [← hst, hs, G.ok.state])
            rw [hd, if_neg (by simp), if_pos hs]
            exact ⟨⟨_, _, _, rfl⟩, hl4, hfree4, hk4, hgs4, _, R4, htrk4, heo⟩
          · have hd : decide (((zh x.g (L'.ms g) raw).state : Int) = ((L'.ms g).state : Int)) = false := decide_eq_false (fun h => hs (by rw [hst, G.ok.state]; omega))
            rw [hd, if_pos (by rfl), if_neg hs, ax R4.hB aie, af f1 T.aa T.ia agy, ajk]
            obtain ⟨ev, hy⟩ := ai0 G.ok.good hraw
            have hst4 := G.ok.st4
            have hst5 := (G.ok.reads hraw).st4
            refine ⟨hy.sm.mono (by decide), ?_⟩
            rw [aju, agm, af f1 T.aa T.cy abq, aju, agm]
            refine ⟨⟨au (by decide) (by decide), au (by rw [Int.natAbs_natCast]; omega) (by decide)⟩, ⟨au (by decide) (by decide), au (by rw [Int.natAbs_natCast]; omega) (by decide)⟩, by decide, fun p hp => ?_⟩
            have hS5 := Same.new (o := .tup [V.int (tm : Int), .int (DB (zh x.g (L'.ms g) raw).val : Int), .int ((g : Int) + 256 * ((L'.ms g).state : Int) + 65536 * ((zh x.g (L'.ms g) raw).state : Int))]) hp
            have R5 := R4.same hS5
            refine ⟨B, L'.bx, L'.d, L'.e, _, _, _, rfl, R5.hB, R5.he, ?_, fun H6 g1 g2 g3 => ?_⟩
            · rw [List.length_map]
              have h1 := R5.ev.1
              have h2 := R5.evl
              omega
            · have hlen5 : (L'.ea.map V.ref).length = (setS bi g (some (x.reads raw))).events.length := by rw [List.length_map]; exact R5.ev.1
              rw [hlen5] at g1
              have R6 := R5.event (H' := H6) (a := p) (ev := ⟨tm, x.g.value raw, g, x.state, (x.reads raw).state⟩) (by
                rw [upd_same]
                unfold evV
                dsimp only
                rw [ev, hst, G.ok.state]
                rfl) g1 g2 g3
              have hlB : l ≠ B := ne_of hl4 R4.hB (by intro z; cases z)
              have hle : l ≠ L'.e := by
                intro e
                obtain ⟨o, ho⟩ := heo
                rw [← e, hn1] at ho
                cases ho
              refine ⟨⟨_, _, _, rfl⟩, g3 _ _ hlB hle (hS5 _ _ hl4), fun c hc => ?_, fun c o e hc => ?_, fun k => ?_, _, R6, htrk4, heo⟩
              · apply hfree4
                cases h : H4 c with
                | none => rfl
                | some o =>
                  by_cases h1 : c = B
                  · rw [h1, g1] at hc; cases hc
                  · by_cases h2 : c = L'.e
                    · rw [h2, g2] at hc; cases hc
                    · rw [g3 c o h1 h2 (hS5 _ _ h)] at hc; cases hc
              · refine g3 c o (fun e' => ?_) (fun e' => ?_) (hS5 _ _ (hk4 c o e hc))
                · rw [e', R'.rB] at hc; cases hc
                · rw [e', R'.re] at hc; cases hc
              · rw [aqk]
                exact hgs4 k
        · obtain ⟨⟨v5, v6, v7, rfl⟩, hl', hfree, hk', hgs, L', R', htrk, heo⟩ := h'
          have e : th.take (natV th).length = th := by
            unfold natV
            rw [List.length_map]
            exact List.take_length
          rw [e] at R'
          simp only [RD, List.replicate, List.set, Nat.reduceAdd, Nat.reduceSub]
          exact ⟨by decide, fun l2 hl2 => q l2 _ ρ L' (R'.same (Same.new hl2)) (fun c o e hc => Same.new hl2 _ _ (hk' c o e hc)) (fun c hc => .inl hc) (hfree _ hl2) upd_same⟩
end
end GB
end

section
set_option Elab.async false
set_option maxRecDepth 100000
set_option maxHeartbeats 4000000
set_option linter.all false
set_option exponentiation.threshold 100
namespace GB
open PySem L2
inductive g7 : Nat → List Int → List (List Int) → Ql90.Call → Prop
  | set (g kind place : Int) (how : List Int) (hl : how.length = 10) (hb : ∀ x ∈ how, B64 x) : g7 1 [g, kind, place] [how] (.set g kind place (aaw how))
  | frame (which time : Int) (fr : List Int) (hw : B64 which) (ht : B64 time) (hb : ∀ x ∈ fr, o8 x) (hl : fr.length ≤ 1024) : g7 2 [which, time] [fr] (.frame (fr.length : Int) (fr.map jh) which.toNat time.toNat)
  | tell (which form : Int) (hw : B64 which) : g7 3 [which, form] [] (.tell which.toNat form)
  | raw (which form : Int) (hw : B64 which) : g7 4 [which, form] [] (.raw which.toNat form)
  | dial (which : Int) (hw : B64 which) : g7 5 [which] [] (.dial which.toNat)
  | point (g y : Int) (hy : B64 y) : g7 6 [g, y] [] (.point g y.toNat)
  | points (which : Int) (ys fr : List Int) (hw : B64 which) (hyl : ys.length = 64) (hy : ∀ y ∈ ys, B64 y) (hb : ∀ x ∈ fr, o8 x) (hl : fr.length ≤ 1024) : g7 7 [which] [ys, fr] (.points which.toNat (aaw ys) (fr.length : Int) (fr.map jh))
  | states : g7 8 [] [] .states
  | events (most : Int) : g7 9 [most] [] (.events most)
  | lost : g7 10 [] [] .lost
  | trace (g n : Int) : g7 11 [g, n] [] (.trace g n)
  | sums (g n : Int) : g7 12 [g, n] [] (.sums g n)
  | clear (which : Int) (hw : B64 which) : g7 13 [which] [] (.clear which.toNat)
theorem asq (b : Ql90.Board) (w : Nat) (f : Int) : (b.act (.tell w f)).2 = b := by
  show (if Ql90.between f 0 4 = false then (Ql90.only (-2), b) else (_, b)).2 = b
  split <;> rfl
theorem as8 (b : Ql90.Board) (w : Nat) (f : Int) : (b.act (.raw w f)).2 = b := by
  show (if Ql90.between f 0 7 = false then (Ql90.only (-2), b) else (_, b)).2 = b
  split <;> rfl
theorem ase (b : Ql90.Board) (w : Nat) : (b.act (.dial w)).2 = b := rfl
theorem ao2 (b : Ql90.Board) : (b.act .states).2 = b := rfl
theorem asx (b : Ql90.Board) : (b.act .lost).2 = b := rfl
theorem aqj (b : Ql90.Board) (g : Int) (y : Nat) : (b.act (.point g y)).2 = b := by
  show (if Ql90.between g 0 63 = false ∨ Ql90.fair y = false then (Ql90.only (-2), b) else match b.pointed g.toNat y with
      | none => (Ql90.only (-3), b)
      | some x => (_, b)).2 = b
  split
  · rfl
  · cases b.pointed g.toNat y <;> rfl
theorem aov (b : Ql90.Board) (w : Nat) (y : List Nat) (n : Int) (f : Ql90.Bytes) : (b.act (.points w y n f)).2 = b := by
  show (if Ql90.between n 0 Ql90.PLACES = false ∨ ((Ql90.those w).all fun (g : Nat) => Ql90.fair (y.getD g 0)) = false then (Ql90.only (-2), b) else if b.ready w n.toNat = false ∨ ((Ql90.those w).all fun (g : Nat) => (b.pointed g 0).isSome) = false then (Ql90.only (-3), b) else (_, b)).2 = b
  split
  · rfl
  · split <;> rfl
theorem aqa (b : Ql90.Board) (g n : Int) : (b.act (.trace g n)).2 = b := by
  show (if Ql90.between g 0 63 = false ∨ Ql90.between n 0 256 = false then (Ql90.only (-2), b) else if (b.traceOf g.toNat).length < n.toNat then (Ql90.only (-3), b) else (_, b)).2 = b
  split
  · rfl
  · split <;> rfl
theorem asd (b : Ql90.Board) (g n : Int) : (b.act (.sums g n)).2 = b := by
  show (if Ql90.between g 0 63 = false ∨ Ql90.between n 1 256 = false then (Ql90.only (-2), b) else if (b.traceOf g.toNat).length < n.toNat then (Ql90.only (-3), b) else (_, b)).2 = b
  split
  · rfl
  · split <;> rfl
section
variable {P : Program} {w : World} {K : PySem.W.Frag} {mg : Str → Option Value} {base : Heap} {t : Ad}
theorem uk.reads {H : Hp} {ρ : Addr → Option Role} {B : Addr} {b b' : Ql90.Board} {L : Lay} {Q : VK} {a : Ql90.Ans} (R : BRep t H ρ B b L) (q : uk t H ρ B Q a b') (e : b' = b) : zn H Q a := by
  subst e
  exact fun l H' hS hn hl => q l H' ρ L (R.same hS) (fun c o e _ => hS c o e) (fun c h => .inl h) hn hl
def aqh (t : Ad) : Sp := fun vs H Q _ => ∃ (B pa : Addr) (num : Nat) (nums : List Int) (rows : List (List Int)) (as : List Addr) (c : Ql90.Call) (ρ : Addr → Option Role) (b : Ql90.Board) (L : Lay), vs = [.ref B, .int (num : Int), .ref pa] ∧ BRep t H ρ B b L ∧ g7 num nums rows c ∧ H pa = some (.lst (nums.map V.int ++ as.map V.ref)) ∧ as.length = rows.length ∧
  (∀ (i : Nat) (a : Addr) (r : List Int), as[i]? = some a → rows[i]? = some r → H a = some (.lst (r.map V.int)) ∧ ρ a = none) ∧ uk t H ρ B Q (b.act c).1 (b.act c).2
theorem len0 {as : List Addr} (h : as.length = 0) : as = [] := List.length_eq_zero_iff.mp h
theorem len1 : ∀ {as : List Addr}, as.length = 1 → ∃ a, as = [a]
  | [a], _ => ⟨a, rfl⟩
theorem len2 : ∀ {as : List Addr}, as.length = 2 → ∃ a c, as = [a, c]
  | [a, c], _ => ⟨a, c, rfl⟩
theorem aog : FnScope ["board", "number", "parts"] ["board", "number", "parts"] (defScope ahr) := ⟨rfl, rfl, rfl, by decide +kernel, rfl, by decide +kernel, by decide +kernel⟩
theorem aoh (T : Txt K mg t) : FnOk P w K mg base CX0 8 t.zx t.z1 ["board", "number", "parts"] (aqh t) := by
  refine T.zj.ok aog (fun vs H Q E h => ?_) (fun cdv A outer s H vs Q E hr h => ?_)
  · obtain ⟨B, pa, num, nums, rows, as, c, ρ, b, L, rfl, _⟩ := h
    rfl
  · obtain ⟨B, pa, num, nums, rows, as, c, ρ, b, L, rfl, R, hc, hP, hal, hrows, q⟩ := h
    refine ⟨_, (pss_cons (ps_if (pt_cmpR op_eq (pv 1) pe_int (nomark _))
        (pss_one (ps_ret (pe_meth (pv 0) T.ab T.uc (aga T) (hr.mono (by decide)) T.abw .nil pass0 (pa_cons (pe_ix ix_list (pv 2) pe_int (fun _ _ => rfl)) (pa_cons (pe_ix ix_list (pv 2) pe_int (fun _ _ => rfl)) (pa_cons (pe_ix ix_list (pv 2) pe_int (fun _ _ => rfl)) (pa_cons (pe_ix ix_list (pv 2) pe_int (fun _ _ => rfl)) pa_nil)))))))
        pss_nil)
      (pss_cons (ps_if (pt_cmpR op_eq (pv 1) pe_int (nomark _))
        (pss_one (ps_ret (pe_meth (pv 0) T.ab T.qc (ad6 T) (hr.mono (by decide)) T.zu .nil pass0 (pa_cons (pe_ix ix_list (pv 2) pe_int (fun _ _ => rfl)) (pa_cons (pe_ix ix_list (pv 2) pe_int (fun _ _ => rfl)) (pa_cons (pe_ix ix_list (pv 2) pe_int (fun _ _ => rfl)) pa_nil))))))
        pss_nil)
      (pss_cons (ps_if (pt_cmpR op_eq (pv 1) pe_int (nomark _))
        (pss_one (ps_ret (pe_meth (pv 0) T.ab T.qy (aev T) (hr.mono (by decide)) T.aa0 .nil pass0 (pa_cons (pe_ix ix_list (pv 2) pe_int (fun _ _ => rfl)) (pa_cons (pe_ix ix_list (pv 2) pe_int (fun _ _ => rfl)) pa_nil)))))
        pss_nil)
      (pss_cons (ps_if (pt_cmpR op_eq (pv 1) pe_int (nomark _))
        (pss_one (ps_ret (pe_meth (pv 0) T.ab T.tz (agd T) (hr.mono (by decide)) T.abe .nil pass0 (pa_cons (pe_ix ix_list (pv 2) pe_int (fun _ _ => rfl)) (pa_cons (pe_ix ix_list (pv 2) pe_int (fun _ _ => rfl)) pa_nil)))))
        pss_nil)
      (pss_cons (ps_if (pt_cmpR op_eq (pv 1) pe_int (nomark _))
        (pss_one (ps_ret (pe_meth (pv 0) T.ab T.rb (aey T) (hr.mono (by decide)) T.aaz .nil pass0 (pa_cons (pe_ix ix_list (pv 2) pe_int (fun _ _ => rfl)) pa_nil))))
        pss_nil)
      (pss_cons (ps_if (pt_cmpR op_eq (pv 1) pe_int (nomark _))
        (pss_one (ps_ret (pe_meth (pv 0) T.ab T.pd (aen T) (hr.mono (by decide)) T.zd .nil pass0 (pa_cons (pe_ix ix_list (pv 2) pe_int (fun _ _ => rfl)) (pa_cons (pe_ix ix_list (pv 2) pe_int (fun _ _ => rfl)) pa_nil)))))
        pss_nil)
      (pss_cons (ps_if (pt_cmpR op_eq (pv 1) pe_int (nomark _))
        (pss_one (ps_ret (pe_meth (pv 0) T.ab T.ny (acz T) (hr.mono (by decide)) T.yg .nil pass0 (pa_cons (pe_ix ix_list (pv 2) pe_int (fun _ _ => rfl)) (pa_cons (pe_ix ix_list (pv 2) pe_int (fun _ _ => rfl)) (pa_cons (pe_ix ix_list (pv 2) pe_int (fun _ _ => rfl)) pa_nil))))))
        pss_nil)
      (pss_cons (ps_if (pt_cmpR op_eq (pv 1) pe_int (nomark _))
        (pss_one (ps_ret (pe_meth0 (pv 0) T.ab T.n9 (ac5 T) (hr.mono (by decide)) T.yr .nil pass0)))
        pss_nil)
      (pss_cons (ps_if (pt_cmpR op_eq (pv 1) pe_int (nomark _))
        (pss_one (ps_ret (pe_meth (pv 0) T.ab T.og (adj T) (hr.mono (by decide)) T.yq .nil pass0 (pa_cons (pe_ix ix_list (pv 2) pe_int (fun _ _ => rfl)) pa_nil))))
        pss_nil)
      (pss_cons (ps_if (pt_cmpR op_eq (pv 1) pe_int (nomark _))
        (pss_one (ps_ret (pe_meth0 (pv 0) T.ab T.qt (afi T) (hr.mono (by decide)) T.aax .nil pass0)))
        pss_nil)
      (pss_cons (ps_if (pt_cmpR op_eq (pv 1) pe_int (nomark _))
        (pss_one (ps_ret (pe_meth (pv 0) T.ab T.qi (aeb T) (hr.mono (by decide)) T.ze .nil pass0 (pa_cons (pe_ix ix_list (pv 2) pe_int (fun _ _ => rfl)) (pa_cons (pe_ix ix_list (pv 2) pe_int (fun _ _ => rfl)) pa_nil)))))
        pss_nil)
      (pss_cons (ps_if (pt_cmpR op_eq (pv 1) pe_int (nomark _))
        (pss_one (ps_ret (pe_meth (pv 0) T.ab T.qx (ae6 T) (hr.mono (by decide)) T.aav .nil pass0 (pa_cons (pe_ix ix_list (pv 2) pe_int (fun _ _ => rfl)) (pa_cons (pe_ix ix_list (pv 2) pe_int (fun _ _ => rfl)) pa_nil)))))
        pss_nil)
      (pss_one (ps_ret (pe_meth (pv 0) T.ab T.pp (aee T) (hr.mono (by decide)) T.zz .nil pass0 (pa_cons (pe_ix ix_list (pv 2) pe_int (fun _ _ => rfl)) pa_nil)))))))))))))))), ?_⟩
    simp only [RD, List.replicate, List.set, Nat.reduceAdd, Nat.reduceSub]
    cases hc with
    | set g kind place how hl hb =>
      obtain ⟨a, rfl⟩ := len1 hal
      have hP : SqL K H pa [.int g, .int kind, .int place, .ref a] := SqL.of hP
      rw [if_pos (by decide), ax R.hB aos]
      refine ixL hP rfl (ixL hP rfl (ixL hP rfl (ixL hP rfl ?_)))
      exact ⟨B, a, g, kind, place, how, ρ, b, L, rfl, R, SqL.of (hrows 0 a how rfl rfl).1, hl, hb, q⟩
    | frame which time fr hw ht hb hl =>
      obtain ⟨a, rfl⟩ := len1 hal
      have hP : SqL K H pa [.int which, .int time, .ref a] := SqL.of hP
      rw [if_neg (by decide), if_pos (by decide), ax R.hB ak3]
      refine ixL hP rfl (ixL hP rfl (ixL hP rfl ?_))
      exact ⟨B, a, which, time, fr, ρ, b, L, rfl, hw, ht.1, R, (hrows 0 a fr rfl rfl).1, (hrows 0 a fr rfl rfl).2, hb, hl, q⟩
    | tell which form hw =>
      obtain rfl := len0 hal
      have hP : SqL K H pa [.int which, .int form] := SqL.of hP
      rw [if_neg (by decide), if_neg (by decide), if_pos (by decide), ax R.hB al9]
      refine ixL hP rfl (ixL hP rfl ?_)
      exact ⟨B, which, form, ρ, b, L, rfl, hw, R, q.reads R (asq b _ _)⟩
    | raw which form hw =>
      obtain rfl := len0 hal
      have hP : SqL K H pa [.int which, .int form] := SqL.of hP
      rw [if_neg (by decide), if_neg (by decide), if_neg (by decide), if_pos (by decide), ax R.hB apb]
      refine ixL hP rfl (ixL hP rfl ?_)
      exact ⟨B, which, form, ρ, b, L, rfl, hw, R, q.reads R (as8 b _ _)⟩
    | dial which hw =>
      obtain rfl := len0 hal
      have hP : SqL K H pa [.int which] := SqL.of hP
      rw [if_neg (by decide), if_neg (by decide), if_neg (by decide), if_neg (by decide), if_pos (by decide), ax R.hB al6]
      refine ixL hP rfl ?_
      exact ⟨B, which, ρ, b, L, rfl, hw, R, q.reads R (ase b _)⟩
    | point g y hy =>
      obtain rfl := len0 hal
      have hP : SqL K H pa [.int g, .int y] := SqL.of hP
      rw [if_neg (by decide), if_neg (by decide), if_neg (by decide), if_neg (by decide), if_neg (by decide), if_pos (by decide), ax R.hB akn]
      refine ixL hP rfl (ixL hP rfl ?_)
      exact ⟨B, g, y, ρ, b, L, rfl, hy, R, q.reads R (aqj b _ _)⟩
    | points which ys fr hw hyl hy hb hl =>
      obtain ⟨a, a', rfl⟩ := len2 hal
      have hP : SqL K H pa [.int which, .ref a, .ref a'] := SqL.of hP
      rw [if_neg (by decide), if_neg (by decide), if_neg (by decide), if_neg (by decide), if_neg (by decide), if_neg (by decide), if_pos (by decide), ax R.hB aj6]
      refine ixL hP rfl (ixL hP rfl (ixL hP rfl ?_))
      exact ⟨B, a, a', which, ys, fr, ρ, b, L, rfl, hw, R, SqL.of (hrows 0 a ys rfl rfl).1, hyl, hy, SqL.of (hrows 1 a' fr rfl rfl).1, hb, hl, q.reads R (aov b _ _ _ _)⟩
    | states =>
      rw [if_neg (by decide), if_neg (by decide), if_neg (by decide), if_neg (by decide), if_neg (by decide), if_neg (by decide), if_neg (by decide), if_pos (by decide), ax R.hB ajn]
      exact ⟨B, ρ, b, L, rfl, R, q.reads R (ao2 b)⟩
    | events most =>
      obtain rfl := len0 hal
      have hP : SqL K H pa [.int most] := SqL.of hP
      rw [if_neg (by decide), if_neg (by decide), if_neg (by decide), if_neg (by decide), if_neg (by decide), if_neg (by decide), if_neg (by decide), if_neg (by decide), if_pos (by decide), ax R.hB ajz]
      refine ixL hP rfl ?_
      exact ⟨B, most, ρ, b, L, rfl, R, q⟩
    | lost =>
      rw [if_neg (by decide), if_neg (by decide), if_neg (by decide), if_neg (by decide), if_neg (by decide), if_neg (by decide), if_neg (by decide), if_neg (by decide), if_neg (by decide), if_pos (by decide), ax R.hB amq]
      exact ⟨B, ρ, b, L, rfl, R, q.reads R (asx b)⟩
    | trace g n =>
      obtain rfl := len0 hal
      have hP : SqL K H pa [.int g, .int n] := SqL.of hP
      rw [if_neg (by decide), if_neg (by decide), if_neg (by decide), if_neg (by decide), if_neg (by decide), if_neg (by decide), if_neg (by decide), if_neg (by decide), if_neg (by decide), if_neg (by decide), if_pos (by decide), ax R.hB ala]
      refine ixL hP rfl (ixL hP rfl ?_)
      exact ⟨B, g, n, ρ, b, L, rfl, R, q.reads R (aqa b _ _)⟩
    | sums g n =>
      obtain rfl := len0 hal
      have hP : SqL K H pa [.int g, .int n] := SqL.of hP
      rw [if_neg (by decide), if_neg (by decide), if_neg (by decide), if_neg (by decide), if_neg (by decide), if_neg (by decide), if_neg (by decide), if_neg (by decide), if_neg (by decide), if_neg (by decide), if_neg (by decide), if_pos (by decide), ax R.hB am4]
      refine ixL hP rfl (ixL hP rfl ?_)
      exact ⟨B, g, n, ρ, b, L, rfl, R, q.reads R (asd b _ _)⟩
    | clear which hw =>
      obtain rfl := len0 hal
      have hP : SqL K H pa [.int which] := SqL.of hP
      rw [if_neg (by decide), if_neg (by decide), if_neg (by decide), if_neg (by decide), if_neg (by decide), if_neg (by decide), if_neg (by decide), if_neg (by decide), if_neg (by decide), if_neg (by decide), if_neg (by decide), if_neg (by decide), ax R.hB akp]
      refine ixL hP rfl ?_
      exact ⟨B, which, ρ, b, L, rfl, hw, R, q⟩
end
end GB
end

section
set_option Elab.async false
set_option maxRecDepth 100000
set_option maxHeartbeats 4000000
set_option linter.all false
namespace GB
open PySem L2
theorem arr {r x s : List Int} (h : PyFlat.row r = some (x, s)) : r = ((x.length : Int) :: x) ++ s := by
  cases r with
  | nil => cases h
  | cons n r =>
    unfold PyFlat.row at h
    dsimp only at h
    split at h
    · rename_i hn
      cases h
      have hl : (r.take n.toNat).length = n.toNat := by rw [List.length_take]; omega
      rw [hl, List.cons_append, List.take_append_drop, show ((n.toNat : Nat) : Int) = n by omega]
    · cases h
theorem ak7 : ∀ (k : Nat) {r t : List Int} {xs : List (List Int)}, PyFlat.rows k r = some (xs, t) → r = encR xs ++ t ∧ xs.length = k
  | 0, r, t, xs, h => by
    cases h
    exact ⟨rfl, rfl⟩
  | k + 1, r, t, xs, h => by
    unfold PyFlat.rows at h
    cases e : PyFlat.row r with
    | none => rw [e] at h; cases h
    | some p =>
      obtain ⟨x, s⟩ := p
      rw [e] at h
      dsimp only at h
      cases e2 : PyFlat.rows k s with
      | none => rw [e2] at h; cases h
      | some p2 =>
        obtain ⟨ys, t2⟩ := p2
        rw [e2] at h
        cases h
        obtain ⟨h1, h2⟩ := ak7 k e2
        refine ⟨?_, by rw [List.length_cons, h2]⟩
        rw [arr e, h1]
        unfold encR
        rw [List.flatMap_cons, List.append_assoc]
theorem aqr {p : Int} {r t : List Int} {c : List (List Int)} (h : PyFlat.call PyQl90.shape (p :: r) = some (c, t)) :
    ∃ n k nums xs, PyQl90.shape p = some (n, k) ∧ nums.length = n ∧ xs.length = k ∧ r = nums ++ (encR xs ++ t) ∧ c = (p :: nums) :: xs := by
  unfold PyFlat.call at h
  dsimp only at h
  cases e : PyQl90.shape p with
  | none => rw [e] at h; cases h
  | some q =>
    obtain ⟨n, k⟩ := q
    rw [e] at h
    dsimp only at h
    split at h
    · cases h
    · rename_i hl
      cases e2 : PyFlat.rows k (r.drop n) with
      | none => rw [e2] at h; cases h
      | some p2 =>
        obtain ⟨xs, t2⟩ := p2
        rw [e2] at h
        cases h
        obtain ⟨h1, h2⟩ := ak7 k e2
        exact ⟨n, k, r.take n, xs, rfl, by rw [List.length_take]; omega, h2, by rw [← h1, List.take_append_drop], rfl⟩
theorem aop {p : Int} {n k : Nat} (h : PyQl90.shape p = some (n, k)) : ∃ num : Nat, p = (num : Int) ∧ Shp num n k ∧ num ≤ 13 ∧ n ≤ 3 ∧ k ≤ 2 := by
  unfold PyQl90.shape at h
  have go : ∀ (num : Nat) (a b : Nat), p = (num : Int) → some (a, b) = some (n, k) → Shp num a b → num ≤ 13 → a ≤ 3 → b ≤ 2 → ∃ num : Nat, p = (num : Int) ∧ Shp num n k ∧ num ≤ 13 ∧ n ≤ 3 ∧ k ≤ 2 := by
    intro num a b e1 e2 e3 e4 e5 e6
    cases e2
    exact ⟨num, e1, e3, e4, e5, e6⟩
  by_cases e0 : p = 0
  · rw [if_pos e0] at h
    exact go 0 _ _ e0 h rfl (by decide) (by decide) (by decide)
  rw [if_neg e0] at h
  by_cases e1 : p = 1
  · rw [if_pos e1] at h
    exact go 1 _ _ e1 h rfl (by decide) (by decide) (by decide)
  rw [if_neg e1] at h
  by_cases e2 : p = 2
  · rw [if_pos e2] at h
    exact go 2 _ _ e2 h rfl (by decide) (by decide) (by decide)
  rw [if_neg e2] at h
  by_cases e3 : p = 3
  · rw [if_pos e3] at h
    exact go 3 _ _ e3 h rfl (by decide) (by decide) (by decide)
  rw [if_neg e3] at h
  by_cases e4 : p = 4
  · rw [if_pos e4] at h
    exact go 4 _ _ e4 h rfl (by decide) (by decide) (by decide)
  rw [if_neg e4] at h
  by_cases e5 : p = 5
  · rw [if_pos e5] at h
    exact go 5 _ _ e5 h rfl (by decide) (by decide) (by decide)
  rw [if_neg e5] at h
  by_cases e6 : p = 6
  · rw [if_pos e6] at h
    exact go 6 _ _ e6 h rfl (by decide) (by decide) (by decide)
  rw [if_neg e6] at h
  by_cases e7 : p = 7
  · rw [if_pos e7] at h
    exact go 7 _ _ e7 h rfl (by decide) (by decide) (by decide)
  rw [if_neg e7] at h
  by_cases e8 : p = 8
  · rw [if_pos e8] at h
    exact go 8 _ _ e8 h rfl (by decide) (by decide) (by decide)
  rw [if_neg e8] at h
  by_cases e9 : p = 9
  · rw [if_pos e9] at h
    exact go 9 _ _ e9 h rfl (by decide) (by decide) (by decide)
  rw [if_neg e9] at h
  by_cases e10 : p = 10
  · rw [if_pos e10] at h
    exact go 10 _ _ e10 h rfl (by decide) (by decide) (by decide)
  rw [if_neg e10] at h
  by_cases e11 : p = 11
  · rw [if_pos e11] at h
    exact go 11 _ _ e11 h rfl (by decide) (by decide) (by decide)
  rw [if_neg e11] at h
  by_cases e12 : p = 12
  · rw [if_pos e12] at h
    exact go 12 _ _ e12 h rfl (by decide) (by decide) (by decide)
  rw [if_neg e12] at h
  by_cases e13 : p = 13
  · rw [if_pos e13] at h
    exact go 13 _ _ e13 h rfl (by decide) (by decide) (by decide)
  rw [if_neg e13] at h
  cases h
theorem acq {z : Int} (h : Ql90Neutral.natural z 64 = true) : B64 z := by
  unfold Ql90Neutral.natural at h
  rw [Bool.and_eq_true] at h
  exact ⟨of_decide_eq_true h.1, of_decide_eq_true h.2⟩
theorem nat8 {z : Int} (h : Ql90Neutral.natural z 8 = true) : o8 z := by
  unfold Ql90Neutral.natural at h
  rw [Bool.and_eq_true] at h
  have h1 := of_decide_eq_true h.1
  have h2 := of_decide_eq_true h.2
  exact ⟨h1, by omega⟩
theorem ak6 {l : List Int} (h : Ql90Neutral.long l (l.length : Int) 0 1024 = true) : l.length ≤ 1024 := by
  unfold Ql90Neutral.long at h
  have h := of_decide_eq_true h
  split at h
  · rename_i h2; omega
  · omega
theorem wh2 (w t : Int) (f : List Int) : PyQl90.whole [[((2 : Nat) : Int), w, t], f] = [[2, (f.length : Int), w, t], f] := rfl
theorem as2 (n w t : Int) (f : List Int) : Ql90Neutral.asked1 [[2, n, w, t], f] = (Ql90Neutral.whole32 n && (Ql90Neutral.natural w 64 && (Ql90Neutral.natural t 64 && (f.all (fun (z : Int) => Ql90Neutral.natural z 8) && Ql90Neutral.long f n 0 1024)))) := rfl
theorem co2 (n w t : Int) (f : List Int) : Ql90Neutral.callOf [[2, n, w, t], f] = some (.frame n (Ql90Neutral.octets f) w.toNat t.toNat) := rfl
theorem wh7 (w : Int) (y f : List Int) : PyQl90.whole [[((7 : Nat) : Int), w], y, f] = [[7, w, (f.length : Int)], y, f] := rfl
theorem as7 (w n : Int) (y f : List Int) : Ql90Neutral.asked1 [[7, w, n], y, f] = (Ql90Neutral.natural w 64 && (Ql90Neutral.whole32 n && (y.all (fun (z : Int) => Ql90Neutral.natural z 64) && (y.length == 64 && (f.all (fun (z : Int) => Ql90Neutral.natural z 8) && Ql90Neutral.long f n 0 1024))))) := rfl
theorem co7 (w n : Int) (y f : List Int) : Ql90Neutral.callOf [[7, w, n], y, f] = some (.points w.toNat (Ql90Neutral.nats y) n (Ql90Neutral.octets f)) := rfl
theorem aiv (f : List Int) : Ql90Neutral.octets f = f.map jh := rfl
theorem aru (f : List Int) : Ql90Neutral.nats f = aaw f := rfl
theorem ask2 (which time : Int) (f : List Int) (ha : Ql90Neutral.asked1 (PyQl90.whole [[((2 : Nat) : Int), which, time], f]) = true) : ∃ c, g7 2 [which, time] [f] c ∧ Ql90Neutral.callOf (PyQl90.whole [[((2 : Nat) : Int), which, time], f]) = some c := by
  rw [wh2] at ha ⊢
  rw [as2] at ha
  rw [co2, aiv]
  simp only [Bool.and_eq_true, List.all_eq_true] at ha
  obtain ⟨_, h1, h2, h3, h4⟩ := ha
  exact ⟨_, g7.frame which time f (acq h1) (acq h2) (fun x hx => nat8 (h3 x hx)) (ak6 h4), rfl⟩
theorem ask7 (which : Int) (y f : List Int) (ha : Ql90Neutral.asked1 (PyQl90.whole [[((7 : Nat) : Int), which], y, f]) = true) : ∃ c, g7 7 [which] [y, f] c ∧ Ql90Neutral.callOf (PyQl90.whole [[((7 : Nat) : Int), which], y, f]) = some c := by
  rw [wh7] at ha ⊢
  rw [as7] at ha
  rw [co7, aiv, aru]
  simp only [Bool.and_eq_true, List.all_eq_true, beq_iff_eq] at ha
  obtain ⟨h1, _, h2, h3, h4, h5⟩ := ha
  exact ⟨_, g7.points which y f (acq h1) h3 (fun x hx => acq (h2 x hx)) (fun x hx => nat8 (h4 x hx)) (ak6 h5), rfl⟩
theorem l1 {α : Type} : ∀ {l : List α}, l.length = 1 → ∃ a, l = [a]
  | [a], _ => ⟨a, rfl⟩
theorem l2 {α : Type} : ∀ {l : List α}, l.length = 2 → ∃ a b, l = [a, b]
  | [a, b], _ => ⟨a, b, rfl⟩
theorem l3 {α : Type} : ∀ {l : List α}, l.length = 3 → ∃ a b c, l = [a, b, c]
  | [a, b, c], _ => ⟨a, b, c, rfl⟩
theorem aqv {num : Nat} (h13 : num ≤ 13) {nums : List Int} {xs : List (List Int)} (hs : Shp num nums.length xs.length) (ha : Ql90Neutral.asked1 (PyQl90.whole (((num : Int) :: nums) :: xs)) = true) :
    (num = 0 ∧ nums = [] ∧ xs = []) ∨ ∃ c, g7 num nums xs c ∧ Ql90Neutral.callOf (PyQl90.whole (((num : Int) :: nums) :: xs)) = some c := by
  unfold Shp at hs
  have hcases : num = 0 ∨ num = 1 ∨ num = 2 ∨ num = 3 ∨ num = 4 ∨ num = 5 ∨ num = 6 ∨ num = 7 ∨ num = 8 ∨ num = 9 ∨ num = 10 ∨ num = 11 ∨ num = 12 ∨ num = 13 := by omega
  have hp : ∀ a b : Nat, some (((a : Nat) : Int), ((b : Nat) : Int)) = some ((nums.length : Int), (xs.length : Int)) → nums.length = a ∧ xs.length = b := by
    intro a b e
    have e := Option.some.inj e
    have e1 := congrArg Prod.fst e
    have e2 := congrArg Prod.snd e
    simp only at e1 e2
    omega
  rcases hcases with rfl | rfl | rfl | rfl | rfl | rfl | rfl | rfl | rfl | rfl | rfl | rfl | rfl | rfl
  · obtain ⟨h1, h2⟩ := hp 0 0 hs
    exact .inl ⟨rfl, List.length_eq_zero_iff.mp h1, List.length_eq_zero_iff.mp h2⟩
  · obtain ⟨h1, h2⟩ := hp 3 1 hs
    obtain ⟨g, kind, place, rfl⟩ := l3 h1
    obtain ⟨how, rfl⟩ := l1 h2
    have ha : (Ql90Neutral.whole32 g && (Ql90Neutral.whole32 kind && (Ql90Neutral.whole32 place && (how.all (fun (z : Int) => Ql90Neutral.natural z 64) && how.length == 10)))) = true := ha
    simp only [Bool.and_eq_true, List.all_eq_true, beq_iff_eq] at ha
    exact .inr ⟨_, .set g kind place how ha.2.2.2.2 (fun x hx => acq (ha.2.2.2.1 x hx)), rfl⟩
  · obtain ⟨h1, h2⟩ := hp 2 1 hs
    obtain ⟨which, time, rfl⟩ := l2 h1
    obtain ⟨f, rfl⟩ := l1 h2
    exact .inr (ask2 which time f ha)
  · obtain ⟨h1, h2⟩ := hp 2 0 hs
    obtain ⟨which, form, rfl⟩ := l2 h1
    obtain rfl := List.length_eq_zero_iff.mp h2
    have ha : (Ql90Neutral.natural which 64 && Ql90Neutral.whole32 form) = true := ha
    rw [Bool.and_eq_true] at ha
    exact .inr ⟨_, .tell which form (acq ha.1), rfl⟩
  · obtain ⟨h1, h2⟩ := hp 2 0 hs
    obtain ⟨which, form, rfl⟩ := l2 h1
    obtain rfl := List.length_eq_zero_iff.mp h2
    have ha : (Ql90Neutral.natural which 64 && Ql90Neutral.whole32 form) = true := ha
    rw [Bool.and_eq_true] at ha
    exact .inr ⟨_, .raw which form (acq ha.1), rfl⟩
  · obtain ⟨h1, h2⟩ := hp 1 0 hs
    obtain ⟨which, rfl⟩ := l1 h1
    obtain rfl := List.length_eq_zero_iff.mp h2
    exact .inr ⟨_, .dial which (acq ha), rfl⟩
  · obtain ⟨h1, h2⟩ := hp 2 0 hs
    obtain ⟨g, y, rfl⟩ := l2 h1
    obtain rfl := List.length_eq_zero_iff.mp h2
    have ha : (Ql90Neutral.whole32 g && Ql90Neutral.natural y 64) = true := ha
    rw [Bool.and_eq_true] at ha
    exact .inr ⟨_, .point g y (acq ha.2), rfl⟩
  · obtain ⟨h1, h2⟩ := hp 1 2 hs
    obtain ⟨which, rfl⟩ := l1 h1
    obtain ⟨y, f, rfl⟩ := l2 h2
    exact .inr (ask7 which y f ha)
  · obtain ⟨h1, h2⟩ := hp 0 0 hs
    obtain rfl := List.length_eq_zero_iff.mp h1
    obtain rfl := List.length_eq_zero_iff.mp h2
    exact .inr ⟨_, .states, rfl⟩
  · obtain ⟨h1, h2⟩ := hp 1 0 hs
    obtain ⟨most, rfl⟩ := l1 h1
    obtain rfl := List.length_eq_zero_iff.mp h2
    exact .inr ⟨_, .events most, rfl⟩
  · obtain ⟨h1, h2⟩ := hp 0 0 hs
    obtain rfl := List.length_eq_zero_iff.mp h1
    obtain rfl := List.length_eq_zero_iff.mp h2
    exact .inr ⟨_, .lost, rfl⟩
  · obtain ⟨h1, h2⟩ := hp 2 0 hs
    obtain ⟨g, n, rfl⟩ := l2 h1
    obtain rfl := List.length_eq_zero_iff.mp h2
    exact .inr ⟨_, .trace g n, rfl⟩
  · obtain ⟨h1, h2⟩ := hp 2 0 hs
    obtain ⟨g, n, rfl⟩ := l2 h1
    obtain rfl := List.length_eq_zero_iff.mp h2
    exact .inr ⟨_, .sums g n, rfl⟩
  · obtain ⟨h1, h2⟩ := hp 1 0 hs
    obtain ⟨which, rfl⟩ := l1 h1
    obtain rfl := List.length_eq_zero_iff.mp h2
    exact .inr ⟨_, .clear which (acq ha), rfl⟩
end GB
end

section
set_option Elab.async false
set_option maxRecDepth 100000
set_option maxHeartbeats 4000000
set_option linter.all false
namespace GB
open PySem L2
theorem aiu (k : Nat) (z : Int) : (Ql90.bytes k z).length = Ql90.width k := by
  unfold Ql90.bytes Ql90.low
  dsimp only
  split
  · rw [List.length_reverse, List.length_map, List.length_range]
  · rw [List.length_map, List.length_range]
theorem ac3 (b : Ql90.Board) (y : Nat → Nat) (n : Nat) : ∀ (l : List Nat) (f : Ql90.Bytes), (∀ g ∈ l, (canB b g && ou b n g) = true) → f.length = n → (b.points y l f).1.length = n
  | [], f, _, hf => hf
  | g :: l, f, h, hf => by
    have hg := h g (List.mem_cons_self ..)
    rw [Bool.and_eq_true] at hg
    have hl : ∀ g ∈ l, (canB b g && ou b n g) = true := fun k hk => h k (List.mem_cons_of_mem _ hk)
    show (match b.pointed g (y g) with
      | none => b.points y l f
      | some x => ((b.points y l (Ql90.put f x.1.place (Ql90.bytes x.1.kind x.2.1))).1, (b.points y l (Ql90.put f x.1.place (Ql90.bytes x.1.kind x.2.1))).2 + if x.2.2 = true then 1 else 0)).1.length = n
    cases e : b.pointed g (y g) with
    | none => exact ac3 b y n l f hl hf
    | some x =>
      dsimp only
      refine ac3 b y n l _ hl ?_
      have hx : ∃ s, b.at_ g = some s ∧ x.1 = s.g := by
        unfold Ql90.Board.pointed at e
        cases e2 : b.at_ g with
        | none => rw [e2] at e; cases e
        | some s =>
          rw [e2, Option.bind_some] at e
          split at e
          · cases e
          · cases e
            exact ⟨s, rfl, rfl⟩
      obtain ⟨s, hs, e3⟩ := hx
      have hfit := hg.2
      unfold ou at hfit
      rw [hs, Option.any_some] at hfit
      have hfit := of_decide_eq_true hfit
      rw [ant _ _ _ (by rw [aiu, e3]; omega)]
      exact hf
theorem jd (z : Int) : (Ql90.only z).out.length ≤ 1100 := by show 0 ≤ 1100; decide
theorem wn {c : Prop} [Decidable c] {a a' : Ql90.Ans} (h : a.out.length ≤ 1100) (h' : ¬ c → a'.out.length ≤ 1100) : (if c then a else a').out.length ≤ 1100 := by
  by_cases hc : c
  · rw [if_pos hc]; exact h
  · rw [if_neg hc]; exact h' hc
theorem asw {b : Ql90.Board} (hev : b.events.length ≤ 256) {num : Nat} {nums : List Int} {rows : List (List Int)} {c : Ql90.Call} (hc : g7 num nums rows c) : (b.act c).1.out.length ≤ 1100 := by
  cases hc with
  | set g kind place how hl hb =>
    rw [ann]
    split <;> exact jd _
  | frame which time fr hw ht hb hl =>
    rw [aip b _ hl]
    split <;> exact jd _
  | tell which form hw =>
    rw [akq]
    refine wn (jd _) fun _ => ?_
    have := xj which.toNat
    unfold Ql90.ints
    rw [List.length_map, List.length_map]
    omega
  | raw which form hw =>
    rw [anm]
    refine wn (jd _) fun _ => ?_
    have := xj which.toNat
    rw [List.length_map]
    omega
  | dial which hw =>
    rw [alm]
    have := xj which.toNat
    rw [List.length_map]
    omega
  | point g y hy =>
    rw [ais]
    refine wn (jd _) fun _ => ?_
    unfold ajj
    cases b.pointed g.toNat y.toNat with
    | none => exact jd _
    | some x =>
      dsimp only
      have := adm x.1.kind
      rw [List.length_map, List.length_append, aiu, List.length_replicate, lp]
      omega
  | points which ys fr hw hyl hy hb hl =>
    rw [agz b _ ys fr.length hl]
    refine wn (jd _) fun _ => wn (jd _) fun h => ?_
    dsimp only
    have h : ((Ql90.those which.toNat).all fun g => canB b g && ou b fr.length g) = true := by
      cases e : (Ql90.those which.toNat).all fun g => canB b g && ou b fr.length g with
      | true => rfl
      | false => exact absurd e h
    rw [List.length_map, ac3 b _ fr.length _ _ (fun g hg => List.all_eq_true.mp h g hg) (List.length_map _)]
    omega
  | states => show 6 ≤ 1100; decide
  | events most =>
    rw [ahv]
    split
    · exact jd _
    · dsimp only
      unfold Ql90.ints
      rw [List.length_map, alj _ _ (fun e => rfl), List.length_take]
      omega
  | lost => exact jd _
  | trace g n =>
    rw [ai8]
    refine wn (jd _) fun h => wn (jd _) fun _ => ?_
    have h2 : ¬ Ql90.between n 0 256 = false := fun h' => h (.inr h')
    rw [n4] at h2
    unfold Ql90.ints
    rw [List.length_map, z8, List.length_drop]
    omega
  | sums g n =>
    rw [alk]
    refine wn (jd _) fun h => wn (jd _) fun _ => ?_
    unfold Ql90.ints
    rw [List.length_map]
    show 4 ≤ 1100
    decide
  | clear which hw =>
    rw [ait]
    split <;> exact jd _
theorem aqd (s : Ql90.Abs) : Ql90Neutral.step s (PyQl90.whole [[((0 : Nat) : Int)]]) = (some Ql90.fresh, [0]) := by
  cases s <;> rfl
theorem ao3 (b : Ql90.Board) {c : List (List Int)} {k : Ql90.Call} (h : Ql90Neutral.callOf c = some k) (hk : k ≠ .new_) : Ql90Neutral.step (some b) c = (some (b.act k).2, (b.act k).1.v :: (b.act k).1.out) := by
  unfold Ql90Neutral.step
  rw [h, Option.bind_some]
  cases k with
  | new_ => exact absurd rfl hk
  | _ => rfl
theorem g7.ne {num : Nat} {nums : List Int} {rows : List (List Int)} {c : Ql90.Call} (h : g7 num nums rows c) : c ≠ .new_ := by
  cases h <;> simp
theorem g7.pos {num : Nat} {nums : List Int} {rows : List (List Int)} {c : Ql90.Call} (h : g7 num nums rows c) : num ≠ 0 := by
  cases h <;> decide
def zw (b : Ql90.Board) (cs : List (List (List Int))) : List Int := PyFlat.told (PyFlat.played Ql90Neutral.step (some b) (cs.map PyQl90.whole))
theorem aoo (b : Ql90.Board) : zw b [] = [] := rfl
theorem afw {S : Type} (step : S → List (List Int) → S × List Int) (s : S) (c : List (List Int)) (r : List (List (List Int))) : PyFlat.played step s (c :: r) = (step s c).2 :: PyFlat.played step (step s c).1 r := rfl
theorem aiw (a : List Int) (l : List (List Int)) : PyFlat.told (a :: l) = ((a.length : Nat) : Int) :: a ++ PyFlat.told l := by
  unfold PyFlat.told
  rw [List.flatMap_cons]
theorem ao7 (b : Ql90.Board) (cs : List (List (List Int))) : zw b ([[((0 : Nat) : Int)]] :: cs) = 1 :: 0 :: zw Ql90.fresh cs := by
  unfold zw
  rw [List.map_cons, afw, aqd, aiw]
  rfl
theorem ams (b : Ql90.Board) (c : List (List Int)) (cs : List (List (List Int))) {k : Ql90.Call} (h : Ql90Neutral.callOf (PyQl90.whole c) = some k) (hk : k ≠ .new_) : zw b (c :: cs) = (((b.act k).1.out.length + 1 : Nat) : Int) :: ((b.act k).1.v :: (b.act k).1.out) ++ zw (b.act k).2 cs := by
  unfold zw
  rw [List.map_cons, afw, ao3 b h hk, aiw, List.length_cons]
theorem amg {f : Nat} {l : List Int} (hl : l ≠ []) {cs : List (List (List Int))} (h : PyFlat.calls PyQl90.shape f l = some cs) : ∃ (num : Nat) (nums : List Int) (xs : List (List Int)) (t : List Int) (cs' : List (List (List Int))) (f' : Nat),
    l = (num : Int) :: (nums ++ (encR xs ++ t)) ∧ Shp num nums.length xs.length ∧ num ≤ 13 ∧ nums.length ≤ 3 ∧ xs.length ≤ 2 ∧ cs = (((num : Int) :: nums) :: xs) :: cs' ∧ PyFlat.calls PyQl90.shape f' t = some cs' := by
  cases l with
  | nil => exact absurd rfl hl
  | cons p r =>
    cases f with
    | zero => cases h
    | succ f =>
      unfold PyFlat.calls at h
      cases e : PyFlat.call PyQl90.shape (p :: r) with
      | none => rw [e] at h; cases h
      | some q =>
        obtain ⟨c, t⟩ := q
        rw [e] at h
        dsimp only at h
        cases e2 : PyFlat.calls PyQl90.shape f t with
        | none => rw [e2] at h; cases h
        | some cs' =>
          rw [e2] at h
          cases h
          obtain ⟨n, k, nums, xs, h1, h2, h3, h4, h5⟩ := aqr e
          obtain ⟨num, e3, e4, e5, e6, e7⟩ := aop h1
          subst h2 h3 h4 h5 e3
          exact ⟨num, nums, xs, t, cs', f, rfl, e4, e5, e6, e7, rfl, e2⟩
theorem ao6 {f : Nat} {cs : List (List (List Int))} (h : PyFlat.calls PyQl90.shape f [] = some cs) : cs = [] := by
  cases f <;> (cases h; rfl)
theorem ajg {l : List Int} (h : PyQl90.answers_asked l = true) : ∃ cs, PyFlat.calls PyQl90.shape l.length l = some cs ∧ cs.length ≤ 300 ∧ (∀ c ∈ cs, Ql90Neutral.asked1 (PyQl90.whole c) = true) ∧ PyQl90.answers l = zw Ql90.fresh cs := by
  unfold PyQl90.answers_asked PyQl90.calls at h
  unfold PyQl90.answers PyQl90.calls
  cases e : PyFlat.calls PyQl90.shape l.length l with
  | none => rw [e] at h; cases h
  | some cs =>
    rw [e] at h
    dsimp only at h ⊢
    rw [Bool.and_eq_true] at h
    unfold PyFlat.atMost Ql90Neutral.asked at h
    have h1 := of_decide_eq_true h.1
    rw [List.length_map] at h1
    have h2 := h.2
    rw [Bool.and_eq_true] at h2
    have h3 := List.all_eq_true.mp h2.1
    refine ⟨cs, rfl, h1, fun c hc => h3 _ (List.mem_map_of_mem hc), ?_⟩
    unfold zw
    cases hw : cs.map PyQl90.whole with
    | nil => rw [hw] at h2; cases h2.2
    | cons c0 r =>
      rw [hw] at h2
      have hb : Ql90Neutral.begins c0 = true := h2.2
      unfold Ql90Neutral.begins at hb
      split at hb
      · rfl
      · cases hb
end GB
end

section
set_option Elab.async false
set_option maxRecDepth 100000
set_option maxHeartbeats 4000000
set_option linter.all false
namespace GB
open PySem L2
section
variable {t : Ad} {H H' : Hp} {ρ : Addr → Option Role} {B : Addr} {b : Ql90.Board} {L : Lay}
theorem BRep.trim (R : BRep t H ρ B b L) : BRep t H (fun c => if (H c).isSome = true then ρ c else Option.none) B b L := by
  have hρ : ∀ a o r, H a = some o → ρ a = some r → (fun c => if (H c).isSome = true then ρ c else Option.none) a = some r := by
    intro a o r ha hr
    show (if (H a).isSome = true then ρ a else Option.none) = some r
    rw [if_pos (by rw [ha]; rfl)]
    exact hr
  refine ⟨R.hB, R.hd, R.he, R.ev, R.evl, R.nd, R.len, R.mem, R.gau, fun g hg => ?_, hρ _ _ _ R.hB R.rB, hρ _ _ _ R.hd R.rd, hρ _ _ _ R.he R.re⟩
  obtain ⟨x, hx, G⟩ := R.slot hg
  obtain ⟨r1, r2, r3⟩ := R.rg g hg
  exact ⟨hρ _ _ _ G.hp r1, hρ _ _ _ G.hl r2, hρ _ _ _ G.ht r3⟩
def af0 (p d e : Addr) : Addr → Option Role := fun a => if a = p then some .board else if a = d then some .dict else if a = e then some .evs else none
def lay0 (d e bx : Addr) : Lay := ⟨d, e, bx, [], fun _ => d, fun _ => d, fun _ => d, fun _ => d, fun _ => MR0, fun _ => [], []⟩
theorem akl (g : Nat) : Ql90.fresh.at_ g = none := by
  unfold Ql90.Board.at_ Ql90.fresh
  dsimp only
  rw [List.getElem?_replicate]
  split <;> rfl
theorem amy {p dx d e : Addr} (hde : d ≠ e) (h1 : H p = some (.ins t.ah dx (bfs d e 0))) (h2 : H d = some (.dK [])) (h3 : H e = some (.lst [])) : BRep t H (af0 p d e) p Ql90.fresh (lay0 d e dx) := by
  have n1 : d ≠ p := ne_of h2 h1 (by intro z; cases z)
  have n2 : e ≠ p := ne_of h3 h1 (by intro z; cases z)
  refine ⟨h1, h2, h3, ⟨rfl, fun i a e h => by simp [lay0] at h⟩, by show 0 ≤ 256; decide, List.nodup_nil, by show (List.replicate 64 none).length = 64; exact List.length_replicate, fun g => ?_, fun g x hx => ?_, fun g hg => ?_, if_pos rfl, ?_, ?_⟩
  · rw [akl]
    exact ⟨fun h => by simp [lay0] at h, fun h => by cases h⟩
  · rw [akl] at hx
    cases hx
  · simp [lay0] at hg
  · show af0 p d e d = _
    unfold af0
    rw [if_neg n1, if_pos rfl]
  · show af0 p d e e = _
    unfold af0
    rw [if_neg n2, if_neg (Ne.symm hde), if_pos rfl]
end
section
variable {P : Program} {w : World} {K : PySem.W.Frag} {mg : Str → Option Value} {base : Heap} {t : Ad}
def aoy (K : PySem.W.Frag) : Sp := fun vs H Q _ => ∃ (a : Addr) (ns : List Int), vs = [.ref a] ∧ SqL K H a (ns.map V.int) ∧ PyQl90.answers_asked ns = true ∧ ∀ l H', Same H H' → H' l = some (.lst ((PyQl90.answers ns).map V.int)) → Q (.ref l) H'
structure aqs (K : PySem.W.Frag) (t : Ad) (H H' : Hp) (a rp rx gv B : Addr) (ns : List Int) (k : Nat) (G : List Int) (ρ : Addr → Option Role) (b : Ql90.Board) (L : Lay) : Prop where
  same : Same H H'
  hr : H' rp = some (.ins t.ad rx (rfs a k))
  hg : H' gv = some (.lst (G.map V.int))
  R : BRep t H' ρ B b L
  tr : ∀ c, (ρ c).isSome = true → (H' c).isSome = true
  nH : ∀ c, (ρ c).isSome = true → H c = none
  nr : ρ rp = none
  ng : ρ gv = none
theorem aje {H1 : Hp} {x dx : Addr} {R : Hp → Prop} (hx : H1 x = none) (hdx : H1 dx = none) (hne : dx ≠ x) (h : ∀ H2 ρ L, Same H1 H2 → BRep t H2 ρ x Ql90.fresh L → (∀ c, (ρ c).isSome = true → (H2 c).isSome = true) → (∀ c, (ρ c).isSome = true → H1 c = none) → R H2) :
    anw t [V.ref x] (upd (upd H1 dx (.own x)) x (.ins t.ah dx [])) (fun v H2 => v = .non ∧ R H2) E0 := by
  have S0 : Same H1 (upd (upd H1 dx (.own x)) x (.ins t.ah dx [])) := (Same.new hdx).trans (Same.new (by rw [upd_ne (Ne.symm hne)]; exact hx))
  refine ⟨x, dx, rfl, upd_same, fun d e H2 hd he hde f1 f2 f3 f4 => ⟨rfl, h H2 (af0 x d e) (lay0 d e dx) (fun c o ec => f4 c o (ne_of_none ec hx) (S0 _ _ ec)) (amy hde f1 f2 f3) (fun c hc => ?_) fun c hc => ?_⟩⟩
  · unfold af0 at hc
    by_cases h1 : c = x
    · rw [h1, f1]; rfl
    · rw [if_neg h1] at hc
      by_cases h2 : c = d
      · rw [h2, f2]; rfl
      · rw [if_neg h2] at hc
        by_cases h3 : c = e
        · rw [h3, f3]; rfl
        · rw [if_neg h3] at hc
          cases hc
  · unfold af0 at hc
    by_cases h1 : c = x
    · rw [h1]; exact hx
    · rw [if_neg h1] at hc
      by_cases h2 : c = d
      · rw [h2]; exact S0.free hd
      · rw [if_neg h2] at hc
        by_cases h3 : c = e
        · rw [h3]; exact S0.free he
        · rw [if_neg h3] at hc
          cases hc
theorem mv : FnScope ["calls", "reader", "board", "given", "number", "parts", "numbers"] ["calls"] (defScope ab9) := ⟨rfl, rfl, rfl, by decide +kernel, rfl, by decide +kernel, by decide +kernel⟩
theorem am0 (T : Txt K mg t) : FnOk P w K mg base CX0 9 t.xg t.vc ["calls"] (aoy K) := by
  refine T.xf.ok mv (fun vs H Q E h => ?_) (fun cdv A outer s H vs Q E hr h => ?_)
  · obtain ⟨a, ns, rfl, _⟩ := h
    rfl
  · obtain ⟨a, ns, rfl, hS, hask, q⟩ := h
    refine ⟨_, (pss_cons (ps_set (i := 1) mv.nd rfl (Or.inl rfl) (pe_make T.vm (ac9 T) (hr.mono (by decide)) rfl T.wo T.yw .nil pass0 (pa_cons (pv 0) pa_nil)))
      (pss_cons (ps_set (i := 2) mv.nd rfl (Or.inl rfl) (pe_make0 T.ab1 (acu T) (hr.mono (by decide)) rfl T.ael T.aai .nil pass0))
      (pss_cons (ps_set (i := 3) mv.nd rfl (Or.inl rfl) (pe_lst pa_nil))
      (pss_cons (ps_while PassesOwn.never (pt_val (pe_meth0 (pv 1) T.ak T.jg (aao T) (hr.mono (by decide)) T.ud .nil pass0))
        (pss_cons (ps_set (i := 4) mv.nd rfl (Or.inl rfl) (pe_meth0 (pv 1) T.ak T.ba (ji T) (hr.mono (by decide)) T.fc .nil pass0))
      (pss_cons (ps_set (i := 5) mv.nd rfl (Or.inl rfl) (pe_meth (pv 1) T.ak T.gm (yy T) (hr.mono (by decide)) T.r9 .nil pass0 (pa_cons (pv 4) pa_nil)))
      (pss_cons (ano (ps_if (pt_cmpR op_eq (pv 4) pe_int (nomark _))
        (pss_cons (ps_set (i := 2) mv.nd rfl (Or.inl rfl) (pe_make0 T.ab1 (acu T) (hr.mono (by decide)) rfl T.ael T.aai .nil pass0))
      (pss_one (ps_set (i := 6) mv.nd rfl (Or.inl rfl) (pe_lst (pa_cons pe_int pa_nil)))))
        (pss_one (ps_set (i := 6) mv.nd rfl (Or.inl rfl) (pe_call (aoh T) (hr.mono (by decide)) rfl T.aem T.zj.kp T.akx .nil pass0 (pa_cons (pv 2) (pa_cons (pv 4) (pa_cons (pv 5) pa_nil))))))))
      (pss_cons (ps_expr (pe_bm PySem.F.plainAttrs_list PySem.F.slot_list_append PySem.F.type_list_append mt_append (pv 3) (pa_cons (pe_callB call_len_seq (by rfl) T.zr PySem.boot_len (pa_cons (pv 6) pa_nil)) pa_nil)))
      (pss_one (ps_expr (pe_bm PySem.F.plainAttrs_list PySem.F.slot_list_extend PySem.F.type_list_extend mt_extend (pv 3) (pa_cons (pv 6) pa_nil)))))))))
      (pss_one (ps_ret (pv 3))))))), ?_⟩
    obtain ⟨cs0, hcs0, hcl, hc1, hans⟩ := ajg hask
    rw [hans] at q
    simp only [RD, List.replicate, List.set, Nat.reduceAdd, Nat.reduceSub, tMake]
    intro rp rx hrp hrx hrr
    have S0 : Same H (upd (upd H rx (.own rp)) rp (.ins t.ad rx [])) := (Same.new hrx).trans (Same.new (by rw [upd_ne (Ne.symm hrr)]; exact hrp))
    refine ⟨rp, rx, a, rfl, upd_same, rfl, ?_⟩
    rw [upd_upd]
    have S1 : Same H (upd (upd H rx (.own rp)) rp (.ins t.ad rx (rfs a 0))) := (Same.new hrx).trans (Same.new (by rw [upd_ne (Ne.symm hrr)]; exact hrp))
    have e1 : upd (upd H rx (.own rp)) rp (.ins t.ad rx (rfs a 0)) rp = some (.ins t.ad rx (rfs a 0)) := upd_same
    generalize upd (upd H rx (.own rp)) rp (.ins t.ad rx (rfs a 0)) = H1 at *
    intro B bx hB hbx hbb
    refine aje hB hbx hbb fun H2 ρ L hS2 R2 htr2 hn2 => ⟨by decide, fun gv hgv => ?_⟩
    have ngv : H gv = none := (S1.trans hS2).free hgv
    have S3 := Same.new (o := .lst []) hgv
    have hnr : ρ rp = none := by
      cases e : ρ rp with
      | none => rfl
      | some r => rw [hn2 rp (by rw [e]; rfl)] at e1; cases e1
    have hng : ρ gv = none := by
      cases e : ρ gv with
      | none => rfl
      | some r => have := htr2 gv (by rw [e]; rfl); rw [hgv] at this; cases this
    have T0 : aqs K t H (upd H2 gv (.lst [])) a rp rx gv B ns 0 [] ρ Ql90.fresh L := ⟨(S1.trans hS2).trans S3, S3 _ _ (hS2 _ _ e1), upd_same, R2.same S3, fun c hc => by
        obtain ⟨o, ho⟩ := Option.isSome_iff_exists.mp (htr2 c hc)
        rw [S3 _ _ ho]
        rfl, fun c hc => S1.free (hn2 c hc), hnr, hng⟩
    refine ⟨fun m σ H' => ∃ (v4 v5 v6 : Option V) (B : Addr) (k f : Nat) (G : List Int) (ρ : Addr → Option Role) (b : Ql90.Board) (L : Lay) (cs : List (List (List Int))), σ = [some (.ref a), some (.ref rp), some (.ref B), some (.ref gv), v4, v5, v6] ∧ m = cs.length ∧ aqs K t H H' a rp rx gv B ns k G ρ b L ∧
        PyFlat.calls PyQl90.shape f (ns.drop k) = some cs ∧ k ≤ ns.length ∧ (∀ c ∈ cs, Ql90Neutral.asked1 (PyQl90.whole c) = true) ∧ G ++ zw b cs = zw Ql90.fresh cs0 ∧ cs.length ≤ 300 ∧ G.length ≤ 1200 * (300 - cs.length),
      ⟨cs0.length, none, none, none, B, 0, ns.length, [], ρ, Ql90.fresh, L, cs0, rfl, rfl, T0, by rw [List.drop_zero]; exact hcs0, Nat.zero_le _, hc1, rfl, hcl, Nat.zero_le _⟩, ?_⟩
    clear T0 hnr hng R2 htr2 hn2 hS2 hgv S3
    rintro m σ H' ⟨v4, v5, v6, B, k, f, G, ρ, b, L, cs, rfl, rfl, T1, hcs, hk, hca, htot, hc300, hG⟩
    have hSa : SqL K H' a (ns.map V.int) := T1.same.seq hS
    simp only [RD, List.replicate, List.set, Nat.reduceAdd, Nat.reduceSub, ax T1.hr aus]
    refine ⟨rp, rx, a, ns, k, rfl, ⟨T1.hr, hSa⟩, _, rfl, ?_⟩
    by_cases hlt : k < ns.length
    · rw [if_pos (decide_eq_true hlt)]
      have hne : ns.drop k ≠ [] := by
        intro e
        have := congrArg List.length e
        rw [List.length_drop, List.length_nil] at this
        omega
      obtain ⟨num, nums, xs, tl, cs', f', hd, hsh, h13, hn3, hx2, rfl, hcs'⟩ := amg hne hcs
      refine ⟨_, fun σ' H'' hN => hN, ?_⟩
      rw [ax T1.hr app]
      have hz := ahh hd 0
      rw [Nat.add_zero] at hz
      have hd1 : ns.drop (k + 1) = nums ++ (encR xs ++ tl) := by rw [← List.drop_drop, hd]; rfl
      refine ⟨rp, rx, a, ns, k, _, rfl, ⟨T1.hr, hSa⟩, hz, ?_⟩
      dsimp only
      rw [ax upd_same aub]
      refine ⟨rp, rx, a, ns, k + 1, num, _, _, nums, xs, tl, rfl, ⟨upd_same, SqL.ins T1.hr hSa⟩, hsh, rfl, rfl, hd1, by omega, by omega, fun pl as H3 hpl hrows hpl3 hr3 hk3 => ?_⟩
      have K3 : ∀ c o, c ≠ rp → H' c = some o → H3 c = some o := fun c o hc e => hk3 c o hc (by rw [upd_ne hc]; exact e)
      have hup : ∀ c, upd H' rp (.ins t.ad rx (rfs a (k + 1))) c = none → H' c = none := by
        intro c hc
        have : c ≠ rp := fun e => by rw [e, upd_same] at hc; cases hc
        rw [upd_ne this] at hc
        exact hc
      have R3 : BRep t H3 ρ B b L := T1.R.mono fun c o e h => K3 c o (by
        rcases h with h | ⟨ys, rfl⟩
        · intro e'
          rw [e', T1.nr] at h
          cases h
        · exact ne_of e T1.hr (by intro z; cases z)) e
      have SH3 : Same H H3 := fun c o e => K3 c o (ne_of_none e hrp) (T1.same _ _ e)
      have hgr : gv ≠ rp := ne_of T1.hg T1.hr (by intro z; cases z)
      have hg3 := K3 gv _ hgr T1.hg
      have hk' : k + 1 + nums.length + (encR xs).length ≤ ns.length ∧ ns.drop (k + 1 + nums.length + (encR xs).length) = tl := by
        have e1 : ns.drop (k + 1 + nums.length + (encR xs).length) = tl := by rw [← List.drop_drop, ← List.drop_drop, hd1, List.drop_left, List.drop_left]
        refine ⟨?_, e1⟩
        have := congrArg List.length hd1
        rw [List.length_drop, List.length_append, List.length_append] at this
        omega
      have tr3 : ∀ c, (ρ c).isSome = true → (H3 c).isSome = true := by
        intro c hc
        obtain ⟨o, ho⟩ := Option.isSome_iff_exists.mp (T1.tr c hc)
        rw [K3 c o (fun e => by rw [e, T1.nr] at hc; cases hc) ho]
        rfl
      refine ⟨fun σ' H5 => ∃ (B' l : Addr) (ρ' : Addr → Option Role) (b' : Ql90.Board) (L' : Lay) (ans : List Int), σ' = [some (.ref a), some (.ref rp), some (.ref B'), some (.ref gv), some (.int (num : Int)), some (.ref pl), some (.ref l)] ∧ aqs K t H H5 a rp rx gv B' ns (k + 1 + nums.length + (encR xs).length) G ρ' b' L' ∧
          H5 l = some (.lst (ans.map V.int)) ∧ l ≠ gv ∧ zw b ((((num : Int) :: nums) :: xs) :: cs') = ((ans.length : Nat) : Int) :: ans ++ zw b' cs' ∧ ans.length ≤ 1101, ?_, ?_⟩
      · rw [aj3]
        refine ⟨_, rfl, ?_⟩
        rcases aqv h13 hsh (hca _ (List.mem_cons_self ..)) with ⟨rfl, rfl, rfl⟩ | ⟨c, hc, hco⟩
        · rw [if_pos (by decide)]
          simp only [tMake, RD, List.replicate, List.set, Nat.reduceAdd, Nat.reduceSub]
          intro B' bx' hB' hbx' hbb'
          refine aje hB' hbx' hbb' fun H4 ρ4 L4 hS4 R4 htr4 hn4 => ⟨by decide, fun l hl => ?_⟩
          have S5 := Same.new (o := .lst [V.int 0]) hl
          have nr : ρ4 rp = none := by
            cases e : ρ4 rp with
            | none => rfl
            | some r => rw [hn4 rp (by rw [e]; rfl)] at hr3; cases hr3
          have ng : ρ4 gv = none := by
            cases e : ρ4 gv with
            | none => rfl
            | some r => rw [hn4 gv (by rw [e]; rfl)] at hg3; cases hg3
          refine ⟨B', l, ρ4, Ql90.fresh, L4, [0], rfl, ⟨(SH3.trans hS4).trans S5, S5 _ _ (hS4 _ _ hr3), S5 _ _ (hS4 _ _ hg3), R4.same S5, fun c hc => ?_, fun c hc => SH3.free (hn4 c hc), nr, ng⟩, by rw [upd_same]; rfl, (fun e => by rw [e, hS4 _ _ hg3] at hl; cases hl), ao7 b cs', by decide⟩
          obtain ⟨o, ho⟩ := Option.isSome_iff_exists.mp (htr4 c hc)
          rw [S5 _ _ ho]
          rfl
        · have hnz := hc.pos
          rw [if_neg (by rw [decide_eq_true_eq]; omega)]
          refine ⟨B, pl, num, nums, xs, as, c, ρ, b, L, rfl, R3, hc, hpl3, hrows.1, fun i a' r h1 h2 => ?_, fun l H4 ρ' L' R4 hkeep hrole hnl hl4 => ?_⟩
          · obtain ⟨h3, h4⟩ := hrows.2 i a' r h1 h2
            refine ⟨h4, ?_⟩
            cases e : ρ a' with
            | none => rfl
            | some r => have := T1.tr a' (by rw [e]; rfl); rw [hup _ h3] at this; cases this
          · have nr : ρ' rp = none := by
              cases e : ρ' rp with
              | none => rfl
              | some r =>
                rcases hrole rp (by rw [e]; rfl) with h | h
                · rw [T1.nr] at h; cases h
                · rw [hr3] at h; cases h
            have ng : ρ' gv = none := by
              cases e : ρ' gv with
              | none => rfl
              | some r =>
                rcases hrole gv (by rw [e]; rfl) with h | h
                · rw [T1.ng] at h; cases h
                · rw [hg3] at h; cases h
            have nH : ∀ c, (ρ' c).isSome = true → H c = none := fun c hc => (hrole c hc).elim (T1.nH c) fun h => SH3.free h
            have S4 : Same H H4 := fun c o e => hkeep c o (SH3 _ _ e) (by
              cases e' : ρ c with
              | none => rfl
              | some r => rw [T1.nH c (by rw [e']; rfl)] at e; cases e)
            refine ⟨B, l, _, _, L', (b.act c).1.v :: (b.act c).1.out, rfl, ⟨S4, hkeep _ _ hr3 T1.nr, hkeep _ _ hg3 T1.ng, R4.trim, fun c hc => ?_, fun c hc => ?_, ?_, ?_⟩, hl4, (fun e => by rw [e, hg3] at hnl; cases hnl), ams b _ cs' hco hc.ne, ?_⟩
            · have hc : (if (H4 c).isSome = true then ρ' c else none).isSome = true := hc
              by_cases h : (H4 c).isSome = true
              · exact h
              · rw [if_neg h] at hc; cases hc
            · have hc : (if (H4 c).isSome = true then ρ' c else none).isSome = true := hc
              by_cases h : (H4 c).isSome = true
              · rw [if_pos h] at hc; exact nH c hc
              · rw [if_neg h] at hc; cases hc
            · show (if (H4 rp).isSome = true then ρ' rp else none) = none
              split
              · exact nr
              · rfl
            · show (if (H4 gv).isSome = true then ρ' gv else none) = none
              split
              · exact ng
              · rfl
            · have := asw T1.R.evl hc
              rw [List.length_cons]
              omega
      · rintro σ' H5 ⟨B', l, ρ', b', L', ans, rfl, T5, hl5, hlg, hrt, hal⟩
        have hG5 : G.length ≤ 1200 * 300 := Nat.le_trans hG (Nat.mul_le_mul_left _ (Nat.sub_le _ _))
        simp only [RD, List.replicate, List.set, Nat.reduceAdd, Nat.reduceSub]
        refine ⟨.inl ⟨rfl, _, SqL.of T5.hg⟩, l, _, rfl, .inl (SqL.of hl5), ?_⟩
        refine ⟨gv, _, _, rfl, rfl, T5.hg, by rw [List.length_map, sizeLine_eq]; omega, ?_⟩
        refine ⟨.inl ⟨rfl, _, SqL.of upd_same⟩, gv, l, _, _, rfl, rfl, upd_same, by rw [upd_ne hlg]; exact hl5, ?_, ?_⟩
        · rw [List.length_append, List.length_map, List.length_map, List.length_singleton, sizeLine_eq]
          omega
        · rw [upd_upd]
          have hgr5 : gv ≠ rp := hgr
          have hex : G.map V.int ++ [V.int (((ans.map V.int).length : Nat) : Int)] ++ ans.map V.int = (G ++ (((ans.length : Nat) : Int) :: ans)).map V.int := by
            rw [List.map_append, List.map_cons, List.append_assoc, List.length_map]
            rfl
          rw [hex]
          have hkG : ∀ c o, c ≠ gv → H5 c = some o → upd H5 gv (.lst ((G ++ (((ans.length : Nat) : Int) :: ans)).map V.int)) c = some o := fun c o hc e => by rw [upd_ne hc]; exact e
          refine ⟨cs'.length, Nat.lt_succ_self _, _, _, _, B', k + 1 + nums.length + (encR xs).length, f', G ++ (((ans.length : Nat) : Int) :: ans), ρ', b', L', cs', rfl, rfl, ⟨?_, ?_, upd_same, ?_, ?_, T5.nH, T5.nr, T5.ng⟩, by rw [hk'.2]; exact hcs', hk'.1, fun c hc => hca c (List.mem_cons_of_mem _ hc), ?_, ?_, ?_⟩
          · exact fun c o e => hkG c o (ne_of_none e ngv) (T5.same _ _ e)
          · exact hkG _ _ (Ne.symm hgr5) T5.hr
          · refine T5.R.mono fun c o e h => hkG c o ?_ e
            rcases h with h | ⟨ys, rfl⟩
            · intro e'
              rw [e', T5.ng] at h
              cases h
            · exact ne_of e T5.hg (by intro z; cases z)
          · intro c hc
            obtain ⟨o, ho⟩ := Option.isSome_iff_exists.mp (T5.tr c hc)
            rw [hkG c o (fun e => by rw [e, T5.ng] at hc; cases hc) ho]
            rfl
          · rw [← htot, hrt, List.append_assoc]
          · rw [List.length_cons] at hc300
            omega
          · rw [List.length_append, List.length_cons]
            rw [List.length_cons] at hG hc300
            omega
    · rw [if_neg (by rw [decide_eq_false hlt]; exact Bool.false_ne_true)]
      have hnil : ns.drop k = [] := List.drop_eq_nil_of_le (by omega)
      rw [hnil] at hcs
      obtain rfl := ao6 hcs
      rw [aoo, List.append_nil] at htot
      refine q gv H' T1.same ?_
      rw [T1.hg, htot]
end
end GB
end

section
set_option Elab.async false
set_option maxRecDepth 100000
set_option maxHeartbeats 4000000
set_option linter.all false
namespace GB
open PySem PySem.Spec PyProof.Rows L2
theorem aoe {P : Program} {w : World} {K : PySem.W.Frag} {mg mb : Str → Option Value} {k : Nat} {fa a : Addr} {fd : FuncData} {x : Str} {sp : Sp} {s₁ : Shared} {vs : List Value} {ns zs : List Int}
    (KX : K.In s₁.heap) (hns : s₁.heap.Ns mainGlobals mg) (hb : s₁.heap.Ns builtinsNs mb) (hbb : ∀ x : Str, x ≠ "__name__" → mb x = bootBuiltins x) (hlim : s₁.heap.NoLimit) (hg : s₁.gens = #[])
    (ha : s₁.heap.get? a = some { cls := .type "list", data := .seq vs.toArray }) (hi : IntsAre vs ns) (hl : ns.length ≤ sizeLine) (hr : Room k callerA)
    (F : ∀ base : Heap, K.In base → base.Ns mainGlobals mg → FnOk P w K mg base CX0 k fa fd [x] sp) (hbind : ∀ (s : Shared) (u : Value), BindsTo s fd ⟨[u], []⟩ [(x, u)])
    (hsp : ∀ H : Hp, Only H → SqL K H a (ns.map V.int) → sp [.ref a] H (fun v H' => ∃ l, v = .ref l ∧ H' l = some (.lst (zs.map V.int))) E0) :
    codeAny (model P w) callerA (.call (.ref fa) ⟨[.ref a], []⟩) (fun r s' => (∃ (l : Addr) (its : List Value) (n : Nat), r = .ok (.ret (.ref l)) ∧ Vals (zs.map V.int) its ∧ s'.heap.get? l = some { cls := .type "list", data := .seq its.toArray n }) ∧ OldK s₁.heap s'.heap ∧ s'.os = s₁.os ∧ AllBare s'.gens) s₁ := by
  have rv := vals_ints hi
  have lenV := hi.length
  have core : ∀ H : Hp, Only H → SqL K H a (ns.map V.int) → HOk P w H s₁.heap → (∀ b, H b ≠ none → b = a) → (H a ≠ none → K.lookup a = none) →
      codeAny (model P w) callerA (.call (.ref fa) ⟨[.ref a], []⟩) (fun r s' => (∃ (l : Addr) (its : List Value) (n : Nat), r = .ok (.ret (.ref l)) ∧ Vals (zs.map V.int) its ∧ s'.heap.get? l = some { cls := .type "list", data := .seq its.toArray n }) ∧ OldK s₁.heap s'.heap ∧ s'.os = s₁.os ∧ AllBare s'.gens) s₁ := by
    intro H hO hS hok hA hK
    have base_of : ∀ {b : Addr} {o : Obj}, s₁.heap.get? b = some o → H b = none → (hidT s₁.heap H).get? b = some o := fun e n => hidT_get e n
    have noA : ∀ {b : Addr} {o : Obj} {es : Array DictEntry} {ep : Nat}, s₁.heap.get? b = some o → o.data = .dict es ep → H b = none := fun {b o es ep} e d => by
      cases q : H b with
      | none => rfl
      | some u =>
        have e' : b = a := hA b (by rw [q]; simp)
        subst e'
        rw [ha] at e; cases e
        have d' : Data.seq vs.toArray _ = Data.dict es ep := d
        cases d'
    have nsK : ∀ {b : Addr} {m : Str → Option Value}, s₁.heap.Ns b m → (hidT s₁.heap H).Ns b m := fun {b m} ⟨o, es, ep, e, d, r⟩ => ⟨o, es, ep, base_of e (noA e d), d, r⟩
    have hKb : K.In (hidT s₁.heap H) := fun b o e => base_of (KX b o e) (by
      cases q : H b with
      | none => rfl
      | some u =>
        have e' : b = a := hA b (by rw [q]; simp)
        subst e'
        rw [hK (by rw [q]; simp)] at e; cases e)
    have hM : Mod K mg (hidT s₁.heap H) := ⟨hKb, nsK hns, ⟨mb, nsK hb, hbb⟩, let ⟨mc, h1, h2⟩ := hlim; ⟨mc, nsK h1, h2⟩⟩
    have e0 : Env0 P w K mg (hidT s₁.heap H) callerA [] s₁ H := ⟨rfl, hM, fun b o e => of_hidT e, Nat.le_of_eq (hidT_size _ _), trivial, fun b hb => absurd (show b ∈ ([] : List Addr) from hb) (by simp), hok, .of_eq hg⟩
    refine codeAny_mono ((F _ hKb (nsK hns)).run callerA [] s₁ H ⟨[.ref a], []⟩ [.ref a] [.ref a] _ _ hr e0 (hbind s₁ (.ref a)) (.cons rfl .nil) (hsp H hO hS)) fun r s' h => ?_
    cases r with
    | error e => exact False.elim h
    | ok fl =>
      cases fl with
      | next => exact False.elim h
      | brk => exact False.elim h
      | cont => exact False.elim h
      | ret u =>
        obtain ⟨v, H', os, bare, un, hok', r', l, rfl, hl'⟩ := h
        obtain rfl : u = Value.ref l := r'
        obtain ⟨_, its, n, hv, hget⟩ := hok' l _ hl'
        refine ⟨⟨l, its, n, rfl, hv, hget⟩, OldK.of_keep fun b o e => ?_, os, bare⟩
        cases q : H b with
        | none => exact un.keep b o e q (by intro z; exact absurd (show b ∈ ([] : List Addr) from z) (by simp)) (by simp)
        | some u =>
          rcases hO b with z | ⟨ob, xs, z⟩
          · rw [q] at z; cases z
          · have z2 := un.frzs b ob _ z
            obtain ⟨e1, _⟩ := hok b _ z
            obtain ⟨e2, _⟩ := hok' b _ z2
            rw [e] at e1; cases e1
            exact e2
  cases hk : K.lookup a with
  | some o =>
    have e := KX a o hk
    rw [ha] at e
    cases e
    refine core (fun _ => none) (fun _ => .inl rfl) (.inr ⟨_, vs.toArray, _, hk, rfl, rfl, rfl, by rw [List.size_toArray, lenV]; exact hl, by simpa using rv⟩) (fun b u z => by have z' : (none : Option HO) = some u := z; cases z') (fun b z => absurd rfl z) fun z => absurd rfl z
  | none =>
    refine core (fun b => if b = a then some (.frz { cls := .type "list", data := .seq vs.toArray } (.lst (ns.map V.int))) else none) (fun b => ?_) (.inl (.inr ⟨{ cls := .type "list", data := .seq vs.toArray }, if_pos rfl⟩)) (fun b u z => ?_) (fun b z => ?_) fun _ => hk
    · by_cases hb : b = a
      · exact .inr ⟨_, _, if_pos hb⟩
      · exact .inl (if_neg hb)
    · by_cases hb : b = a
      · have z' := (if_pos hb).symm.trans z
        cases z'
        subst hb
        exact ⟨ha, by rw [List.length_map]; exact hl, vs, _, rv, ha⟩
      · have z' := (if_neg hb).symm.trans z
        cases z'
    · by_cases hb : b = a
      · exact hb
      · exact absurd (if_neg hb) z
theorem ag0 {R : PySem.W.WRecords} {cl : Str → Option Addr} {h : Heap} : ∀ {zs : List Int} {its : List Value}, Vals (zs.map V.int) its → PySem.W.ReadsAllW R cl h its (zs.map PySem.W.WData.int) []
  | [], _, h => by
    cases h
    exact .nil
  | z :: zs, _, h => by
    cases h with
    | cons r rr =>
      obtain ⟨t, rfl⟩ := r
      exact .cons (.int z t) (ag0 rr)
theorem aoi {r : PySem.W.OpenSpec} {least most least' most' : Nat} {lo hi lo' hi' : Int} {ask : List Int → Bool} {f : List Int → List Int} {prog : Program} {nm : Str}
    (hr' : r = ⟨prog, nm, [.list least most (.int lo hi)], .list least' most' (.int lo' hi'), ask, f⟩)
    {k : Nat} {q : Program} {loose : List Str} {XP : (Str → Option Value) → Heap → Prop} {YP : World → Heap → Prop} {d : DefRec} {K : Params → PySem.W.Frag} {x : Str}
    (hm : most ≤ sizeLine) (hdf : d.params.defaults = []) (hr : Room k callerA)
    (hY : ∀ (w : World) (h : Heap), YP w h → (K w.params).In h)
    (F : ∀ (w : World) (mg : Str → Option Value) (fa : Addr) (h : Heap), (K w.params).In h → h.Ns mainGlobals mg → mg d.name = some (.ref fa) →
      ∃ fd : FuncData, (∀ (s : Shared) (u : Value), BindsTo s fd ⟨[u], []⟩ [(x, u)]) ∧
        ∀ base : Heap, (K w.params).In base → base.Ns mainGlobals mg → FnOk prog w (K w.params) mg base CX0 k fa fd [x] (fun vs H Q _ => ∃ (a : Addr) (ns : List Int), vs = [.ref a] ∧ SqL (K w.params) H a (ns.map V.int) ∧ ask ns = true ∧ ∀ l H', Same H H' → H' l = some (.lst ((f ns).map V.int)) → Q (.ref l) H')) :
    PySem.W.WalkOS q loose XP YP r d [] (fun f vs => PySem.call f vs) := by
  subst hr'
  intro w s₀ s₁ mg mb G Y fa o pm cd doc dV kV ho hd hcd hD hmg hg args vals as hpre hlay hrd hwl hlo
  have hsh := PySem.W.os_shapes _ hpre
  have hsh : PySem.W.WShape.hasAll [] args [.list .int] = true := hsh
  obtain ⟨dd, rr, rfl, h1, h2⟩ := PySem.W.hasAllW_cons hsh
  obtain rfl := PySem.W.hasAllW_nil h2
  obtain ⟨xs, rfl, h3⟩ := PySem.W.hasW_list h1
  obtain ⟨ns, rfl⟩ := PySem.W.items_int h3
  have eo : PySem.W.ofPy (PyData.list (ns.map PyData.int)) = .list (ns.map PySem.W.WData.int) := by
    rw [← PySem.W.ofPys_ints]
    rfl
  have hsome := PySem.W.os_pre_isSome hpre
  have hdec := PySem.W.os_dec_ints (least := least) (most := most) (lo := lo) (hi := hi) (ns := ns) (by rw [eo]; exact hsome)
  rw [eo] at hdec
  obtain ⟨osDec, osLeast, osMost, osItems⟩ := hdec
  have hask0 := PySem.W.os_pre_asked hpre osDec
  have hask : ask ns = true := hask0
  have hv : ∃ a vs, vals = [Value.ref a] ∧ s₁.heap.get? a = some { cls := .type "list", data := .seq vs.toArray } ∧ IntsAre vs ns := by
    cases hwl with
    | cons w1 w2 =>
      cases w2
      cases w1 with
      | list ho hall => exact ⟨_, _, rfl, ho, Att.ints_of_wellAll ns _ hall⟩
  obtain ⟨a, vs, rfl, hobj, hints⟩ := hv
  have KX := hY w _ Y
  obtain ⟨fd, hb, hF⟩ := F w mg fa _ KX G.T.g hmg
  refine PySem.W.enter_call (codeAny_mono (aoe (zs := f ns) KX G.T.g G.T.b G.T.builtins G.T.nolimit hg hobj hints (Nat.le_trans osMost hm) hr hF hb fun H hO hS => ⟨a, ns, rfl, hS, hask, fun l H' _ hl => ⟨l, rfl, hl⟩⟩) fun rs s' hq => ?_)
  obtain ⟨⟨l, its, n, rfl, hv, hget⟩, h2, h3, h4⟩ := hq
  refine ⟨.inl ⟨.ref l, .list ((f ns).map PySem.W.WData.int), _, rfl, PySem.W.osNone, .list hget rfl rfl (by simpa using ag0 hv), PySem.W.osPost (PySem.W.os_post osDec (PySem.W.same_self _)), fun h => absurd h Bool.false_ne_true⟩, h2, h3, h4⟩
end GB
end

section
set_option Elab.async false
set_option maxRecDepth 100000
set_option linter.all false
namespace GB
open PySem PySem.Spec PyProof.Rows L2
theorem ap {K : PySem.W.Frag} {h : Heap} {mg : Str → Option Value} {name : Str} {st : Stmt} {f : Addr} {oc : Value} {od an : Option Addr} {osl : Array (Option Value)} {kV doc pm cdv ct : Value} (X : K.In h) (G : h.Ns mainGlobals mg)
    (a : PySem.W.nsIn K mainGlobals name = some (some (.ref f))) (l : K.lookup f = some ⟨oc, od, .func (PySem.W.fnOf name name (defArgs st) (defBody st) (defScope st) .none kV doc pm an cdv ct), osl⟩) (c : PySem.W.codeIn K cdv name = true) (k : PySem.W.keepIn K (.ref f) = true) :
    ∃ f fd, mg name = some (.ref f) ∧ Fun K name name st f fd := ⟨f, _, PySem.W.mg_of X G a, fun_mk l c k⟩
theorem fh {K : PySem.W.Frag} {h : Heap} {mg : Str → Option Value} {name : Str} {z : Int} {tk : Tok} (X : K.In h) (G : h.Ns mainGlobals mg) (e : PySem.W.nsIn K mainGlobals name = some (some (.int z tk))) : ∃ u, mg name = some u ∧ RelV (.int z) u := ⟨_, PySem.W.mg_of X G e, tk, rfl⟩
theorem adp {K : PySem.W.Frag} {h : Heap} {mg : Str → Option Value} (X : K.In h) (G : h.Ns mainGlobals mg) {C f0 f1 f2 f3 f4 : Addr} {od0 an0 od1 an1 od2 an2 od3 an3 od4 an4 : Option Addr} {sl0 sl1 sl2 sl3 sl4 : Array (Option Value)} {oc0 kV0 dc0 pm0 cd0 ct0 oc1 kV1 dc1 pm1 cd1 ct1 oc2 kV2 dc2 pm2 cd2 ct2 oc3 kV3 dc3 pm3 cd3 ct3 oc4 kV4 dc4 pm4 cd4 ct4 : Value}
    (aC : PySem.W.nsIn K mainGlobals "CallReader" = some (some (.ref C)))
    (a0 : PySem.W.findIn K (.ref C) "__init__" = some (some (.ref f0))) (i0 : PySem.W.isFn K (.ref f0) = true) (l0 : K.lookup f0 = some ⟨oc0, od0, .func (PySem.W.fnOf "__init__" "CallReader.__init__" (defArgs gk) (defBody gk) (defScope gk) .none kV0 dc0 pm0 an0 cd0 ct0), sl0⟩) (c0 : PySem.W.codeIn K cd0 "CallReader.__init__" = true) (k0 : PySem.W.keepIn K (.ref f0) = true)
    (a1 : PySem.W.findIn K (.ref C) "has_more" = some (some (.ref f1))) (i1 : PySem.W.isFn K (.ref f1) = true) (l1 : K.lookup f1 = some ⟨oc1, od1, .func (PySem.W.fnOf "has_more" "CallReader.has_more" (defArgs bz) (defBody bz) (defScope bz) .none kV1 dc1 pm1 an1 cd1 ct1), sl1⟩) (c1 : PySem.W.codeIn K cd1 "CallReader.has_more" = true) (k1 : PySem.W.keepIn K (.ref f1) = true)
    (a2 : PySem.W.findIn K (.ref C) "take_number" = some (some (.ref f2))) (i2 : PySem.W.isFn K (.ref f2) = true) (l2 : K.lookup f2 = some ⟨oc2, od2, .func (PySem.W.fnOf "take_number" "CallReader.take_number" (defArgs bb) (defBody bb) (defScope bb) .none kV2 dc2 pm2 an2 cd2 ct2), sl2⟩) (c2 : PySem.W.codeIn K cd2 "CallReader.take_number" = true) (k2 : PySem.W.keepIn K (.ref f2) = true)
    (a3 : PySem.W.findIn K (.ref C) "take_row" = some (some (.ref f3))) (i3 : PySem.W.isFn K (.ref f3) = true) (l3 : K.lookup f3 = some ⟨oc3, od3, .func (PySem.W.fnOf "take_row" "CallReader.take_row" (defArgs bo) (defBody bo) (defScope bo) .none kV3 dc3 pm3 an3 cd3 ct3), sl3⟩) (c3 : PySem.W.codeIn K cd3 "CallReader.take_row" = true) (k3 : PySem.W.keepIn K (.ref f3) = true)
    (a4 : PySem.W.findIn K (.ref C) "take_parts" = some (some (.ref f4))) (i4 : PySem.W.isFn K (.ref f4) = true) (l4 : K.lookup f4 = some ⟨oc4, od4, .func (PySem.W.fnOf "take_parts" "CallReader.take_parts" (defArgs bg) (defBody bg) (defScope bg) .none kV4 dc4 pm4 an4 cd4 ct4), sl4⟩) (c4 : PySem.W.codeIn K cd4 "CallReader.take_parts" = true) (k4 : PySem.W.keepIn K (.ref f4) = true)
    (pg : PySem.W.plainGet K C Str.empty = true) (hd : PySem.W.hasDictIn K C = true) (po : PySem.W.plainOver K C = true) (sa : PySem.W.findIn K (.ref C) "__setattr__" = some (some (.builtin "object.__setattr__"))) (mk : PySem.W.makesIn K C = true) (kc : PySem.W.keepIn K (.ref C) = true)
    (n_calls : PySem.W.findIn K (.ref C) "calls" = some none) (n_at : PySem.W.findIn K (.ref C) "at" = some none) :
    ∃ (C : Addr) (f0 f1 f2 f3 f4 : Addr) (d0 d1 d2 d3 d4 : FuncData), mg "CallReader" = some (.ref C) ∧ Cls K C ∧ Mk K C f0 ∧ NoAttr K C "calls" ∧ NoAttr K C "at" ∧ Fun K "__init__" "CallReader.__init__" gk f0 d0 ∧ Fun K "has_more" "CallReader.has_more" bz f1 d1 ∧ Meth K C "has_more" f1 ∧ Fun K "take_number" "CallReader.take_number" bb f2 d2 ∧ Meth K C "take_number" f2 ∧ Fun K "take_row" "CallReader.take_row" bo f3 d3 ∧ Meth K C "take_row" f3 ∧ Fun K "take_parts" "CallReader.take_parts" bg f4 d4 ∧ Meth K C "take_parts" f4 :=
  ⟨C, f0, f1, f2, f3, f4, _, _, _, _, _, PySem.W.mg_of X G aC, ⟨pg, hd, po, sa⟩, ⟨mk, a0, i0, kc⟩, n_calls, n_at, fun_mk l0 c0 k0, fun_mk l1 c1 k1, ⟨a1, i1, k1⟩, fun_mk l2 c2 k2, ⟨a2, i2, k2⟩, fun_mk l3 c3 k3, ⟨a3, i3, k3⟩, fun_mk l4 c4 k4, ⟨a4, i4, k4⟩⟩
theorem akc {K : PySem.W.Frag} {h : Heap} {mg : Str → Option Value} (X : K.In h) (G : h.Ns mainGlobals mg) {C f0 f1 f2 f3 f4 f5 f6 f7 : Addr} {od0 an0 od1 an1 od2 an2 od3 an3 od4 an4 od5 an5 od6 an6 od7 an7 : Option Addr} {sl0 sl1 sl2 sl3 sl4 sl5 sl6 sl7 : Array (Option Value)} {oc0 kV0 dc0 pm0 cd0 ct0 oc1 kV1 dc1 pm1 cd1 ct1 oc2 kV2 dc2 pm2 cd2 ct2 oc3 kV3 dc3 pm3 cd3 ct3 oc4 kV4 dc4 pm4 cd4 ct4 oc5 kV5 dc5 pm5 cd5 ct5 oc6 kV6 dc6 pm6 cd6 ct6 oc7 kV7 dc7 pm7 cd7 ct7 : Value}
    (aC : PySem.W.nsIn K mainGlobals "Gauge" = some (some (.ref C)))
    (a0 : PySem.W.findIn K (.ref C) "__init__" = some (some (.ref f0))) (i0 : PySem.W.isFn K (.ref f0) = true) (l0 : K.lookup f0 = some ⟨oc0, od0, .func (PySem.W.fnOf "__init__" "Gauge.__init__" (defArgs mr) (defBody mr) (defScope mr) .none kV0 dc0 pm0 an0 cd0 ct0), sl0⟩) (c0 : PySem.W.codeIn K cd0 "Gauge.__init__" = true) (k0 : PySem.W.keepIn K (.ref f0) = true)
    (a1 : PySem.W.findIn K (.ref C) "forget" = some (some (.ref f1))) (i1 : PySem.W.isFn K (.ref f1) = true) (l1 : K.lookup f1 = some ⟨oc1, od1, .func (PySem.W.fnOf "forget" "Gauge.forget" (defArgs kz) (defBody kz) (defScope kz) .none kV1 dc1 pm1 an1 cd1 ct1), sl1⟩) (c1 : PySem.W.codeIn K cd1 "Gauge.forget" = true) (k1 : PySem.W.keepIn K (.ref f1) = true)
    (a2 : PySem.W.findIn K (.ref C) "end_place" = some (some (.ref f2))) (i2 : PySem.W.isFn K (.ref f2) = true) (l2 : K.lookup f2 = some ⟨oc2, od2, .func (PySem.W.fnOf "end_place" "Gauge.end_place" (defArgs gp) (defBody gp) (defScope gp) .none kV2 dc2 pm2 an2 cd2 ct2), sl2⟩) (c2 : PySem.W.codeIn K cd2 "Gauge.end_place" = true) (k2 : PySem.W.keepIn K (.ref f2) = true)
    (a3 : PySem.W.findIn K (.ref C) "take_reading" = some (some (.ref f3))) (i3 : PySem.W.isFn K (.ref f3) = true) (l3 : K.lookup f3 = some ⟨oc3, od3, .func (PySem.W.fnOf "take_reading" "Gauge.take_reading" (defArgs cr) (defBody cr) (defScope cr) .none kV3 dc3 pm3 an3 cd3 ct3), sl3⟩) (c3 : PySem.W.codeIn K cd3 "Gauge.take_reading" = true) (k3 : PySem.W.keepIn K (.ref f3) = true)
    (a4 : PySem.W.findIn K (.ref C) "smooth" = some (some (.ref f4))) (i4 : PySem.W.isFn K (.ref f4) = true) (l4 : K.lookup f4 = some ⟨oc4, od4, .func (PySem.W.fnOf "smooth" "Gauge.smooth" (defArgs lq) (defBody lq) (defScope lq) .none kV4 dc4 pm4 an4 cd4 ct4), sl4⟩) (c4 : PySem.W.codeIn K cd4 "Gauge.smooth" = true) (k4 : PySem.W.keepIn K (.ref f4) = true)
    (a5 : PySem.W.findIn K (.ref C) "add_to_trace" = some (some (.ref f5))) (i5 : PySem.W.isFn K (.ref f5) = true) (l5 : K.lookup f5 = some ⟨oc5, od5, .func (PySem.W.fnOf "add_to_trace" "Gauge.add_to_trace" (defArgs cf) (defBody cf) (defScope cf) .none kV5 dc5 pm5 an5 cd5 ct5), sl5⟩) (c5 : PySem.W.codeIn K cd5 "Gauge.add_to_trace" = true) (k5 : PySem.W.keepIn K (.ref f5) = true)
    (a6 : PySem.W.findIn K (.ref C) "dial" = some (some (.ref f6))) (i6 : PySem.W.isFn K (.ref f6) = true) (l6 : K.lookup f6 = some ⟨oc6, od6, .func (PySem.W.fnOf "dial" "Gauge.dial" (defArgs qh) (defBody qh) (defScope qh) .none kV6 dc6 pm6 an6 cd6 ct6), sl6⟩) (c6 : PySem.W.codeIn K cd6 "Gauge.dial" = true) (k6 : PySem.W.keepIn K (.ref f6) = true)
    (a7 : PySem.W.findIn K (.ref C) "number_for" = some (some (.ref f7))) (i7 : PySem.W.isFn K (.ref f7) = true) (l7 : K.lookup f7 = some ⟨oc7, od7, .func (PySem.W.fnOf "number_for" "Gauge.number_for" (defArgs el) (defBody el) (defScope el) .none kV7 dc7 pm7 an7 cd7 ct7), sl7⟩) (c7 : PySem.W.codeIn K cd7 "Gauge.number_for" = true) (k7 : PySem.W.keepIn K (.ref f7) = true)
    (pg : PySem.W.plainGet K C Str.empty = true) (hd : PySem.W.hasDictIn K C = true) (po : PySem.W.plainOver K C = true) (sa : PySem.W.findIn K (.ref C) "__setattr__" = some (some (.builtin "object.__setattr__"))) (mk : PySem.W.makesIn K C = true) (kc : PySem.W.keepIn K (.ref C) = true)
    (n_kind : PySem.W.findIn K (.ref C) "kind" = some none) (n_place : PySem.W.findIn K (.ref C) "place" = some none) (n_scale : PySem.W.findIn K (.ref C) "scale" = some none) (n_offset : PySem.W.findIn K (.ref C) "offset" = some none) (n_weight : PySem.W.findIn K (.ref C) "weight" = some none) (n_limits : PySem.W.findIn K (.ref C) "limits" = some none) (n_slack : PySem.W.findIn K (.ref C) "slack" = some none) (n_dial_start : PySem.W.findIn K (.ref C) "dial_start" = some none) (n_dial_scale : PySem.W.findIn K (.ref C) "dial_scale" = some none) (n_has_reading : PySem.W.findIn K (.ref C) "has_reading" = some none) (n_last_number : PySem.W.findIn K (.ref C) "last_number" = some none) (n_value : PySem.W.findIn K (.ref C) "value" = some none) (n_smoothed : PySem.W.findIn K (.ref C) "smoothed" = some none) (n_least : PySem.W.findIn K (.ref C) "least" = some none) (n_greatest : PySem.W.findIn K (.ref C) "greatest" = some none) (n_trace : PySem.W.findIn K (.ref C) "trace" = some none) (n_state : PySem.W.findIn K (.ref C) "state" = some none) :
    ∃ (C : Addr) (f0 f1 f2 f3 f4 f5 f6 f7 : Addr) (d0 d1 d2 d3 d4 d5 d6 d7 : FuncData), mg "Gauge" = some (.ref C) ∧ Cls K C ∧ Mk K C f0 ∧ NoAttr K C "kind" ∧ NoAttr K C "place" ∧ NoAttr K C "scale" ∧ NoAttr K C "offset" ∧ NoAttr K C "weight" ∧ NoAttr K C "limits" ∧ NoAttr K C "slack" ∧ NoAttr K C "dial_start" ∧ NoAttr K C "dial_scale" ∧ NoAttr K C "has_reading" ∧ NoAttr K C "last_number" ∧ NoAttr K C "value" ∧ NoAttr K C "smoothed" ∧ NoAttr K C "least" ∧ NoAttr K C "greatest" ∧ NoAttr K C "trace" ∧ NoAttr K C "state" ∧ Fun K "__init__" "Gauge.__init__" mr f0 d0 ∧ Fun K "forget" "Gauge.forget" kz f1 d1 ∧ Meth K C "forget" f1 ∧ Fun K "end_place" "Gauge.end_place" gp f2 d2 ∧ Meth K C "end_place" f2 ∧ Fun K "take_reading" "Gauge.take_reading" cr f3 d3 ∧ Meth K C "take_reading" f3 ∧ Fun K "smooth" "Gauge.smooth" lq f4 d4 ∧ Meth K C "smooth" f4 ∧ Fun K "add_to_trace" "Gauge.add_to_trace" cf f5 d5 ∧ Meth K C "add_to_trace" f5 ∧ Fun K "dial" "Gauge.dial" qh f6 d6 ∧ Meth K C "dial" f6 ∧ Fun K "number_for" "Gauge.number_for" el f7 d7 ∧ Meth K C "number_for" f7 :=
  ⟨C, f0, f1, f2, f3, f4, f5, f6, f7, _, _, _, _, _, _, _, _, PySem.W.mg_of X G aC, ⟨pg, hd, po, sa⟩, ⟨mk, a0, i0, kc⟩, n_kind, n_place, n_scale, n_offset, n_weight, n_limits, n_slack, n_dial_start, n_dial_scale, n_has_reading, n_last_number, n_value, n_smoothed, n_least, n_greatest, n_trace, n_state, fun_mk l0 c0 k0, fun_mk l1 c1 k1, ⟨a1, i1, k1⟩, fun_mk l2 c2 k2, ⟨a2, i2, k2⟩, fun_mk l3 c3 k3, ⟨a3, i3, k3⟩, fun_mk l4 c4 k4, ⟨a4, i4, k4⟩, fun_mk l5 c5 k5, ⟨a5, i5, k5⟩, fun_mk l6 c6 k6, ⟨a6, i6, k6⟩, fun_mk l7 c7 k7, ⟨a7, i7, k7⟩⟩
theorem ajl {K : PySem.W.Frag} {h : Heap} {mg : Str → Option Value} (X : K.In h) (G : h.Ns mainGlobals mg) {C f0 f1 f2 f3 f4 f5 f6 f7 f8 f9 f10 f11 f12 f13 f14 f15 f16 f17 f18 f19 : Addr} {od0 an0 od1 an1 od2 an2 od3 an3 od4 an4 od5 an5 od6 an6 od7 an7 od8 an8 od9 an9 od10 an10 od11 an11 od12 an12 od13 an13 od14 an14 od15 an15 od16 an16 od17 an17 od18 an18 od19 an19 : Option Addr} {sl0 sl1 sl2 sl3 sl4 sl5 sl6 sl7 sl8 sl9 sl10 sl11 sl12 sl13 sl14 sl15 sl16 sl17 sl18 sl19 : Array (Option Value)} {oc0 kV0 dc0 pm0 cd0 ct0 oc1 kV1 dc1 pm1 cd1 ct1 oc2 kV2 dc2 pm2 cd2 ct2 oc3 kV3 dc3 pm3 cd3 ct3 oc4 kV4 dc4 pm4 cd4 ct4 oc5 kV5 dc5 pm5 cd5 ct5 oc6 kV6 dc6 pm6 cd6 ct6 oc7 kV7 dc7 pm7 cd7 ct7 oc8 kV8 dc8 pm8 cd8 ct8 oc9 kV9 dc9 pm9 cd9 ct9 oc10 kV10 dc10 pm10 cd10 ct10 oc11 kV11 dc11 pm11 cd11 ct11 oc12 kV12 dc12 pm12 cd12 ct12 oc13 kV13 dc13 pm13 cd13 ct13 oc14 kV14 dc14 pm14 cd14 ct14 oc15 kV15 dc15 pm15 cd15 ct15 oc16 kV16 dc16 pm16 cd16 ct16 oc17 kV17 dc17 pm17 cd17 ct17 oc18 kV18 dc18 pm18 cd18 ct18 oc19 kV19 dc19 pm19 cd19 ct19 : Value}
    (aC : PySem.W.nsIn K mainGlobals "Board" = some (some (.ref C)))
    (a0 : PySem.W.findIn K (.ref C) "__init__" = some (some (.ref f0))) (i0 : PySem.W.isFn K (.ref f0) = true) (l0 : K.lookup f0 = some ⟨oc0, od0, .func (PySem.W.fnOf "__init__" "Board.__init__" (defArgs pb) (defBody pb) (defScope pb) .none kV0 dc0 pm0 an0 cd0 ct0), sl0⟩) (c0 : PySem.W.codeIn K cd0 "Board.__init__" = true) (k0 : PySem.W.keepIn K (.ref f0) = true)
    (a1 : PySem.W.findIn K (.ref C) "with_readings" = some (some (.ref f1))) (i1 : PySem.W.isFn K (.ref f1) = true) (l1 : K.lookup f1 = some ⟨oc1, od1, .func (PySem.W.fnOf "with_readings" "Board.with_readings" (defArgs aq) (defBody aq) (defScope aq) .none kV1 dc1 pm1 an1 cd1 ct1), sl1⟩) (c1 : PySem.W.codeIn K cd1 "Board.with_readings" = true) (k1 : PySem.W.keepIn K (.ref f1) = true)
    (a2 : PySem.W.findIn K (.ref C) "fits" = some (some (.ref f2))) (i2 : PySem.W.isFn K (.ref f2) = true) (l2 : K.lookup f2 = some ⟨oc2, od2, .func (PySem.W.fnOf "fits" "Board.fits" (defArgs qf) (defBody qf) (defScope qf) .none kV2 dc2 pm2 an2 cd2 ct2), sl2⟩) (c2 : PySem.W.codeIn K cd2 "Board.fits" = true) (k2 : PySem.W.keepIn K (.ref f2) = true)
    (a3 : PySem.W.findIn K (.ref C) "can_point" = some (some (.ref f3))) (i3 : PySem.W.isFn K (.ref f3) = true) (l3 : K.lookup f3 = some ⟨oc3, od3, .func (PySem.W.fnOf "can_point" "Board.can_point" (defArgs fk) (defBody fk) (defScope fk) .none kV3 dc3 pm3 an3 cd3 ct3), sl3⟩) (c3 : PySem.W.codeIn K cd3 "Board.can_point" = true) (k3 : PySem.W.keepIn K (.ref f3) = true)
    (a4 : PySem.W.findIn K (.ref C) "in_state" = some (some (.ref f4))) (i4 : PySem.W.isFn K (.ref f4) = true) (l4 : K.lookup f4 = some ⟨oc4, od4, .func (PySem.W.fnOf "in_state" "Board.in_state" (defArgs ef) (defBody ef) (defScope ef) .none kV4 dc4 pm4 an4 cd4 ct4), sl4⟩) (c4 : PySem.W.codeIn K cd4 "Board.in_state" = true) (k4 : PySem.W.keepIn K (.ref f4) = true)
    (a5 : PySem.W.findIn K (.ref C) "last_of_trace" = some (some (.ref f5))) (i5 : PySem.W.isFn K (.ref f5) = true) (l5 : K.lookup f5 = some ⟨oc5, od5, .func (PySem.W.fnOf "last_of_trace" "Board.last_of_trace" (defArgs br) (defBody br) (defScope br) .none kV5 dc5 pm5 an5 cd5 ct5), sl5⟩) (c5 : PySem.W.codeIn K cd5 "Board.last_of_trace" = true) (k5 : PySem.W.keepIn K (.ref f5) = true)
    (a6 : PySem.W.findIn K (.ref C) "keep_event" = some (some (.ref f6))) (i6 : PySem.W.isFn K (.ref f6) = true) (l6 : K.lookup f6 = some ⟨oc6, od6, .func (PySem.W.fnOf "keep_event" "Board.keep_event" (defArgs eu) (defBody eu) (defScope eu) .none kV6 dc6 pm6 an6 cd6 ct6), sl6⟩) (c6 : PySem.W.codeIn K cd6 "Board.keep_event" = true) (k6 : PySem.W.keepIn K (.ref f6) = true)
    (a7 : PySem.W.findIn K (.ref C) "gb_set" = some (some (.ref f7))) (i7 : PySem.W.isFn K (.ref f7) = true) (l7 : K.lookup f7 = some ⟨oc7, od7, .func (PySem.W.fnOf "gb_set" "Board.gb_set" (defArgs mf) (defBody mf) (defScope mf) .none kV7 dc7 pm7 an7 cd7 ct7), sl7⟩) (c7 : PySem.W.codeIn K cd7 "Board.gb_set" = true) (k7 : PySem.W.keepIn K (.ref f7) = true)
    (a8 : PySem.W.findIn K (.ref C) "gb_frame" = some (some (.ref f8))) (i8 : PySem.W.isFn K (.ref f8) = true) (l8 : K.lookup f8 = some ⟨oc8, od8, .func (PySem.W.fnOf "gb_frame" "Board.gb_frame" (defArgs eh) (defBody eh) (defScope eh) .none kV8 dc8 pm8 an8 cd8 ct8), sl8⟩) (c8 : PySem.W.codeIn K cd8 "Board.gb_frame" = true) (k8 : PySem.W.keepIn K (.ref f8) = true)
    (a9 : PySem.W.findIn K (.ref C) "gb_tell" = some (some (.ref f9))) (i9 : PySem.W.isFn K (.ref f9) = true) (l9 : K.lookup f9 = some ⟨oc9, od9, .func (PySem.W.fnOf "gb_tell" "Board.gb_tell" (defArgs gw) (defBody gw) (defScope gw) .none kV9 dc9 pm9 an9 cd9 ct9), sl9⟩) (c9 : PySem.W.codeIn K cd9 "Board.gb_tell" = true) (k9 : PySem.W.keepIn K (.ref f9) = true)
    (a10 : PySem.W.findIn K (.ref C) "gb_raw" = some (some (.ref f10))) (i10 : PySem.W.isFn K (.ref f10) = true) (l10 : K.lookup f10 = some ⟨oc10, od10, .func (PySem.W.fnOf "gb_raw" "Board.gb_raw" (defArgs iz) (defBody iz) (defScope iz) .none kV10 dc10 pm10 an10 cd10 ct10), sl10⟩) (c10 : PySem.W.codeIn K cd10 "Board.gb_raw" = true) (k10 : PySem.W.keepIn K (.ref f10) = true)
    (a11 : PySem.W.findIn K (.ref C) "gb_dial" = some (some (.ref f11))) (i11 : PySem.W.isFn K (.ref f11) = true) (l11 : K.lookup f11 = some ⟨oc11, od11, .func (PySem.W.fnOf "gb_dial" "Board.gb_dial" (defArgs g4) (defBody g4) (defScope g4) .none kV11 dc11 pm11 an11 cd11 ct11), sl11⟩) (c11 : PySem.W.codeIn K cd11 "Board.gb_dial" = true) (k11 : PySem.W.keepIn K (.ref f11) = true)
    (a12 : PySem.W.findIn K (.ref C) "gb_point" = some (some (.ref f12))) (i12 : PySem.W.isFn K (.ref f12) = true) (l12 : K.lookup f12 = some ⟨oc12, od12, .func (PySem.W.fnOf "gb_point" "Board.gb_point" (defArgs ic) (defBody ic) (defScope ic) .none kV12 dc12 pm12 an12 cd12 ct12), sl12⟩) (c12 : PySem.W.codeIn K cd12 "Board.gb_point" = true) (k12 : PySem.W.keepIn K (.ref f12) = true)
    (a13 : PySem.W.findIn K (.ref C) "gb_points" = some (some (.ref f13))) (i13 : PySem.W.isFn K (.ref f13) = true) (l13 : K.lookup f13 = some ⟨oc13, od13, .func (PySem.W.fnOf "gb_points" "Board.gb_points" (defArgs bn) (defBody bn) (defScope bn) .none kV13 dc13 pm13 an13 cd13 ct13), sl13⟩) (c13 : PySem.W.codeIn K cd13 "Board.gb_points" = true) (k13 : PySem.W.keepIn K (.ref f13) = true)
    (a14 : PySem.W.findIn K (.ref C) "gb_states" = some (some (.ref f14))) (i14 : PySem.W.isFn K (.ref f14) = true) (l14 : K.lookup f14 = some ⟨oc14, od14, .func (PySem.W.fnOf "gb_states" "Board.gb_states" (defArgs bm) (defBody bm) (defScope bm) .none kV14 dc14 pm14 an14 cd14 ct14), sl14⟩) (c14 : PySem.W.codeIn K cd14 "Board.gb_states" = true) (k14 : PySem.W.keepIn K (.ref f14) = true)
    (a15 : PySem.W.findIn K (.ref C) "gb_events" = some (some (.ref f15))) (i15 : PySem.W.isFn K (.ref f15) = true) (l15 : K.lookup f15 = some ⟨oc15, od15, .func (PySem.W.fnOf "gb_events" "Board.gb_events" (defArgs fu) (defBody fu) (defScope fu) .none kV15 dc15 pm15 an15 cd15 ct15), sl15⟩) (c15 : PySem.W.codeIn K cd15 "Board.gb_events" = true) (k15 : PySem.W.keepIn K (.ref f15) = true)
    (a16 : PySem.W.findIn K (.ref C) "gb_lost" = some (some (.ref f16))) (i16 : PySem.W.isFn K (.ref f16) = true) (l16 : K.lookup f16 = some ⟨oc16, od16, .func (PySem.W.fnOf "gb_lost" "Board.gb_lost" (defArgs jp) (defBody jp) (defScope jp) .none kV16 dc16 pm16 an16 cd16 ct16), sl16⟩) (c16 : PySem.W.codeIn K cd16 "Board.gb_lost" = true) (k16 : PySem.W.keepIn K (.ref f16) = true)
    (a17 : PySem.W.findIn K (.ref C) "gb_trace" = some (some (.ref f17))) (i17 : PySem.W.isFn K (.ref f17) = true) (l17 : K.lookup f17 = some ⟨oc17, od17, .func (PySem.W.fnOf "gb_trace" "Board.gb_trace" (defArgs dz) (defBody dz) (defScope dz) .none kV17 dc17 pm17 an17 cd17 ct17), sl17⟩) (c17 : PySem.W.codeIn K cd17 "Board.gb_trace" = true) (k17 : PySem.W.keepIn K (.ref f17) = true)
    (a18 : PySem.W.findIn K (.ref C) "gb_sums" = some (some (.ref f18))) (i18 : PySem.W.isFn K (.ref f18) = true) (l18 : K.lookup f18 = some ⟨oc18, od18, .func (PySem.W.fnOf "gb_sums" "Board.gb_sums" (defArgs dq) (defBody dq) (defScope dq) .none kV18 dc18 pm18 an18 cd18 ct18), sl18⟩) (c18 : PySem.W.codeIn K cd18 "Board.gb_sums" = true) (k18 : PySem.W.keepIn K (.ref f18) = true)
    (a19 : PySem.W.findIn K (.ref C) "gb_clear" = some (some (.ref f19))) (i19 : PySem.W.isFn K (.ref f19) = true) (l19 : K.lookup f19 = some ⟨oc19, od19, .func (PySem.W.fnOf "gb_clear" "Board.gb_clear" (defArgs ed) (defBody ed) (defScope ed) .none kV19 dc19 pm19 an19 cd19 ct19), sl19⟩) (c19 : PySem.W.codeIn K cd19 "Board.gb_clear" = true) (k19 : PySem.W.keepIn K (.ref f19) = true)
    (pg : PySem.W.plainGet K C Str.empty = true) (hd : PySem.W.hasDictIn K C = true) (po : PySem.W.plainOver K C = true) (sa : PySem.W.findIn K (.ref C) "__setattr__" = some (some (.builtin "object.__setattr__"))) (mk : PySem.W.makesIn K C = true) (kc : PySem.W.keepIn K (.ref C) = true)
    (n_gauges : PySem.W.findIn K (.ref C) "gauges" = some none) (n_events : PySem.W.findIn K (.ref C) "events" = some none) (n_lost : PySem.W.findIn K (.ref C) "lost" = some none) :
    ∃ (C : Addr) (f0 f1 f2 f3 f4 f5 f6 f7 f8 f9 f10 f11 f12 f13 f14 f15 f16 f17 f18 f19 : Addr) (d0 d1 d2 d3 d4 d5 d6 d7 d8 d9 d10 d11 d12 d13 d14 d15 d16 d17 d18 d19 : FuncData), mg "Board" = some (.ref C) ∧ Cls K C ∧ Mk K C f0 ∧ NoAttr K C "gauges" ∧ NoAttr K C "events" ∧ NoAttr K C "lost" ∧ Fun K "__init__" "Board.__init__" pb f0 d0 ∧ Fun K "with_readings" "Board.with_readings" aq f1 d1 ∧ Meth K C "with_readings" f1 ∧ Fun K "fits" "Board.fits" qf f2 d2 ∧ Meth K C "fits" f2 ∧ Fun K "can_point" "Board.can_point" fk f3 d3 ∧ Meth K C "can_point" f3 ∧ Fun K "in_state" "Board.in_state" ef f4 d4 ∧ Meth K C "in_state" f4 ∧ Fun K "last_of_trace" "Board.last_of_trace" br f5 d5 ∧ Meth K C "last_of_trace" f5 ∧ Fun K "keep_event" "Board.keep_event" eu f6 d6 ∧ Meth K C "keep_event" f6 ∧ Fun K "gb_set" "Board.gb_set" mf f7 d7 ∧ Meth K C "gb_set" f7 ∧ Fun K "gb_frame" "Board.gb_frame" eh f8 d8 ∧ Meth K C "gb_frame" f8 ∧ Fun K "gb_tell" "Board.gb_tell" gw f9 d9 ∧ Meth K C "gb_tell" f9 ∧ Fun K "gb_raw" "Board.gb_raw" iz f10 d10 ∧ Meth K C "gb_raw" f10 ∧ Fun K "gb_dial" "Board.gb_dial" g4 f11 d11 ∧ Meth K C "gb_dial" f11 ∧ Fun K "gb_point" "Board.gb_point" ic f12 d12 ∧ Meth K C "gb_point" f12 ∧ Fun K "gb_points" "Board.gb_points" bn f13 d13 ∧ Meth K C "gb_points" f13 ∧ Fun K "gb_states" "Board.gb_states" bm f14 d14 ∧ Meth K C "gb_states" f14 ∧ Fun K "gb_events" "Board.gb_events" fu f15 d15 ∧ Meth K C "gb_events" f15 ∧ Fun K "gb_lost" "Board.gb_lost" jp f16 d16 ∧ Meth K C "gb_lost" f16 ∧ Fun K "gb_trace" "Board.gb_trace" dz f17 d17 ∧ Meth K C "gb_trace" f17 ∧ Fun K "gb_sums" "Board.gb_sums" dq f18 d18 ∧ Meth K C "gb_sums" f18 ∧ Fun K "gb_clear" "Board.gb_clear" ed f19 d19 ∧ Meth K C "gb_clear" f19 :=
  ⟨C, f0, f1, f2, f3, f4, f5, f6, f7, f8, f9, f10, f11, f12, f13, f14, f15, f16, f17, f18, f19, _, _, _, _, _, _, _, _, _, _, _, _, _, _, _, _, _, _, _, _, PySem.W.mg_of X G aC, ⟨pg, hd, po, sa⟩, ⟨mk, a0, i0, kc⟩, n_gauges, n_events, n_lost, fun_mk l0 c0 k0, fun_mk l1 c1 k1, ⟨a1, i1, k1⟩, fun_mk l2 c2 k2, ⟨a2, i2, k2⟩, fun_mk l3 c3 k3, ⟨a3, i3, k3⟩, fun_mk l4 c4 k4, ⟨a4, i4, k4⟩, fun_mk l5 c5 k5, ⟨a5, i5, k5⟩, fun_mk l6 c6 k6, ⟨a6, i6, k6⟩, fun_mk l7 c7 k7, ⟨a7, i7, k7⟩, fun_mk l8 c8 k8, ⟨a8, i8, k8⟩, fun_mk l9 c9 k9, ⟨a9, i9, k9⟩, fun_mk l10 c10 k10, ⟨a10, i10, k10⟩, fun_mk l11 c11 k11, ⟨a11, i11, k11⟩, fun_mk l12 c12 k12, ⟨a12, i12, k12⟩, fun_mk l13 c13 k13, ⟨a13, i13, k13⟩, fun_mk l14 c14 k14, ⟨a14, i14, k14⟩, fun_mk l15 c15 k15, ⟨a15, i15, k15⟩, fun_mk l16 c16 k16, ⟨a16, i16, k16⟩, fun_mk l17 c17 k17, ⟨a17, i17, k17⟩, fun_mk l18 c18 k18, ⟨a18, i18, k18⟩, fun_mk l19 c19 k19, ⟨a19, i19, k19⟩⟩
theorem aid {K : PySem.W.Frag} {h : Heap} {mg : Str → Option Value} (X : K.In h) (G : h.Ns mainGlobals mg) {A a0 a1 a2 a3 a4 a5 a6 a7 a8 a9 a10 a11 a12 a13 : Addr} {od0 od1 od2 od3 od4 od5 od6 od7 od8 od9 od10 od11 od12 od13 od : Option Addr} {sl0 sl1 sl2 sl3 sl4 sl5 sl6 sl7 sl8 sl9 sl10 sl11 sl12 sl13 sl : Array (Option Value)} {nn0 nn1 nn2 nn3 nn4 nn5 nn6 nn7 nn8 nn9 nn10 nn11 nn12 nn13 nn : Nat} {t0 u0 t1 u1 t2 u2 t3 u3 t4 u4 t5 u5 t6 u6 t7 u7 t8 u8 t9 u9 t10 u10 t11 u11 t12 u12 t13 u13 : Tok}
    (e : PySem.W.nsIn K mainGlobals "SHAPES" = some (some (.ref A))) (l : K.lookup A = some ⟨.type "tuple", od, .seq #[.ref a0, .ref a1, .ref a2, .ref a3, .ref a4, .ref a5, .ref a6, .ref a7, .ref a8, .ref a9, .ref a10, .ref a11, .ref a12, .ref a13] nn, sl⟩)
    (l0 : K.lookup a0 = some ⟨.type "tuple", od0, .seq #[.int 0 t0, .int 0 u0] nn0, sl0⟩)
    (l1 : K.lookup a1 = some ⟨.type "tuple", od1, .seq #[.int 3 t1, .int 1 u1] nn1, sl1⟩)
    (l2 : K.lookup a2 = some ⟨.type "tuple", od2, .seq #[.int 2 t2, .int 1 u2] nn2, sl2⟩)
    (l3 : K.lookup a3 = some ⟨.type "tuple", od3, .seq #[.int 2 t3, .int 0 u3] nn3, sl3⟩)
    (l4 : K.lookup a4 = some ⟨.type "tuple", od4, .seq #[.int 2 t4, .int 0 u4] nn4, sl4⟩)
    (l5 : K.lookup a5 = some ⟨.type "tuple", od5, .seq #[.int 1 t5, .int 0 u5] nn5, sl5⟩)
    (l6 : K.lookup a6 = some ⟨.type "tuple", od6, .seq #[.int 2 t6, .int 0 u6] nn6, sl6⟩)
    (l7 : K.lookup a7 = some ⟨.type "tuple", od7, .seq #[.int 1 t7, .int 2 u7] nn7, sl7⟩)
    (l8 : K.lookup a8 = some ⟨.type "tuple", od8, .seq #[.int 0 t8, .int 0 u8] nn8, sl8⟩)
    (l9 : K.lookup a9 = some ⟨.type "tuple", od9, .seq #[.int 1 t9, .int 0 u9] nn9, sl9⟩)
    (l10 : K.lookup a10 = some ⟨.type "tuple", od10, .seq #[.int 0 t10, .int 0 u10] nn10, sl10⟩)
    (l11 : K.lookup a11 = some ⟨.type "tuple", od11, .seq #[.int 2 t11, .int 0 u11] nn11, sl11⟩)
    (l12 : K.lookup a12 = some ⟨.type "tuple", od12, .seq #[.int 2 t12, .int 0 u12] nn12, sl12⟩)
    (l13 : K.lookup a13 = some ⟨.type "tuple", od13, .seq #[.int 1 t13, .int 0 u13] nn13, sl13⟩)
    : ∃ A, mg "SHAPES" = some (.ref A) ∧ ∃ as : List Addr, (∀ H, SqT K H A (as.map V.ref)) ∧ as.length = 14 ∧ ∀ (i : Nat) (a b : Int), ([(0, 0), (3, 1), (2, 1), (2, 0), (2, 0), (1, 0), (2, 0), (1, 2), (0, 0), (1, 0), (0, 0), (2, 0), (2, 0), (1, 0)] : List (Int × Int))[i]? = some (a, b) → ∃ p, as[i]? = some p ∧ ∀ H, SqT K H p [.int a, .int b] := by
  refine ⟨A, PySem.W.mg_of X G e, [a0, a1, a2, a3, a4, a5, a6, a7, a8, a9, a10, a11, a12, a13], fun H => .inr ⟨_, _, _, l, rfl, rfl, (by show 14 ≤ sizeLine; decide), (.cons rfl (.cons rfl (.cons rfl (.cons rfl (.cons rfl (.cons rfl (.cons rfl (.cons rfl (.cons rfl (.cons rfl (.cons rfl (.cons rfl (.cons rfl (.cons rfl .nil))))))))))))))⟩, rfl, fun i a b hi => ?_⟩
  match i, hi with
  | 0, hi => cases hi; exact ⟨a0, rfl, fun H => .inr ⟨_, _, _, l0, rfl, rfl, (by show 2 ≤ sizeLine; decide), .cons ⟨_, rfl⟩ (.cons ⟨_, rfl⟩ .nil)⟩⟩
  | 1, hi => cases hi; exact ⟨a1, rfl, fun H => .inr ⟨_, _, _, l1, rfl, rfl, (by show 2 ≤ sizeLine; decide), .cons ⟨_, rfl⟩ (.cons ⟨_, rfl⟩ .nil)⟩⟩
  | 2, hi => cases hi; exact ⟨a2, rfl, fun H => .inr ⟨_, _, _, l2, rfl, rfl, (by show 2 ≤ sizeLine; decide), .cons ⟨_, rfl⟩ (.cons ⟨_, rfl⟩ .nil)⟩⟩
  | 3, hi => cases hi; exact ⟨a3, rfl, fun H => .inr ⟨_, _, _, l3, rfl, rfl, (by show 2 ≤ sizeLine; decide), .cons ⟨_, rfl⟩ (.cons ⟨_, rfl⟩ .nil)⟩⟩
  | 4, hi => cases hi; exact ⟨a4, rfl, fun H => .inr ⟨_, _, _, l4, rfl, rfl, (by show 2 ≤ sizeLine; decide), .cons ⟨_, rfl⟩ (.cons ⟨_, rfl⟩ .nil)⟩⟩
  | 5, hi => cases hi; exact ⟨a5, rfl, fun H => .inr ⟨_, _, _, l5, rfl, rfl, (by show 2 ≤ sizeLine; decide), .cons ⟨_, rfl⟩ (.cons ⟨_, rfl⟩ .nil)⟩⟩
  | 6, hi => cases hi; exact ⟨a6, rfl, fun H => .inr ⟨_, _, _, l6, rfl, rfl, (by show 2 ≤ sizeLine; decide), .cons ⟨_, rfl⟩ (.cons ⟨_, rfl⟩ .nil)⟩⟩
  | 7, hi => cases hi; exact ⟨a7, rfl, fun H => .inr ⟨_, _, _, l7, rfl, rfl, (by show 2 ≤ sizeLine; decide), .cons ⟨_, rfl⟩ (.cons ⟨_, rfl⟩ .nil)⟩⟩
  | 8, hi => cases hi; exact ⟨a8, rfl, fun H => .inr ⟨_, _, _, l8, rfl, rfl, (by show 2 ≤ sizeLine; decide), .cons ⟨_, rfl⟩ (.cons ⟨_, rfl⟩ .nil)⟩⟩
  | 9, hi => cases hi; exact ⟨a9, rfl, fun H => .inr ⟨_, _, _, l9, rfl, rfl, (by show 2 ≤ sizeLine; decide), .cons ⟨_, rfl⟩ (.cons ⟨_, rfl⟩ .nil)⟩⟩
  | 10, hi => cases hi; exact ⟨a10, rfl, fun H => .inr ⟨_, _, _, l10, rfl, rfl, (by show 2 ≤ sizeLine; decide), .cons ⟨_, rfl⟩ (.cons ⟨_, rfl⟩ .nil)⟩⟩
  | 11, hi => cases hi; exact ⟨a11, rfl, fun H => .inr ⟨_, _, _, l11, rfl, rfl, (by show 2 ≤ sizeLine; decide), .cons ⟨_, rfl⟩ (.cons ⟨_, rfl⟩ .nil)⟩⟩
  | 12, hi => cases hi; exact ⟨a12, rfl, fun H => .inr ⟨_, _, _, l12, rfl, rfl, (by show 2 ≤ sizeLine; decide), .cons ⟨_, rfl⟩ (.cons ⟨_, rfl⟩ .nil)⟩⟩
  | 13, hi => cases hi; exact ⟨a13, rfl, fun H => .inr ⟨_, _, _, l13, rfl, rfl, (by show 2 ≤ sizeLine; decide), .cons ⟨_, rfl⟩ (.cons ⟨_, rfl⟩ .nil)⟩⟩
  | n + 14, hi => simp at hi
theorem at8 {K : PySem.W.Frag} {f : Addr} {fd : FuncData} (F : Fun K "answers" "answers" ab9 f fd) (s : Shared) (u : Value) : BindsTo s fd ⟨[u], []⟩ [("calls", u)] := by
  obtain ⟨oc, od, kV, doc, pm, an, cdv, ct, osl, rfl, lk, hcd⟩ := F.ex
  exact .of_eq rfl
end GB
end

namespace PySem.W.Fast
def tw3216159372227321744 := 0
def tw7253370567235139404 := 0
def tw16696322497857328382 := 0
def tw4486309404752731512 := 0
def tw6837399866500309990 := 0
def tw17618408220576509775 := 0
def tw17588484949929370478 := 0
def tw11684753560132795017 := 0
def tw13947607542040262501 := 0
def tw2707719675681656546 := 0
def tw2789874170382896447 := 0
def tw11014240624730403289 := 0
def tw10111316211753634066 := 0
def tw13571799696496588151 := 0
def tw6766963601246246567 := 0
def tw6461917566793348969 := 0
def tw17228436917044277711 := 0
def tw6423131268697309522 := 0
def tw169499035066676869 := 0
def tw3891685055490159067 := 0
def tw8065840943079399156 := 0
def tw11241012517320880394 := 0
def tw15720759868205896199 := 0
def tw2466061588656837052 := 0
def tw7806023013931241802 := 0
def tw1912000320304126457 := 0
def tw16371227504185816835 := 0
def tw16052208856164571415 := 0
def tw5553862324491596133 := 0
def tw14918524094545548375 := 0
def tw14389291657234826923 := 0
def tw11229471297981804312 := 0
def tw2942532993428976749 := 0
def tw13626801079079130404 := 0
def tw3840514193505458181 := 0
def tw18307769701904609045 := 0
def tw16429564571834309845 := 0
def tw13007919033054475570 := 0
def tw11236451516099394133 := 0
def tw10578256274462694543 := 0
def tw9597468161844210325 := 0
def tw5052728776549152450 := 0
def tw15960838249207845196 := 0
def tw15915313421818810532 := 0
def tw13714286568291403293 := 0
def tw16567179579237770407 := 0
def tw7369358363498678598 := 0
def tw8761492152821512460 := 0
def tw14869340884001273973 := 0
def tw12073420102655489167 := 0
def tw16234875523168179017 := 0
def tw21117862792519925 := 0
def tw1696010084720247854 := 0
def tw10588022642351132925 := 0
def tw7179506458349609973 := 0
def tw15966762409704851140 := 0
def tw10688032448646292 := 0
def tw11141567239421461502 := 0
def tw16415569988781763016 := 0
def tw8741443015894485529 := 0
def tw3692719368004720477 := 0
def tw3163149266303097960 := 0
def tw10689605252205361781 := 0
def tw7433278610181605722 := 0
def tw1125450956350456797 := 0
def tw5833136247649903014 := 0
def tw6174319668682400932 := 0
def tw3923135101558122596 := 0
def tw8409960409662545375 := 0
def tw2731511122929657391 := 0
def tw11623407378515280434 := 0
def tw5847296773638990997 := 0
def tw14891938899352003683 := 0
def tw2044197344694541589 := 0
def tw4406233005600078648 := 0
def tw14720700318796475489 := 0
def tw1001233804232120290 := 0
def tw4279529957218415576 := 0
def tw7318728156911310368 := 0
def tw12669739741329996427 := 0
def tw10970859119517926819 := 0
def tw9913859589701728989 := 0
def tw9114537335675172423 := 0
def tw2373431342037840280 := 0
def tw3531944112188919611 := 0
def tw13847631617867931403 := 0
def tw16120622744871397844 := 0
def tw4680874460086085575 := 0
def tw303458953710975989 := 0
def tw16725992512602659850 := 0
def tw9318630414452410446 := 0
def tw2429331544196238025 := 0
def tw15178359175978229927 := 0
def tw6526691529117856199 := 0
def tw1152157264333334645 := 0
def tw2393175105594275454 := 0
def tw7964701910335131526 := 0
def tw1462411931085980011 := 0
def tw3368298245754550805 := 0
def tw9250380712728375975 := 0
def tw11001437895919610638 := 0
def tw8970791921361399977 := 0
def tw13082437457398563203 := 0
def tw16421560703459700451 := 0
def tw14688799505177272909 := 0
def tw5401063904525882443 := 0
def tw14455611062483061107 := 0
def tw2855979306422595409 := 0
def tw865727149970764433 := 0
def tw15080059370641079771 := 0
def tw13982468750485947408 := 0
def tw8953808975048244381 := 0
def tw2358633856530934767 := 0
def tw15592447109836961267 := 0
def tw230581751311814716 := 0
def tw15436586300882792933 := 0
def tw10240277806266421224 := 0
def tw6295202167544799697 := 0
def tw6884447566659268515 := 0
def tw4797004524937459840 := 0
def tw10528691925002677274 := 0
end PySem.W.Fast
open PySem PySem.W PyProof.Rows
set_option Elab.async false
set_option maxRecDepth 100000 in
set_option maxHeartbeats 0 in
theorem PySem.Challenge.cw_gaugeboard_s01_answers_holds : PySem.Challenge.rw_gaugeboard_s01_answers.Holds := by
  w_on; k_headS; (case hw => exact ⟨[.list [.int 0]], by decide +kernel, by decide +kernel⟩)
  k_fillS
  refine GB.aoi (k := 9) (x := "calls") (r := PySem.Challenge.rw_gaugeboard_s01_answers) (ask := PyQl90.answers_asked) (f := PyQl90.answers) rfl (by decide) rfl ⟨rfl, by decide, by decide⟩ (fun w h Y => PySem.W.kIn_of Y) ?F
  case F =>
    intro w mg fa h KX G hmg
    have agb := by
      refine' GB.ap (name := "nearest_whole") (st := GB.v0) KX G ?a ?l ?c ?k
      (case a => k_is); (case l => k_is); (case c => k_is); (case k => k_is)
    have acn := by
      refine' GB.ap (name := "nearest_of_digits") (st := GB.qk) KX G ?a ?l ?c ?k
      (case a => k_is); (case l => k_is); (case c => k_is); (case k => k_is)
    have aia := by
      refine' GB.ap (name := "made_double") (st := GB.yz) KX G ?a ?l ?c ?k
      (case a => k_is); (case l => k_is); (case c => k_is); (case k => k_is)
    have acl := by
      refine' GB.ap (name := "whole_made_double") (st := GB.qj) KX G ?a ?l ?c ?k
      (case a => k_is); (case l => k_is); (case c => k_is); (case k => k_is)
    have aih := by
      refine' GB.ap (name := "made_single") (st := GB.y0) KX G ?a ?l ?c ?k
      (case a => k_is); (case l => k_is); (case c => k_is); (case k => k_is)
    have abr := by
      refine' GB.ap (name := "single_made_double") (st := GB.oo) KX G ?a ?l ?c ?k
      (case a => k_is); (case l => k_is); (case c => k_is); (case k => k_is)
    have anz := by
      refine' GB.ap (name := "product") (st := GB.aff) KX G ?a ?l ?c ?k
      (case a => k_is); (case l => k_is); (case c => k_is); (case k => k_is)
    have aek := by
      refine' GB.ap (name := "product_and_sum") (st := GB.ua) KX G ?a ?l ?c ?k
      (case a => k_is); (case l => k_is); (case c => k_is); (case k => k_is)
    have am2 := by
      refine' GB.ap (name := "quotient") (st := GB.adb) KX G ?a ?l ?c ?k
      (case a => k_is); (case l => k_is); (case c => k_is); (case k => k_is)
    have ag8 := by
      refine' GB.ap (name := "whole_number") (st := GB.xu) KX G ?a ?l ?c ?k
      (case a => k_is); (case l => k_is); (case c => k_is); (case k => k_is)
    have aoz := by
      refine' GB.ap (name := "bits_of") (st := GB.ae1) KX G ?a ?l ?c ?k
      (case a => k_is); (case l => k_is); (case c => k_is); (case k => k_is)
    have ah5 := by
      refine' GB.ap (name := "double_bits") (st := GB.yx) KX G ?a ?l ?c ?k
      (case a => k_is); (case l => k_is); (case c => k_is); (case k => k_is)
    have ail := by
      refine' GB.ap (name := "single_bits") (st := GB.y8) KX G ?a ?l ?c ?k
      (case a => k_is); (case l => k_is); (case c => k_is); (case k => k_is)
    have afm := by
      refine' GB.ap (name := "exponent_field") (st := GB.ui) KX G ?a ?l ?c ?k
      (case a => k_is); (case l => k_is); (case c => k_is); (case k => k_is)
    have am3 := by
      refine' GB.ap (name := "steps_of") (st := GB.ac4) KX G ?a ?l ?c ?k
      (case a => k_is); (case l => k_is); (case c => k_is); (case k => k_is)
    have akh := by
      refine' GB.ap (name := "is_measure") (st := GB.z4) KX G ?a ?l ?c ?k
      (case a => k_is); (case l => k_is); (case c => k_is); (case k => k_is)
    have ama := by
      refine' GB.ap (name := "is_point") (st := GB.adc) KX G ?a ?l ?c ?k
      (case a => k_is); (case l => k_is); (case c => k_is); (case k => k_is)
    have apc := by
      refine' GB.ap (name := "is_kind") (st := GB.ae2) KX G ?a ?l ?c ?k
      (case a => k_is); (case l => k_is); (case c => k_is); (case k => k_is)
    have ajr := by
      refine' GB.ap (name := "byte_count") (st := GB.aac) KX G ?a ?l ?c ?k
      (case a => k_is); (case l => k_is); (case c => k_is); (case k => k_is)
    have amw := by
      refine' GB.ap (name := "has_sign") (st := GB.ac6) KX G ?a ?l ?c ?k
      (case a => k_is); (case l => k_is); (case c => k_is); (case k => k_is)
    have agi := by
      refine' GB.ap (name := "highest_first") (st := GB.we) KX G ?a ?l ?c ?k
      (case a => k_is); (case l => k_is); (case c => k_is); (case k => k_is)
    have ale := by
      refine' GB.ap (name := "lowest_of") (st := GB.abf) KX G ?a ?l ?c ?k
      (case a => k_is); (case l => k_is); (case c => k_is); (case k => k_is)
    have ajs := by
      refine' GB.ap (name := "highest_of") (st := GB.aak) KX G ?a ?l ?c ?k
      (case a => k_is); (case l => k_is); (case c => k_is); (case k => k_is)
    have ats := by
      refine' GB.ap (name := "held") (st := GB.amj) KX G ?a ?l ?c ?k
      (case a => k_is); (case l => k_is); (case c => k_is); (case k => k_is)
    have alv := by
      refine' GB.ap (name := "number_at") (st := GB.abc) KX G ?a ?l ?c ?k
      (case a => k_is); (case l => k_is); (case c => k_is); (case k => k_is)
    have amc := by
      refine' GB.ap (name := "bytes_of") (st := GB.aar) KX G ?a ?l ?c ?k
      (case a => k_is); (case l => k_is); (case c => k_is); (case k => k_is)
    have atm := by
      refine' GB.ap (name := "zone") (st := GB.amb) KX G ?a ?l ?c ?k
      (case a => k_is); (case l => k_is); (case c => k_is); (case k => k_is)
    have ahs := by
      refine' GB.ap (name := "raised_below") (st := GB.xo) KX G ?a ?l ?c ?k
      (case a => k_is); (case l => k_is); (case c => k_is); (case k => k_is)
    have age := by
      refine' GB.ap (name := "lowered_above") (st := GB.wf) KX G ?a ?l ?c ?k
      (case a => k_is); (case l => k_is); (case c => k_is); (case k => k_is)
    have ah8 := by
      refine' GB.ap (name := "state_after") (st := GB.y6) KX G ?a ?l ?c ?k
      (case a => k_is); (case l => k_is); (case c => k_is); (case k => k_is)
    have ad2 := by
      refine' GB.ap (name := "limits_in_order") (st := GB.sx) KX G ?a ?l ?c ?k
      (case a => k_is); (case l => k_is); (case c => k_is); (case k => k_is)
    have ag7 := by
      refine' GB.ap (name := "how_is_right") (st := GB.o6) KX G ?a ?l ?c ?k
      (case a => k_is); (case l => k_is); (case c => k_is); (case k => k_is)
    have aro := by
      refine' GB.ap (name := "added") (st := GB.ajx) KX G ?a ?l ?c ?k
      (case a => k_is); (case l => k_is); (case c => k_is); (case k => k_is)
    have alh := by
      refine' GB.ap (name := "all_parts") (st := GB.abg) KX G ?a ?l ?c ?k
      (case a => k_is); (case l => k_is); (case c => k_is); (case k => k_is)
    have ape := by
      refine' GB.ap (name := "sums_of") (st := GB.afg) KX G ?a ?l ?c ?k
      (case a => k_is); (case l => k_is); (case c => k_is); (case k => k_is)
    have alu := by
      refine' GB.ap (name := "gauges_in") (st := GB.yk) KX G ?a ?l ?c ?k
      (case a => k_is); (case l => k_is); (case c => k_is); (case k => k_is)
    have amz := by
      refine' GB.ap (name := "is_gauge") (st := GB.adg) KX G ?a ?l ?c ?k
      (case a => k_is); (case l => k_is); (case c => k_is); (case k => k_is)
    have amn := by
      refine' GB.ap (name := "as_which") (st := GB.z7) KX G ?a ?l ?c ?k
      (case a => k_is); (case l => k_is); (case c => k_is); (case k => k_is)
    have atf := by
      refine' GB.ap (name := "told") (st := GB.amm) KX G ?a ?l ?c ?k
      (case a => k_is); (case l => k_is); (case c => k_is); (case k => k_is)
    have aof := by
      refine' GB.ap (name := "counted") (st := GB.ab8) KX G ?a ?l ?c ?k
      (case a => k_is); (case l => k_is); (case c => k_is); (case k => k_is)
    have aks := by
      refine' GB.ap (name := "bytes_for") (st := GB.aa9) KX G ?a ?l ?c ?k
      (case a => k_is); (case l => k_is); (case c => k_is); (case k => k_is)
    have ara := by
      refine' GB.ap (name := "answer") (st := GB.ahr) KX G ?a ?l ?c ?k
      (case a => k_is); (case l => k_is); (case c => k_is); (case k => k_is)
    have apd := by
      refine' GB.ap (name := "answers") (st := GB.ab9) KX G ?a ?l ?c ?k
      (case a => k_is); (case l => k_is); (case c => k_is); (case k => k_is)
    obtain ⟨jy, j0, my, gu⟩ := agb
    obtain ⟨dn, dh, dl, bc⟩ := acn
    obtain ⟨nq, na, ao, al⟩ := aia
    obtain ⟨dk, dj, kq, di⟩ := acl
    obtain ⟨nb, m7, qm, km⟩ := aih
    obtain ⟨cn, cw, j8, cc⟩ := abr
    obtain ⟨wv, w9, acg, xi⟩ := anz
    obtain ⟨gc, fx, j5, cz⟩ := aek
    obtain ⟨ut, ul, aam, va⟩ := am2
    obtain ⟨ll, ky, o1, iw⟩ := ag8
    obtain ⟨xa, w6, zi, vh⟩ := aoz
    obtain ⟨nc, ni, fb, b6⟩ := ah5
    obtain ⟨m8, nk, qp, kj⟩ := ail
    obtain ⟨ij, ie, ik, cx⟩ := afm
    obtain ⟨vd, uq, uz, o4⟩ := am3
    obtain ⟨pc, pj, wq, qg⟩ := akh
    obtain ⟨vk, uw, x8, rh⟩ := ama
    obtain ⟨wz, w8, aci, xc⟩ := apc
    obtain ⟨o9, ph, de, bj⟩ := ajr
    obtain ⟨uy, uv, aap, ux⟩ := amw
    obtain ⟨jt, jv, m5, gy⟩ := agi
    obtain ⟨sh, rm, vq, o7⟩ := ale
    obtain ⟨qd, pk, sq, ml⟩ := ajs
    obtain ⟨ae8, afn, afb, abx⟩ := ats
    obtain ⟨si, sf, ye, rn⟩ := alv
    obtain ⟨vi, uu, aab, ve⟩ := amc
    obtain ⟨afc, ae4, ae9, abl⟩ := atm
    obtain ⟨lm, lu, tj, kx⟩ := ahs
    obtain ⟨jk, jo, rc, jm⟩ := age
    obtain ⟨nj, nh, vn, m9⟩ := ah8
    obtain ⟨gh, fo, nz, fm⟩ := ad2
    obtain ⟨md, lf, ub, le⟩ := ag7
    obtain ⟨acd, ab5, aad, wt⟩ := aro
    obtain ⟨rk, sd, vo, oq⟩ := alh
    obtain ⟨ww, wy, ace, xk⟩ := ape
    obtain ⟨rq, r0, ot, ke⟩ := alu
    obtain ⟨vj, vg, rf, mo⟩ := amz
    obtain ⟨ug, um, xn, rj⟩ := amn
    obtain ⟨aet, aeu, akb, aex⟩ := atf
    obtain ⟨xh, xb, zp, vf⟩ := aof
    obtain ⟨se, r8, vz, o5⟩ := aks
    obtain ⟨zx, z1, aem, zj⟩ := ara
    obtain ⟨xg, vc, ach, xf⟩ := apd
    have ajq := by
      refine' GB.adp KX G ?aC ?a0 ?i0 ?l0 ?c0 ?k0 ?a1 ?i1 ?l1 ?c1 ?k1 ?a2 ?i2 ?l2 ?c2 ?k2 ?a3 ?i3 ?l3 ?c3 ?k3 ?a4 ?i4 ?l4 ?c4 ?k4 ?pg ?hd ?po ?sa ?mk ?kc ?n_calls ?n_at
      (case aC => k_is); (case a0 => k_is); (case i0 => k_is); (case l0 => k_is); (case c0 => k_is); (case k0 => k_is); (case a1 => k_is); (case i1 => k_is); (case l1 => k_is); (case c1 => k_is); (case k1 => k_is); (case a2 => k_is); (case i2 => k_is); (case l2 => k_is); (case c2 => k_is); (case k2 => k_is); (case a3 => k_is); (case i3 => k_is); (case l3 => k_is); (case c3 => k_is); (case k3 => k_is); (case a4 => k_is); (case i4 => k_is); (case l4 => k_is); (case c4 => k_is); (case k4 => k_is); (case pg => k_is); (case hd => k_is); (case po => k_is); (case sa => k_is); (case mk => k_is); (case kc => k_is); (case n_calls => k_is); (case n_at => k_is)
    obtain ⟨ad, fq, bq, az, bt, bh, gl, b3, ay, b4, bf, wo, ak, vm, ca, b9, j9, dv, jg, b7, ba, du, je, cv, gm⟩ := ajq
    have ash := by
      refine' GB.akc KX G ?aC ?a0 ?i0 ?l0 ?c0 ?k0 ?a1 ?i1 ?l1 ?c1 ?k1 ?a2 ?i2 ?l2 ?c2 ?k2 ?a3 ?i3 ?l3 ?c3 ?k3 ?a4 ?i4 ?l4 ?c4 ?k4 ?a5 ?i5 ?l5 ?c5 ?k5 ?a6 ?i6 ?l6 ?c6 ?k6 ?a7 ?i7 ?l7 ?c7 ?k7 ?pg ?hd ?po ?sa ?mk ?kc ?n_kind ?n_place ?n_scale ?n_offset ?n_weight ?n_limits ?n_slack ?n_dial_start ?n_dial_scale ?n_has_reading ?n_last_number ?n_value ?n_smoothed ?n_least ?n_greatest ?n_trace ?n_state
      (case aC => k_is); (case a0 => k_is); (case i0 => k_is); (case l0 => k_is); (case c0 => k_is); (case k0 => k_is); (case a1 => k_is); (case i1 => k_is); (case l1 => k_is); (case c1 => k_is); (case k1 => k_is); (case a2 => k_is); (case i2 => k_is); (case l2 => k_is); (case c2 => k_is); (case k2 => k_is); (case a3 => k_is); (case i3 => k_is); (case l3 => k_is); (case c3 => k_is); (case k3 => k_is); (case a4 => k_is); (case i4 => k_is); (case l4 => k_is); (case c4 => k_is); (case k4 => k_is); (case a5 => k_is); (case i5 => k_is); (case l5 => k_is); (case c5 => k_is); (case k5 => k_is); (case a6 => k_is); (case i6 => k_is); (case l6 => k_is); (case c6 => k_is); (case k6 => k_is); (case a7 => k_is); (case i7 => k_is); (case l7 => k_is); (case c7 => k_is); (case k7 => k_is); (case pg => k_is); (case hd => k_is); (case po => k_is); (case sa => k_is); (case mk => k_is); (case kc => k_is); (case n_kind => k_is); (case n_place => k_is); (case n_scale => k_is); (case n_offset => k_is); (case n_weight => k_is); (case n_limits => k_is); (case n_slack => k_is); (case n_dial_start => k_is); (case n_dial_scale => k_is); (case n_has_reading => k_is); (case n_last_number => k_is); (case n_value => k_is); (case n_smoothed => k_is); (case n_least => k_is); (case n_greatest => k_is); (case n_trace => k_is); (case n_state => k_is)
    obtain ⟨ac, px, lw, fy, ck, lc, cq, p4, dy, p5, lg, fz, cb, me, cu, p6, eg, agp, aa, aep, g6, ko, ki, lb, on, oj, qo, ja, iy, be, dm, ia, cg, g9, cj, kh, cy, sr, oy, o0, kb, n6, fg, j1, oz, ss, ff, kd, s0, wr, jc, mq⟩ := ash
    have asa := by
      refine' GB.ajl KX G ?aC ?a0 ?i0 ?l0 ?c0 ?k0 ?a1 ?i1 ?l1 ?c1 ?k1 ?a2 ?i2 ?l2 ?c2 ?k2 ?a3 ?i3 ?l3 ?c3 ?k3 ?a4 ?i4 ?l4 ?c4 ?k4 ?a5 ?i5 ?l5 ?c5 ?k5 ?a6 ?i6 ?l6 ?c6 ?k6 ?a7 ?i7 ?l7 ?c7 ?k7 ?a8 ?i8 ?l8 ?c8 ?k8 ?a9 ?i9 ?l9 ?c9 ?k9 ?a10 ?i10 ?l10 ?c10 ?k10 ?a11 ?i11 ?l11 ?c11 ?k11 ?a12 ?i12 ?l12 ?c12 ?k12 ?a13 ?i13 ?l13 ?c13 ?k13 ?a14 ?i14 ?l14 ?c14 ?k14 ?a15 ?i15 ?l15 ?c15 ?k15 ?a16 ?i16 ?l16 ?c16 ?k16 ?a17 ?i17 ?l17 ?c17 ?k17 ?a18 ?i18 ?l18 ?c18 ?k18 ?a19 ?i19 ?l19 ?c19 ?k19 ?pg ?hd ?po ?sa ?mk ?kc ?n_gauges ?n_events ?n_lost
      (case aC => k_is); (case a0 => k_is); (case i0 => k_is); (case l0 => k_is); (case c0 => k_is); (case k0 => k_is); (case a1 => k_is); (case i1 => k_is); (case l1 => k_is); (case c1 => k_is); (case k1 => k_is); (case a2 => k_is); (case i2 => k_is); (case l2 => k_is); (case c2 => k_is); (case k2 => k_is); (case a3 => k_is); (case i3 => k_is); (case l3 => k_is); (case c3 => k_is); (case k3 => k_is); (case a4 => k_is); (case i4 => k_is); (case l4 => k_is); (case c4 => k_is); (case k4 => k_is); (case a5 => k_is); (case i5 => k_is); (case l5 => k_is); (case c5 => k_is); (case k5 => k_is); (case a6 => k_is); (case i6 => k_is); (case l6 => k_is); (case c6 => k_is); (case k6 => k_is); (case a7 => k_is); (case i7 => k_is); (case l7 => k_is); (case c7 => k_is); (case k7 => k_is); (case a8 => k_is); (case i8 => k_is); (case l8 => k_is); (case c8 => k_is); (case k8 => k_is); (case a9 => k_is); (case i9 => k_is); (case l9 => k_is); (case c9 => k_is); (case k9 => k_is); (case a10 => k_is); (case i10 => k_is); (case l10 => k_is); (case c10 => k_is); (case k10 => k_is); (case a11 => k_is); (case i11 => k_is); (case l11 => k_is); (case c11 => k_is); (case k11 => k_is); (case a12 => k_is); (case i12 => k_is); (case l12 => k_is); (case c12 => k_is); (case k12 => k_is); (case a13 => k_is); (case i13 => k_is); (case l13 => k_is); (case c13 => k_is); (case k13 => k_is); (case a14 => k_is); (case i14 => k_is); (case l14 => k_is); (case c14 => k_is); (case k14 => k_is); (case a15 => k_is); (case i15 => k_is); (case l15 => k_is); (case c15 => k_is); (case k15 => k_is); (case a16 => k_is); (case i16 => k_is); (case l16 => k_is); (case c16 => k_is); (case k16 => k_is); (case a17 => k_is); (case i17 => k_is); (case l17 => k_is); (case c17 => k_is); (case k17 => k_is); (case a18 => k_is); (case i18 => k_is); (case l18 => k_is); (case c18 => k_is); (case k18 => k_is); (case a19 => k_is); (case i19 => k_is); (case l19 => k_is); (case c19 => k_is); (case k19 => k_is); (case pg => k_is); (case hd => k_is); (case po => k_is); (case sa => k_is); (case mk => k_is); (case kc => k_is); (case n_gauges => k_is); (case n_events => k_is); (case n_lost => k_is)
    obtain ⟨ah, pi, b5, qe, gg, iq, bv, ej, la, ir, jz, lj, ju, ig, fw, fv, gi, jn, il, jw, io, p9, bw, pz, gf, iu, bu, eq, lh, im, jl, lx, jq, ib, fi, fj, gj, js, ii, jr, ip, ael, ab, ab1, aj, dg, pf, sv, dr, bp, tp, sy, j7, kf, li, pq, dt, dw, jb, mh, om, uc, kt, qc, m3, qy, o3, tz, m6, rb, ld, pd, j3, ny, ka, n9, j6, og, m4, qt, ly, qi, mx, qx, ma, pp⟩ := asa
    have aq2 := by
      refine' GB.aid KX G ?e ?l ?l0 ?l1 ?l2 ?l3 ?l4 ?l5 ?l6 ?l7 ?l8 ?l9 ?l10 ?l11 ?l12 ?l13
      (case e => k_is); (case l => k_is); (case l0 => k_is); (case l1 => k_is); (case l2 => k_is); (case l3 => k_is); (case l4 => k_is); (case l5 => k_is); (case l6 => k_is); (case l7 => k_is); (case l8 => k_is); (case l9 => k_is); (case l10 => k_is); (case l11 => k_is); (case l12 => k_is); (case l13 => k_is)
    obtain ⟨zo, aef, aeh⟩ := aq2
    have wc := by
      refine' GB.fh (name := "STEP") (z := 1074) KX G ?e
      (case e => k_is)
    have ql := by
      refine' GB.fh (name := "SINGLE_STEP") (z := 149) KX G ?e
      (case e => k_is)
    have jj := by
      refine' GB.fh (name := "DOUBLE_DIGITS") (z := 53) KX G ?e
      (case e => k_is)
    have mw := by
      refine' GB.fh (name := "SINGLE_DIGITS") (z := 24) KX G ?e
      (case e => k_is)
    have mn := by
      refine' GB.fh (name := "SMALLEST_MEASURE") (z := 963) KX G ?e
      (case e => k_is)
    have n8 := by
      refine' GB.fh (name := "BEYOND_MEASURES") (z := 1083) KX G ?e
      (case e => k_is)
    have ra := by
      refine' GB.fh (name := "BEYOND_POINTS") (z := 1148) KX G ?e
      (case e => k_is)
    have adv := by
      refine' GB.fh (name := "STATES") (z := 5) KX G ?e
      (case e => k_is)
    have ae7 := by
      refine' GB.fh (name := "FINE") (z := 2) KX G ?e
      (case e => k_is)
    have lv := by
      refine' GB.fh (name := "TRACE_LENGTH") (z := 256) KX G ?e
      (case e => k_is)
    have acb := by
      refine' GB.fh (name := "PARTS") (z := 4) KX G ?e
      (case e => k_is)
    have abh := by
      refine' GB.fh (name := "GAUGES") (z := 64) KX G ?e
      (case e => k_is)
    have qz := by
      refine' GB.fh (name := "LONGEST_FRAME") (z := 1024) KX G ?e
      (case e => k_is)
    have qr := by
      refine' GB.fh (name := "MOST_EVENTS") (z := 256) KX G ?e
      (case e => k_is)
    have yh := by
      refine' GB.fh (name := "DIAL_KIND") (z := 4) KX G ?e
      (case e => k_is)
    have yt := by
      refine' GB.fh (name := "NO_DOUBLE") (z := 9221120237041090560) KX G ?e
      (case e => k_is)
    have yi := by
      refine' GB.fh (name := "NO_SINGLE") (z := 2143289344) KX G ?e
      (case e => k_is)
    have alx := by
      refine' PySem.W.mg_none_of (n := "abs") KX G ?e
      (case e => k_is)
    have aej := by
      refine' PySem.W.mg_none_of (n := "max") KX G ?e
      (case e => k_is)
    have ah2 := by
      refine' PySem.W.mg_none_of (n := "min") KX G ?e
      (case e => k_is)
    have zr := by
      refine' PySem.W.mg_none_of (n := "len") KX G ?e
      (case e => k_is)
    have yn := by
      refine' PySem.W.mg_none_of (n := "range") KX G ?e
      (case e => k_is)
    have afu := by
      refine' PySem.W.mg_none_of (n := "all") KX G ?e
      (case e => k_is)
    have aes := by
      refine' PySem.W.mg_none_of (n := "list") KX G ?e
      (case e => k_is)
    have xw := by
      refine' PySem.W.mg_none_of (n := "reversed") KX G ?e
      (case e => k_is)
    have am8 := by
      refine' PySem.W.mg_none_of (n := "sum") KX G ?e
      (case e => k_is)
    have vp := by
      refine' PySem.W.mg_none_of (n := "enumerate") KX G ?e
      (case e => k_is)
    have T : GB.Txt _ mg { jy := jy, j0 := j0, dn := dn, dh := dh, nq := nq, na := na, dk := dk, dj := dj, nb := nb, m7 := m7, cn := cn, cw := cw, wv := wv, w9 := w9, gc := gc, fx := fx, ut := ut, ul := ul, ll := ll, ky := ky, xa := xa, w6 := w6, nc := nc, ni := ni, m8 := m8, nk := nk, ij := ij, ie := ie, vd := vd, uq := uq, pc := pc, pj := pj, vk := vk, uw := uw, wz := wz, w8 := w8, o9 := o9, ph := ph, uy := uy, uv := uv, jt := jt, jv := jv, sh := sh, rm := rm, qd := qd, pk := pk, ae8 := ae8, afn := afn, si := si, sf := sf, vi := vi, uu := uu, afc := afc, ae4 := ae4, lm := lm, lu := lu, jk := jk, jo := jo, nj := nj, nh := nh, gh := gh, fo := fo, md := md, lf := lf, acd := acd, ab5 := ab5, rk := rk, sd := sd, ww := ww, wy := wy, rq := rq, r0 := r0, vj := vj, vg := vg, ug := ug, um := um, aet := aet, aeu := aeu, xh := xh, xb := xb, se := se, r8 := r8, zx := zx, z1 := z1, xg := xg, vc := vc, fq := fq, gl := gl, bq := bq, b3 := b3, az := az, ay := ay, bt := bt, b4 := b4, bh := bh, bf := bf, px := px, p5 := p5, lw := lw, lg := lg, fy := fy, fz := fz, ck := ck, cb := cb, lc := lc, me := me, cq := cq, cu := cu, p4 := p4, p6 := p6, dy := dy, eg := eg, pi := pi, p9 := p9, b5 := b5, bw := bw, qe := qe, pz := pz, gg := gg, gf := gf, iq := iq, iu := iu, bv := bv, bu := bu, ej := ej, eq := eq, la := la, lh := lh, ir := ir, im := im, jz := jz, jl := jl, lj := lj, lx := lx, ju := ju, jq := jq, ig := ig, ib := ib, fw := fw, fi := fi, fv := fv, fj := fj, gi := gi, gj := gj, jn := jn, js := js, il := il, ii := ii, jw := jw, jr := jr, io := io, ip := ip, ad := ad, ac := ac, ah := ah, zo := zo } := { gu := gu, wj := gu.binds (ps := ["top", "below"]) (fun _ _ _ _ _ _ us hl => match us, hl with | [_, _], _ => rfl), bc := bc, kr := bc.binds (ps := ["top", "below", "digits"]) (fun _ _ _ _ _ _ us hl => match us, hl with | [_, _, _], _ => rfl), al := al, aw := al.binds (ps := ["top", "below"]) (fun _ _ _ _ _ _ us hl => match us, hl with | [_, _], _ => rfl), di := di, wl := di.binds (ps := ["number"]) (fun _ _ _ _ _ _ us hl => match us, hl with | [_], _ => rfl), km := km, zc := km.binds (ps := ["steps"]) (fun _ _ _ _ _ _ us hl => match us, hl with | [_], _ => rfl), cc := cc, vw := cc.binds (ps := ["single"]) (fun _ _ _ _ _ _ us hl => match us, hl with | [_], _ => rfl), xi := xi, aja := xi.binds (ps := ["first", "second"]) (fun _ _ _ _ _ _ us hl => match us, hl with | [_, _], _ => rfl), cz := cz, tf := cz.binds (ps := ["first", "second", "third"]) (fun _ _ _ _ _ _ us hl => match us, hl with | [_, _, _], _ => rfl), va := va, ag3 := va.binds (ps := ["first", "second"]) (fun _ _ _ _ _ _ us hl => match us, hl with | [_, _], _ => rfl), iw := iw, xl := iw.binds (ps := ["steps"]) (fun _ _ _ _ _ _ us hl => match us, hl with | [_], _ => rfl), vh := vh, aeq := vh.binds (ps := ["steps", "digits", "width"]) (fun _ _ _ _ _ _ us hl => match us, hl with | [_, _, _], _ => rfl), b6 := b6, kl := b6.binds (ps := ["steps"]) (fun _ _ _ _ _ _ us hl => match us, hl with | [_], _ => rfl), kj := kj, zb := kj.binds (ps := ["steps"]) (fun _ _ _ _ _ _ us hl => match us, hl with | [_], _ => rfl), cx := cx, p8 := cx.binds (ps := ["bits"]) (fun _ _ _ _ _ _ us hl => match us, hl with | [_], _ => rfl), o4 := o4, aaj := o4.binds (ps := ["bits"]) (fun _ _ _ _ _ _ us hl => match us, hl with | [_], _ => rfl), qg := qg, adq := qg.binds (ps := ["bits"]) (fun _ _ _ _ _ _ us hl => match us, hl with | [_], _ => rfl), rh := rh, ac8 := rh.binds (ps := ["bits"]) (fun _ _ _ _ _ _ us hl => match us, hl with | [_], _ => rfl), xc := xc, aiz := xc.binds (ps := ["kind"]) (fun _ _ _ _ _ _ us hl => match us, hl with | [_], _ => rfl), bj := bj, g5 := bj.binds (ps := ["kind"]) (fun _ _ _ _ _ _ us hl => match us, hl with | [_], _ => rfl), ux := ux, ahe := ux.binds (ps := ["kind"]) (fun _ _ _ _ _ _ us hl => match us, hl with | [_], _ => rfl), gy := gy, wa := gy.binds (ps := ["kind"]) (fun _ _ _ _ _ _ us hl => match us, hl with | [_], _ => rfl), o7 := o7, abd := o7.binds (ps := ["kind"]) (fun _ _ _ _ _ _ us hl => match us, hl with | [_], _ => rfl), ml := ml, z6 := ml.binds (ps := ["kind"]) (fun _ _ _ _ _ _ us hl => match us, hl with | [_], _ => rfl), abx := abx, aj0 := abx.binds (ps := ["number", "kind"]) (fun _ _ _ _ _ _ us hl => match us, hl with | [_, _], _ => rfl), rn := rn, afp := rn.binds (ps := ["frame", "place", "kind"]) (fun _ _ _ _ _ _ us hl => match us, hl with | [_, _, _], _ => rfl), ve := ve, ahb := ve.binds (ps := ["number", "kind"]) (fun _ _ _ _ _ _ us hl => match us, hl with | [_, _], _ => rfl), abl := abl, aj5 := abl.binds (ps := ["value", "limits"]) (fun _ _ _ _ _ _ us hl => match us, hl with | [_, _], _ => rfl), kx := kx, abj := kx.binds (ps := ["limits", "slack"]) (fun _ _ _ _ _ _ us hl => match us, hl with | [_, _], _ => rfl), jm := jm, aay := jm.binds (ps := ["limits", "slack"]) (fun _ _ _ _ _ _ us hl => match us, hl with | [_, _], _ => rfl), m9 := m9, acs := m9.binds (ps := ["state", "value", "limits", "slack"]) (fun _ _ _ _ _ _ us hl => match us, hl with | [_, _, _, _], _ => rfl), fm := fm, yo := fm.binds (ps := ["limits"]) (fun _ _ _ _ _ _ us hl => match us, hl with | [_], _ => rfl), le := le, ab2 := le.binds (ps := ["how"]) (fun _ _ _ _ _ _ us hl => match us, hl with | [_], _ => rfl), wt := wt, adn := wt.binds (ps := ["first", "second"]) (fun _ _ _ _ _ _ us hl => match us, hl with | [_, _], _ => rfl), oq := oq, aby := oq.binds (ps := ["parts"]) (fun _ _ _ _ _ _ us hl => match us, hl with | [_], _ => rfl), xk := xk, ajb := xk.binds (ps := ["numbers"]) (fun _ _ _ _ _ _ us hl => match us, hl with | [_], _ => rfl), ke := ke, vx := ke.binds (ps := ["which"]) (fun _ _ _ _ _ _ us hl => match us, hl with | [_], _ => rfl), mo := mo, x6 := mo.binds (ps := ["g"]) (fun _ _ _ _ _ _ us hl => match us, hl with | [_], _ => rfl), rj := rj, adh := rj.binds (ps := ["numbers"]) (fun _ _ _ _ _ _ us hl => match us, hl with | [_], _ => rfl), aex := aex, aqg := aex.binds (ps := ["gauge", "form"]) (fun _ _ _ _ _ _ us hl => match us, hl with | [_, _], _ => rfl), vf := vf, aew := vf.binds (ps := ["gauges", "numbers"]) (fun _ _ _ _ _ _ us hl => match us, hl with | [_, _], _ => rfl), o5 := o5, abn := o5.binds (ps := ["gauge", "y"]) (fun _ _ _ _ _ _ us hl => match us, hl with | [_, _], _ => rfl), zj := zj, akx := zj.binds (ps := ["board", "number", "parts"]) (fun _ _ _ _ _ _ us hl => match us, hl with | [_, _, _], _ => rfl), xf := xf, aob := xf.binds (ps := ["calls"]) (fun _ _ _ _ _ _ us hl => match us, hl with | [_], _ => rfl), j9 := j9, yw := j9.binds (ps := ["self", "calls"]) (fun _ _ _ _ _ _ us hl => match us, hl with | [_, _], _ => rfl), dv := dv, ud := dv.binds (ps := ["self"]) (fun _ _ _ _ _ _ us hl => match us, hl with | [_], _ => rfl), b7 := b7, fc := b7.binds (ps := ["self"]) (fun _ _ _ _ _ _ us hl => match us, hl with | [_], _ => rfl), du := du, ue := du.binds (ps := ["self"]) (fun _ _ _ _ _ _ us hl => match us, hl with | [_], _ => rfl), cv := cv, r9 := cv.binds (ps := ["self", "number"]) (fun _ _ _ _ _ _ us hl => match us, hl with | [_, _], _ => rfl), sr := sr, aei := sr.binds (ps := ["self", "kind", "place", "how"]) (fun _ _ _ _ _ _ us hl => match us, hl with | [_, _, _, _], _ => rfl), oy := oy, xt := oy.binds (ps := ["self"]) (fun _ _ _ _ _ _ us hl => match us, hl with | [_], _ => rfl), kb := kb, yl := kb.binds (ps := ["self"]) (fun _ _ _ _ _ _ us hl => match us, hl with | [_], _ => rfl), fg := fg, vv := fg.binds (ps := ["self", "number"]) (fun _ _ _ _ _ _ us hl => match us, hl with | [_, _], _ => rfl), oz := oz, abo := oz.binds (ps := ["self", "value"]) (fun _ _ _ _ _ _ us hl => match us, hl with | [_, _], _ => rfl), ff := ff, vt := ff.binds (ps := ["self", "single"]) (fun _ _ _ _ _ _ us hl => match us, hl with | [_, _], _ => rfl), s0 := s0, ad0 := s0.binds (ps := ["self"]) (fun _ _ _ _ _ _ us hl => match us, hl with | [_], _ => rfl), jc := jc, xq := jc.binds (ps := ["self", "value"]) (fun _ _ _ _ _ _ us hl => match us, hl with | [_, _], _ => rfl), sv := sv, aai := sv.binds (ps := ["self"]) (fun _ _ _ _ _ _ us hl => match us, hl with | [_], _ => rfl), dr := dr, jf := dr.binds (ps := ["self", "which"]) (fun _ _ _ _ _ _ us hl => match us, hl with | [_, _], _ => rfl), tp := tp, aas := tp.binds (ps := ["self", "g", "length"]) (fun _ _ _ _ _ _ us hl => match us, hl with | [_, _, _], _ => rfl), j7 := j7, tu := j7.binds (ps := ["self", "g"]) (fun _ _ _ _ _ _ us hl => match us, hl with | [_, _], _ => rfl), li := li, zk := li.binds (ps := ["self", "state"]) (fun _ _ _ _ _ _ us hl => match us, hl with | [_, _], _ => rfl), dt := dt, nu := dt.binds (ps := ["self", "g", "n"]) (fun _ _ _ _ _ _ us hl => match us, hl with | [_, _, _], _ => rfl), jb := jb, xp := jb.binds (ps := ["self", "event"]) (fun _ _ _ _ _ _ us hl => match us, hl with | [_, _], _ => rfl), om := om, abw := om.binds (ps := ["self", "g", "kind", "place", "how"]) (fun _ _ _ _ _ _ us hl => match us, hl with | [_, _, _, _, _], _ => rfl), kt := kt, zu := kt.binds (ps := ["self", "which", "time", "frame"]) (fun _ _ _ _ _ _ us hl => match us, hl with | [_, _, _, _], _ => rfl), m3 := m3, aa0 := m3.binds (ps := ["self", "which", "form"]) (fun _ _ _ _ _ _ us hl => match us, hl with | [_, _, _], _ => rfl), o3 := o3, abe := o3.binds (ps := ["self", "which", "form"]) (fun _ _ _ _ _ _ us hl => match us, hl with | [_, _, _], _ => rfl), m6 := m6, aaz := m6.binds (ps := ["self", "which"]) (fun _ _ _ _ _ _ us hl => match us, hl with | [_, _], _ => rfl), ld := ld, zd := ld.binds (ps := ["self", "g", "y"]) (fun _ _ _ _ _ _ us hl => match us, hl with | [_, _, _], _ => rfl), j3 := j3, yg := j3.binds (ps := ["self", "which", "y", "frame"]) (fun _ _ _ _ _ _ us hl => match us, hl with | [_, _, _, _], _ => rfl), ka := ka, yr := ka.binds (ps := ["self"]) (fun _ _ _ _ _ _ us hl => match us, hl with | [_], _ => rfl), j6 := j6, yq := j6.binds (ps := ["self", "most"]) (fun _ _ _ _ _ _ us hl => match us, hl with | [_, _], _ => rfl), m4 := m4, aax := m4.binds (ps := ["self"]) (fun _ _ _ _ _ _ us hl => match us, hl with | [_], _ => rfl), ly := ly, ze := ly.binds (ps := ["self", "g", "n"]) (fun _ _ _ _ _ _ us hl => match us, hl with | [_, _, _], _ => rfl), mx := mx, aav := mx.binds (ps := ["self", "g", "n"]) (fun _ _ _ _ _ _ us hl => match us, hl with | [_, _, _], _ => rfl), ma := ma, zz := ma.binds (ps := ["self", "which"]) (fun _ _ _ _ _ _ us hl => match us, hl with | [_, _], _ => rfl), my := my, dl := dl, ao := ao, kq := kq, qm := qm, j8 := j8, acg := acg, j5 := j5, aam := aam, o1 := o1, zi := zi, fb := fb, qp := qp, ik := ik, uz := uz, wq := wq, x8 := x8, aci := aci, de := de, aap := aap, m5 := m5, vq := vq, sq := sq, afb := afb, ye := ye, aab := aab, ae9 := ae9, tj := tj, rc := rc, vn := vn, nz := nz, ub := ub, aad := aad, vo := vo, ace := ace, ot := ot, rf := rf, xn := xn, akb := akb, zp := zp, vz := vz, aem := aem, ach := ach, jg := jg, ba := ba, je := je, gm := gm, o0 := o0, n6 := n6, j1 := j1, ss := ss, kd := kd, wr := wr, mq := mq, bp := bp, sy := sy, kf := kf, pq := pq, dw := dw, mh := mh, uc := uc, qc := qc, qy := qy, tz := tz, rb := rb, pd := pd, ny := ny, n9 := n9, og := og, qt := qt, qi := qi, qx := qx, pp := pp, ak := ak, vm := vm, wo := wo, ca := ca, b9 := b9, aa := aa, aep := aep, agp := agp, g6 := g6, ko := ko, ki := ki, lb := lb, on := on, oj := oj, qo := qo, ja := ja, iy := iy, be := be, dm := dm, ia := ia, cg := cg, g9 := g9, cj := cj, kh := kh, cy := cy, ab := ab, ab1 := ab1, ael := ael, aj := aj, dg := dg, pf := pf, aef := aef, aeh := aeh, wc := wc, ql := ql, jj := jj, mw := mw, mn := mn, n8 := n8, ra := ra, adv := adv, ae7 := ae7, lv := lv, acb := acb, abh := abh, qz := qz, qr := qr, yh := yh, yt := yt, yi := yi, alx := alx, aej := aej, ah2 := ah2, zr := zr, yn := yn, afu := afu, aes := aes, xw := xw, am8 := am8, vp := vp }
    have e0 := hmg.symm.trans ach
    cases e0
    exact ⟨vc, fun s u => GB.at8 xf s u, fun base _ _ => GB.am0 T⟩
