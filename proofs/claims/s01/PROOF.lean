import PyProof.Rows.All
import Wide.All
import OpenK.AllK
import Wide.FinOn
import PyProof.EqAt
import PyProof.EqKinds
import PyProof.TupleCall
import KE.BitLaws
import Open.SpecLaws
import KE.OsHead
import KE.OsGo
import PyHs07
import PySem.Challenge.RW_coinpictures_s01_answers
set_option Elab.async false
set_option linter.all false
set_option maxRecDepth 100000
namespace L2
open PySem PySem.Spec PyProof.Rows
abbrev Key := Sum Int Str
def keyIs : Key → Value → Bool
  | .inl k, v => Value.isInt k v
  | .inr x, v => Value.isStrOf x v
def keyH (w : World) : Key → Int
  | .inl k => hashInt k
  | .inr x => hashStr w x
theorem keyIs_shape : ∀ {k : Key} {v : Value}, keyIs k v = true → (∃ i t, k = Sum.inl i ∧ v = Value.int i t) ∨ (∃ x t, k = Sum.inr x ∧ v = Value.str x t)
  | .inl i, v, h => by
    obtain ⟨t, e⟩ := Value.isInt_shape (k := i) (v := v) h
    exact .inl ⟨i, t, rfl, e⟩
  | .inr x, v, h => by
    obtain ⟨t, e⟩ := Value.isStrOf_shape (x := x) (v := v) h
    exact .inr ⟨x, t, rfl, e⟩
theorem keyIs_int (i : Int) (t : Tok) : keyIs (.inl i) (.int i t) = true := by simp [keyIs, Value.isInt]
theorem keyIs_str (x : Str) (t : Tok) : keyIs (.inr x) (.str x t) = true := by simp [keyIs, Value.isStrOf]
theorem key_ll (a b : Int) : decide ((Sum.inl a : Key) = Sum.inl b) = (a == b) := by
  by_cases e : a = b
  · subst e; simp
  · have h : ¬ (Sum.inl a : Key) = Sum.inl b := fun q => e (Sum.inl.inj q)
    rw [decide_eq_false h]
    exact (beq_eq_false_iff_ne.mpr e).symm
theorem key_rr (a b : Str) : decide ((Sum.inr a : Key) = Sum.inr b) = decide (a = b) := by
  by_cases e : a = b
  · subst e; simp
  · have h : ¬ (Sum.inr a : Key) = Sum.inr b := fun q => e (Sum.inr.inj q)
    rw [decide_eq_false h, decide_eq_false e]
theorem key_lr (a : Int) (b : Str) : decide ((Sum.inl a : Key) = Sum.inr b) = false := decide_eq_false (fun q => nomatch q)
theorem key_rl (a : Str) (b : Int) : decide ((Sum.inr a : Key) = Sum.inl b) = false := decide_eq_false (fun q => nomatch q)
def mixKind (prog : Program) (w : World) : PySem.KeyKind prog w Key where
  is := keyIs
  hash := keyH w
  inj := fun v a b ha hb => by
    rcases keyIs_shape ha with ⟨i, t, rfl, rfl⟩ | ⟨x, t, rfl, rfl⟩
    · rcases keyIs_shape hb with ⟨j, u, rfl, e⟩ | ⟨y, u, rfl, e⟩
      · injection e with e1 _; rw [e1]
      · exact nomatch e
    · rcases keyIs_shape hb with ⟨j, u, rfl, e⟩ | ⟨y, u, rfl, e⟩
      · exact nomatch e
      · injection e with e1 _; rw [e1]
  byValue := fun k v h => by
    rcases keyIs_shape h with ⟨i, t, rfl, rfl⟩ | ⟨x, t, rfl, rfl⟩ <;> rfl
  pyHash := fun hv h => by
    rcases keyIs_shape hv with ⟨i, t, rfl, rfl⟩ | ⟨x, t, rfl, rfl⟩
    · exact wpAny_pyHash_int h
    · exact wpAny_pyHash_str h
  eqBool := fun hu hv h => by
    rcases keyIs_shape hu with ⟨i, t, rfl, rfl⟩ | ⟨x, t, rfl, rfl⟩
    · rcases keyIs_shape hv with ⟨j, u, rfl, rfl⟩ | ⟨y, u, rfl, rfl⟩
      · rw [key_ll] at h; exact wpAny_eqBool_int h
      · rw [key_lr] at h; exact SeqAt.EqAt.int_str i t y u _ _ _ _ h
    · rcases keyIs_shape hv with ⟨j, u, rfl, rfl⟩ | ⟨y, u, rfl, rfl⟩
      · rw [key_rl] at h; exact SeqAt.EqAt.str_int x t j u _ _ _ _ h
      · rw [key_rr] at h; exact wpAny_eqBool_str h
  «strs» := fun k x t v h => by
    rcases keyIs_shape h with ⟨i, u, rfl, e⟩ | ⟨y, u, rfl, e⟩
    · exact nomatch e
    · injection e with e1 _
      subst e1
      cases v <;> rfl
theorem mixKind_int (prog : Program) (w : World) (i : Int) (t : Tok) : (mixKind prog w).is (.inl i) (.int i t) = true := keyIs_int i t
theorem mixKind_str (prog : Program) (w : World) (x : Str) (t : Tok) : (mixKind prog w).is (.inr x) (.str x t) = true := keyIs_str x t
end L2
namespace L2
open PySem PySem.Spec PyProof.Rows
inductive V where
  | non | bl (b : Bool) | int (i : Int) | str (x : Str) | byt (b : Array UInt8) | flt (b : UInt64) | ref (a : Addr) | ty (n : String)
  deriving DecidableEq
def RelV : V → Value → Prop
  | .non, u => u = Value.none
  | .bl b, u => u = Value.bool b
  | .int i, u => ∃ t, u = Value.int i t
  | .str x, u => ∃ t, u = Value.str x t
  | .byt b, u => ∃ t, u = Value.bytes b t
  | .flt b, u => ∃ t, u = Value.float b t
  | .ref a, u => u = Value.ref a
  | .ty n, u => u = Value.type n
abbrev Vals : List V → List Value → Prop := Paired RelV
theorem Vals.length {xs : List V} {us : List Value} (r : Vals xs us) : xs.length = us.length := Paired.length r
theorem Vals.get : ∀ {xs : List V} {us : List Value} {i : Nat} {x : V}, Vals xs us → xs[i]? = some x → ∃ u, us[i]? = some u ∧ RelV x u
  | _, _, _, _, .nil, e => by simp at e
  | _, _, 0, _, .cons r _, e => by simp at e; subst e; exact ⟨_, rfl, r⟩
  | _, _, i + 1, x, .cons _ t, e => by
    obtain ⟨u, h1, h2⟩ := Vals.get (i := i) (x := x) t (by simpa using e)
    exact ⟨u, by simpa using h1, h2⟩
theorem Vals.set {x : V} {u : Value} (r : RelV x u) : ∀ {xs : List V} {us : List Value} (i : Nat), Vals xs us → Vals (xs.set i x) (us.set i u)
  | _, _, _, .nil => .nil
  | _, _, 0, .cons _ t => .cons r t
  | _, _, i + 1, .cons q t => .cons q (Vals.set r i t)
theorem Vals.append : ∀ {xs ys : List V} {us ws : List Value}, Vals xs us → Vals ys ws → Vals (xs ++ ys) (us ++ ws)
  | _, _, _, _, .nil, s => s
  | _, _, _, _, .cons r t, s => .cons r (Vals.append t s)
theorem Vals.take : ∀ {xs : List V} {us : List Value} (n : Nat), Vals xs us → Vals (xs.take n) (us.take n)
  | _, _, 0, _ => .nil
  | _, _, _ + 1, .nil => .nil
  | _, _, n + 1, .cons r t => .cons r (Vals.take n t)
theorem Vals.drop : ∀ {xs : List V} {us : List Value} (n : Nat), Vals xs us → Vals (xs.drop n) (us.drop n)
  | _, _, 0, r => r
  | _, _, _ + 1, .nil => .nil
  | _, _, n + 1, .cons _ t => Vals.drop n t
theorem Vals.none_of : ∀ {xs : List V} {us : List Value} {i : Nat}, Vals xs us → xs[i]? = none → us[i]? = none := fun {xs us i} r e => by
  have h1 := r.length
  have h2 : xs.length ≤ i := List.getElem?_eq_none_iff.mp e
  exact List.getElem?_eq_none_iff.mpr (by omega)
def RelO : Option V → Option Value → Prop
  | some v, some u => RelV v u
  | none, none => True
  | _, _ => False
def KV {κ : Type} : List (κ × V) → List (κ × Value) → Prop := Paired fun (p : κ × V) (q : κ × Value) => p.1 = q.1 ∧ RelV p.2 q.2
def kV : Key → V
  | .inl i => .int i
  | .inr x => .str x
inductive HO where
  | lst (xs : List V)
  | tup (xs : List V)
  | dK (kvs : List (Key × V)) | dT (kvs : List (List Key × V))
  | set (S : Int → Bool) (n : Nat)
  | ins (C dx : Addr) (fs : List (Str × V))
  | own (x : Addr)
  | xd (fs : List (Str × V))
  | met (f x : Addr)
  | rng (lo hi : Int)
  | frz (o : Obj) (u : HO)
  | tbl (ps : Array Value)
  | ext (φ : Heap → Prop)
abbrev Hp := Addr → Option HO
def upd (H : Hp) (a : Addr) (o : HO) : Hp := fun b => if b = a then some o else H b
theorem upd_same {H : Hp} {a : Addr} {o : HO} : upd H a o a = some o := by unfold upd; rw [if_pos rfl]
theorem upd_ne {H : Hp} {a b : Addr} {o : HO} (h : b ≠ a) : upd H a o b = H b := by unfold upd; rw [if_neg h]
theorem upd_upd {H : Hp} {a : Addr} {o u : HO} : upd (upd H a o) a u = upd H a u := by
  funext b; unfold upd; split <;> rfl
theorem ne_of {H : Hp} {a b : Addr} {o u : HO} (h : H a = some o) (h' : H b = some u) (d : o ≠ u) : a ≠ b := by
  intro e; subst e; rw [h] at h'; exact d (Option.some.inj h')
theorem ne_of_none {H : Hp} {a b : Addr} {o : HO} (h : H a = some o) (h' : H b = none) : a ≠ b := by
  intro e; subst e; rw [h] at h'; cases h'
section
variable (P : Program) (w : World)
def ObjOk (H : Hp) (h : Heap) (a : Addr) : HO → Prop
  | .lst xs => xs.length ≤ sizeLine ∧ ∃ (its : List Value) (n : Nat), Vals xs its ∧ h.get? a = some { cls := .type "list", data := .seq its.toArray n }
  | .tup xs => xs.length ≤ sizeLine ∧ ∃ its : List Value, Vals xs its ∧ IsTup h a its.toArray
  | .dK kvs => kvs.length ≤ sizeLine ∧ (a == sysModules) = false ∧ ∃ vs, KV kvs vs ∧ h.DictOf (mixKind P w) a vs
  | .dT kvs => kvs.length ≤ sizeLine ∧ (a == sysModules) = false ∧ ∃ xs : List (List Key × Addr × Value),
      Paired (fun (p : List Key × V) (q : List Key × Addr × Value) => p.1 = q.1 ∧ H q.2.1 = some (.tup (p.1.map kV)) ∧ RelV p.2 q.2.2) kvs xs ∧
      ∃ o es ep, h.get? a = some o ∧ o.ExactDict ∧ o.data = .dict es ep ∧ es.toList = xs.map (entryOfKey (tupleKind (mixKind P w))) ∧ (xs.map (·.1)).Nodup
  | .set S n => h.SetOf (intKind P w) a S n
  | .ins C dx fs => H dx = some (.own a) ∧ fs.length ≤ 1000 ∧ dx ≠ a ∧ h.get? a = some (PySem.W.instObj C dx) ∧
      ∃ mA, h.Ns1 dx mA ∧ (∀ f, RelO (fs.lookup f) (mA f)) ∧ PySem.Within mA (fs.map (·.1))
  | .own _ => ∃ o, h.get? a = some o
  | .xd fs => ∃ mA, h.Ns1 a mA ∧ ∀ f, RelO (fs.lookup f) (mA f)
  | .rng lo hi => ∃ t u v, h.get? a = some { cls := .type "range", data := .fields #[.int lo t, .int hi u, .int 1 v] }
  | .frz o u => h.get? a = some o ∧ ObjOk H h a u
  | .tbl ps => h.get? a = some { cls := .none, data := .fields ps }
  | .met f x => h.get? a = some (PySem.W.methodObj (.ref f) (.ref x))
  | .ext φ => φ h ∧ (∃ o, h.get? a = some o) ∧ ∀ h1 h2 : Heap, φ h1 → (∀ o, h1.get? a = some o → h2.get? a = some o) → φ h2
def HOk (H : Hp) (h : Heap) : Prop := ∀ a o, H a = some o → ObjOk P w H h a o
end
section
variable {P : Program} {w : World} {H H' : Hp} {h h' : Heap} {a : Addr} {o : HO}
theorem ObjOk.lt (x : ObjOk P w H h a o) : a < h.objs.size := by
  cases o with
  | lst xs => obtain ⟨_, _, _, _, e⟩ := x; exact Heap.lt_size e
  | tup xs => obtain ⟨_, _, _, p⟩ := x; exact p.lt
  | dK kvs => obtain ⟨_, _, _, _, o, _, _, e, _⟩ := x; exact Heap.lt_size e
  | dT kvs => obtain ⟨_, _, _, _, o, _, _, e, _⟩ := x; exact Heap.lt_size e
  | set S n => obtain ⟨o, _, _, _, e, _⟩ := x; exact Heap.lt_size e
  | ins C dx fs => obtain ⟨_, _, _, e, _⟩ := x; exact Heap.lt_size e
  | own y => obtain ⟨_, e⟩ := x; exact Heap.lt_size e
  | xd fs => obtain ⟨_, ⟨_, _, _, e, _⟩, _⟩ := x; exact Heap.lt_size e
  | rng lo hi => obtain ⟨_, _, _, e⟩ := x; exact Heap.lt_size e
  | frz ob u => obtain ⟨e, _⟩ := x; exact Heap.lt_size e
  | tbl ps => exact Heap.lt_size (show h.get? a = some _ from x)
  | met f y => exact Heap.lt_size (show h.get? a = some _ from x)
  | ext φ => obtain ⟨_, ⟨_, e⟩, _⟩ := x; exact Heap.lt_size e
theorem Paired.mapP {α β : Type} {F G : α → β → Prop} : ∀ {l₁ : List α} {l₂ : List β}, Paired F l₁ l₂ → (∀ a b, F a b → G a b) → Paired G l₁ l₂
  | _, _, .nil, _ => .nil
  | _, _, .cons r t, f => .cons (f _ _ r) (Paired.mapP t f)
theorem ObjOk.stay (x : ObjOk P w H h a o) (k : ∀ b u, (b = a ∨ H b = some (.own a)) → h.get? b = some u → h'.get? b = some u)
    (ho : ∀ b, H b = some (.own a) → H' b = some (.own a)) (ht : ∀ b xs, H b = some (.tup xs) → H' b = some (.tup xs)) : ObjOk P w H' h' a o := by
  induction o with
  | lst xs => obtain ⟨z, its, n, r, e⟩ := x; exact ⟨z, its, n, r, k _ _ (.inl rfl) e⟩
  | tup xs => obtain ⟨z, its, r, ob, e, c⟩ := x; exact ⟨z, its, r, ob, k _ _ (.inl rfl) e, c⟩
  | dK kvs => obtain ⟨z, y, vs, r, ob, es, ep, e, c⟩ := x; exact ⟨z, y, vs, r, ob, es, ep, k _ _ (.inl rfl) e, c⟩
  | dT kvs =>
    obtain ⟨z, y, xs, r, ob, es, ep, e, c⟩ := x
    exact ⟨z, y, xs, Paired.mapP r fun p q z => ⟨z.1, ht _ _ z.2.1, z.2.2⟩, ob, es, ep, k _ _ (.inl rfl) e, c⟩
  | set S n => obtain ⟨ob, es, ep, t, e, c⟩ := x; exact ⟨ob, es, ep, t, k _ _ (.inl rfl) e, c⟩
  | ins C dx fs =>
    obtain ⟨d, z, ne, e, mA, ⟨od, es, ep, e2, c⟩, r⟩ := x
    exact ⟨ho _ d, z, ne, k _ _ (.inl rfl) e, mA, ⟨od, es, ep, k _ _ (.inr d) e2, c⟩, r⟩
  | own y => obtain ⟨ob, e⟩ := x; exact ⟨ob, k _ _ (.inl rfl) e⟩
  | xd fs => obtain ⟨mA, ⟨od, es, ep, e, c⟩, r⟩ := x; exact ⟨mA, ⟨od, es, ep, k _ _ (.inl rfl) e, c⟩, r⟩
  | rng lo hi => obtain ⟨t, u, v, e⟩ := x; exact ⟨t, u, v, k _ _ (.inl rfl) e⟩
  | frz ob u ih => obtain ⟨e, q⟩ := x; exact ⟨k _ _ (.inl rfl) e, ih q⟩
  | tbl ps =>
    have e : h.get? a = some { cls := .none, data := .fields ps } := x
    show h'.get? a = some { cls := .none, data := .fields ps }
    exact k a _ (.inl rfl) e
  | met f y =>
    have e : h.get? a = some (PySem.W.methodObj (.ref f) (.ref y)) := x
    show h'.get? a = some (PySem.W.methodObj (.ref f) (.ref y))
    exact k a _ (.inl rfl) e
  | ext φ => obtain ⟨p, ⟨o, e⟩, st⟩ := x; exact ⟨st _ _ p fun o q => k _ _ (.inl rfl) q, ⟨o, k _ _ (.inl rfl) e⟩, st⟩
theorem HOk.lt (x : HOk P w H h) (e : H a = some o) : a < h.objs.size := (x a o e).lt
theorem HOk.fresh (x : HOk P w H h) (e : h.objs.size ≤ a) : H a = none := by
  cases q : H a with
  | none => rfl
  | some u => exact absurd (Nat.lt_of_lt_of_le (x.lt q) e) (Nat.lt_irrefl _)
theorem HOk.kept (x : HOk P w H h) (k : ∀ b u, h.get? b = some u → h'.get? b = some u) : HOk P w H h' := fun a o e =>
  (x a o e).stay (fun b u _ q => k b u q) (fun _ q => q) fun _ _ q => q
theorem HOk.laid (x : HOk P w H h) (k : ∀ b u, h.get? b = some u → h'.get? b = some u) (hp : h.objs.size ≤ a) (new : ObjOk P w (upd H a o) h' a o) : HOk P w (upd H a o) h' := fun b u e => by
  have hn := x.fresh hp
  by_cases hb : b = a
  · subst hb; rw [upd_same] at e; cases e; exact new
  · rw [upd_ne hb] at e
    exact (x b u e).stay (fun c v _ q => k c v q) (fun c q => by rw [upd_ne (ne_of_none q hn)]; exact q) fun c xs q => by rw [upd_ne (ne_of_none q hn)]; exact q
end
def Rd (H : Hp) (a : Addr) (u : HO) : Prop := H a = some u ∨ ∃ o, H a = some (.frz o u)
theorem Rd.of {H : Hp} {a : Addr} {u : HO} (h : H a = some u) : Rd H a u := .inl h
theorem Rd.ok {P : Program} {w : World} {H : Hp} {h : Heap} {a : Addr} {u : HO} (r : Rd H a u) (x : HOk P w H h) : ObjOk P w H h a u := by
  rcases r with r | ⟨o, r⟩
  · exact x a u r
  · obtain ⟨_, q⟩ := x a _ r
    exact q
def Mut : Option HO → Prop
  | some (.lst _) => True
  | some (.dK _) => True
  | some (.dT _) => True
  | some (.set _ _) => True
  | some (.ins _ _ _) => True
  | some (.ext _) => True
  | _ => False
section
variable {P : Program} {w : World} {H : Hp} {h h' : Heap} {x e : Addr} {o' : HO}
theorem HOk.write (ok : HOk P w H h) (mu : Mut (H x)) (he : e = x ∨ H e = some (.own x)) (k : ∀ b u, b ≠ e → h.get? b = some u → h'.get? b = some u) (heo : ∃ u, h'.get? e = some u)
    (new : ObjOk P w (upd H x o') h' x o') : HOk P w (upd H x o') h' := fun b u q => by
  have nown : ∀ c y, H c = some (.own y) → c ≠ x := fun c y r z => by subst z; rw [r] at mu; exact mu
  have ntup : ∀ c xs, H c = some (.tup xs) → c ≠ x := fun c xs r z => by subst z; rw [r] at mu; exact mu
  by_cases hb : b = x
  · subst hb; rw [upd_same] at q; cases q; exact new
  · rw [upd_ne hb] at q
    by_cases hbe : b = e
    · have q' : H b = some (.own x) := by
        rcases he with z | z
        · exact absurd (hbe.trans z) hb
        · rw [hbe]; exact z
      rw [q] at q'; cases q'
      obtain ⟨v, hv⟩ := heo
      exact ⟨v, by rw [hbe]; exact hv⟩
    · refine (ok b u q).stay (fun c v hc r => k c v ?_ r) (fun c r => by rw [upd_ne (nown c b r)]; exact r) fun c xs r => by rw [upd_ne (ntup c xs r)]; exact r
      rcases hc with rfl | hc
      · exact hbe
      · rintro rfl
        rcases he with z | z
        · exact nown c b hc z
        · rw [hc] at z; cases z; exact hb rfl
end
structure Un (fs ex : List Addr) (H H' : Hp) (h h' : Heap) : Prop where
  keep : ∀ b o, h.get? b = some o → H b = none → b ∉ fs → b ∉ ex → h'.get? b = some o
  slot : ∀ b o, h.get? b = some o → H b = none → b ∈ fs → b ∉ ex → ∃ sl, h'.get? b = some { o with slots := sl }
  free : ∀ b o, h.get? b = some o → H b = none → b ∉ ex → H' b = none
  there : ∀ b o, h.get? b = some o → b ∉ ex → ∃ o', h'.get? b = some o'
  tups : ∀ b xs, H b = some (.tup xs) → H' b = some (.tup xs)
  frzs : ∀ b o u, H b = some (.frz o u) → H' b = some (.frz o u)
  tbls : ∀ b ps, H b = some (.tbl ps) → ∃ more, H' b = some (.tbl (ps ++ more))
section
variable {fs fs' ex ex' : List Addr} {H H1 H2 : Hp} {h h1 h2 h' : Heap} {a x e : Addr} {o : HO}
theorem Un.any (u : Un fs ex H H1 h h1) {b : Addr} {ob : Obj} (q : h.get? b = some ob) (n : H b = none) (hx : b ∉ ex) : ∃ sl, h1.get? b = some { ob with slots := sl } := by
  by_cases hb : b ∈ fs
  · exact u.slot b ob q n hb hx
  · exact ⟨ob.slots, u.keep b ob q n hb hx⟩
theorem Un.trans (a : Un fs ex H H1 h h1) (b : Un fs ex H1 H2 h1 h2) : Un fs ex H H2 h h2 where
  keep := fun c ob q n hc hx => b.keep c ob (a.keep c ob q n hc hx) (a.free c ob q n hx) hc hx
  slot := fun c ob q n hc hx => by
    obtain ⟨sl, e1⟩ := a.slot c ob q n hc hx
    obtain ⟨sl', e2⟩ := b.slot c _ e1 (a.free c ob q n hx) hc hx
    exact ⟨sl', e2⟩
  free := fun c ob q n hx => by
    obtain ⟨o', e1⟩ := a.there c ob q hx
    exact b.free c o' e1 (a.free c ob q n hx) hx
  there := fun c ob q hx => by
    obtain ⟨o', e1⟩ := a.there c ob q hx
    exact b.there c o' e1 hx
  tups := fun c xs q => b.tups c xs (a.tups c xs q)
  frzs := fun c ob xs q => b.frzs c ob xs (a.frzs c ob xs q)
  tbls := fun c ps q => by
    obtain ⟨m1, e1⟩ := a.tbls c ps q
    obtain ⟨m2, e2⟩ := b.tbls c _ e1
    exact ⟨m1 ++ m2, by rw [e2, Array.append_assoc]⟩
theorem Un.kept (k : ∀ b u, h.get? b = some u → h'.get? b = some u) : Un fs ex H H h h' :=
  ⟨fun b ob q _ _ _ => k b ob q, fun b ob q _ _ _ => ⟨ob.slots, k b ob q⟩, fun _ _ _ n _ => n, fun b ob q _ => ⟨ob, k b ob q⟩, fun _ _ q => q, fun _ _ _ q => q, fun _ ps q => ⟨#[], by rw [q]; simp⟩⟩
theorem Un.refl : Un fs ex H H h h := Un.kept fun _ _ q => q
theorem Un.laid (k : ∀ b u, h.get? b = some u → h'.get? b = some u) (hp : h.objs.size ≤ a) (hn : H a = none) : Un fs ex H (upd H a o) h h' where
  keep := fun b u q _ _ _ => k b u q
  slot := fun b u q _ _ _ => ⟨u.slots, k b u q⟩
  free := fun b u q n _ => by rw [upd_ne (Nat.ne_of_lt (Nat.lt_of_lt_of_le (Heap.lt_size q) hp))]; exact n
  there := fun b u q _ => ⟨u, k b u q⟩
  tups := fun b xs q => by rw [upd_ne (ne_of_none q hn)]; exact q
  frzs := fun b u xs q => by rw [upd_ne (ne_of_none q hn)]; exact q
  tbls := fun b ps q => ⟨#[], by rw [upd_ne (ne_of_none q hn), q]; simp⟩
theorem Un.write (mu : Mut (H x)) (he : e = x ∨ H e = some (.own x)) (k : ∀ b u, b ≠ e → h.get? b = some u → h'.get? b = some u) (heo : ∃ u, h'.get? e = some u) : Un fs ex H (upd H x o) h h' := by
  have hx : ∀ b, H b = none → b ≠ x := fun b n z => by subst z; rw [n] at mu; exact mu
  have hb : ∀ b, H b = none → b ≠ e := fun b n z => by
    subst z
    rcases he with r | r
    · exact hx b n r
    · rw [n] at r; cases r
  have hm : ∀ b u, H b = some u → ¬ Mut (some u) → b ≠ x := fun b u q nm z => by subst z; rw [q] at mu; exact nm mu
  refine ⟨fun b u q n _ _ => k b u (hb b n) q, fun b u q n _ _ => ⟨u.slots, k b u (hb b n) q⟩, fun b u q n _ => by rw [upd_ne (hx b n)]; exact n, fun b u q _ => ?_,
    fun b xs q => by rw [upd_ne (hm b _ q fun z => z)]; exact q, fun b u xs q => by rw [upd_ne (hm b _ q fun z => z)]; exact q, fun b ps q => ⟨#[], by rw [upd_ne (hm b _ q fun z => z), q]; simp⟩⟩
  by_cases hbe : b = e
  · subst hbe; exact heo
  · exact ⟨u, k b u hbe q⟩
theorem Un.mono (u : Un fs ex H H1 h h1) (hs : ∀ b ∈ fs, b ∈ fs') (hx : ∀ b ∈ ex, b ∈ ex') : Un fs' ex' H H1 h h1 :=
  ⟨fun b ob q n hb he => u.keep b ob q n (fun z => hb (hs b z)) fun z => he (hx b z), fun _ _ q n _ he => u.any q n fun z => he (hx _ z), fun b ob q n he => u.free b ob q n fun z => he (hx b z), fun b ob q he => u.there b ob q fun z => he (hx b z), u.tups, u.frzs, u.tbls⟩
end
def trk (h : Heap) (H : Hp) : List Addr := (List.range h.objs.size).filter fun a => (H a).isSome
def hidT (h : Heap) (H : Hp) : Heap := PySem.W.hideAll h (trk h H)
theorem hidT_size (h : Heap) (H : Hp) : (hidT h H).objs.size = h.objs.size := PySem.W.hideAll_size _ _
theorem hidT_get {h : Heap} {H : Hp} {b : Addr} {o : Obj} (e : h.get? b = some o) (n : H b = none) : (hidT h H).get? b = some o :=
  PySem.W.hideAll_get _ e fun hm => by
    have q : (H b).isSome = true := (List.mem_filter.mp hm).2
    rw [n] at q; simp at q
theorem of_hidT {h : Heap} {H : Hp} {b : Addr} {o : Obj} (e : (hidT h H).get? b = some o) : h.get? b = some o ∧ H b = none := by
  have e' : h.get? b = some o := PySem.W.of_hideAll (trk h H) e
  refine ⟨e', ?_⟩
  cases q : H b with
  | none => rfl
  | some x =>
    have hm : b ∈ trk h H := List.mem_filter.mpr ⟨List.mem_range.mpr (Heap.lt_size e'), by simp [q]⟩
    have z : (hidT h H).get? b = none := PySem.W.hideAll_none (trk h H) hm
    rw [z] at e; cases e
def allNews (g h : Heap) (L : Addr) : List (Addr × Obj) := (List.range h.objs.size).filterMap fun a => if a = L ∨ (g.get? a).isSome = true then none else (h.get? a).map fun o => (a, o)
def rest (g h : Heap) (L d : Addr) : List (Addr × Obj) := (allNews g h L).filter fun p => decide (p.1 ≠ d)
end L2
namespace L2
open PySem PySem.Spec PyProof.Rows
structure Mod (K : PySem.W.Frag) (mg : Str → Option Value) (base : Heap) : Prop where
  kin : K.In base
  glob : base.Ns mainGlobals mg
  blt : ∃ mb, base.Ns builtinsNs mb ∧ ∀ x : Str, x ≠ "__name__" → mb x = bootBuiltins x
  nolimit : base.NoLimit
structure Cx where
  prog : Program
  w : World
  K : PySem.W.Frag
  mg : Str → Option Value
  base : Heap
  A : Around
  N : List Str
  s_0 : Shared
  H_0 : Hp
  env : Env
  outer : List Env
  stack : List Env
  ex : List Addr
  fn : Str → Bool
  calm : Bool
  pn : List (Addr × Obj)
  xe : Value → Shared → Prop
def frs (l : List Env) : List Addr := l.filterMap (·.frame)
abbrev Cx.fs (X : Cx) : List Addr := frs X.outer
def Vis (sc : Scope) (x : Str) : Prop := sc.names.lookup x = some .local ∨ sc.names.lookup x = some .cell ∨ sc.names.lookup x = some .free
def Loc (sc : Scope) (x : Str) : Prop := sc.names.lookup x = some .local ∨ sc.names.lookup x = some .cell
def Look (env : Env) (h : Heap) (m : Str → Option Value) (x : Str) (u : Value) : Prop :=
  (env.kindOf x = some .local ∧ m x = some u) ∨ ((env.kindOf x = some .cell ∨ env.kindOf x = some .free) ∧ ∃ c, env.cells.lookup x = some c ∧ h.IsCell c (some u))
structure Cx.Ok (X : Cx) : Prop where
  mod : Mod X.K X.mg X.base
  kind : X.env.scope.kind = .function
  glob : X.env.globals = mainGlobals
  blt : X.env.builtins = builtinsNs
  above : X.s_0.heap.objs.size ≤ X.env.locals
  inj : ∀ x y c, X.env.cells.lookup x = some c → X.env.cells.lookup y = some c → x = y
  has : ∀ x, (X.env.kindOf x = some .cell ∨ X.env.kindOf x = some .free) → ∃ c, X.env.cells.lookup x = some c
  cab : ∀ x c, X.fn x = true → X.env.cells.lookup x = some c → X.s_0.heap.objs.size ≤ c
  hd : X.calm = true → X.A.handled = none
  frames : X.A.frames = some X.stack
  stk : X.stack = X.outer ∨ (X.stack = X.env :: X.outer ∧ X.env.frame = some X.env.locals)
  exf : ∀ b ∈ X.ex, b ≠ X.env.locals ∧ ∀ x c, X.env.cells.lookup x = some c → c ≠ b
  bs : ∀ b o, X.base.get? b = some o → X.s_0.heap.get? b = some o ∧ X.H_0 b = none
  bsz : X.base.objs.size ≤ X.s_0.heap.objs.size
  noex : ∀ b o, X.base.get? b = some o → b ∉ X.ex
  exfs : ∀ b ∈ X.ex, b ∉ X.fs
  funs : X.s_0.heap.FunFrames X.base X.outer
  frf : ∀ b ∈ X.fs, X.H_0 b = none
structure Inv (X : Cx) (pins : List (Addr × Obj)) (σ : List (Option V)) (H : Hp) (s : Shared) : Prop where
  ok : X.Ok
  os : s.os = X.s_0.os
  bare : AllBare s.gens
  base : Un X.fs X.ex X.H_0 H X.s_0.heap s.heap
  loc : ∃ m, s.heap.Ns X.env.locals m ∧ ∀ (i : Nat) (x : Str) (v : V), X.N[i]? = some x → σ[i]? = some (some v) → Vis X.env.scope x → ∃ u, RelV v u ∧ Look X.env s.heap m x u
  cell : ∀ x c, X.env.cells.lookup x = some c → ∃ v, s.heap.IsCell c v
  free : H X.env.locals = none
  freeC : ∀ x c, X.env.cells.lookup x = some c → H c = none
  pin : ∀ p ∈ X.pn ++ pins, s.heap.get? p.1 = some p.2 ∧ H p.1 = none ∧ p.1 ≠ X.env.locals ∧ p.1 ∉ X.fs ∧ ∀ v, p.2.data ≠ .cell v
  hok : HOk X.prog X.w H s.heap
  len : σ.length = X.N.length
section
variable {X : Cx} {pins : List (Addr × Obj)} {σ : List (Option V)} {H H' : Hp} {s : Shared} {h' : Heap}
theorem Cx.Ok.nofr (ok : X.Ok) {b : Addr} {o : Obj} (e : X.base.get? b = some o) : b ∉ X.fs := fun hb => by
  have := (ok.funs.mem hb).1
  rw [e] at this; cases this
theorem Inv.bs (I : Inv X pins σ H s) : ∀ b o, X.base.get? b = some o → s.heap.get? b = some o ∧ H b = none := fun b o e =>
  ⟨I.base.keep b o (I.ok.bs b o e).1 (I.ok.bs b o e).2 (I.ok.nofr e) (I.ok.noex b o e), I.base.free b o (I.ok.bs b o e).1 (I.ok.bs b o e).2 (I.ok.noex b o e)⟩
theorem Inv.bk (I : Inv X pins σ H s) : ∀ b o, X.base.get? b = some o → s.heap.get? b = some o := fun b o e => (I.bs b o e).1
theorem Inv.mod (I : Inv X pins σ H s) : Mod X.K X.mg X.base := I.ok.mod
theorem Inv.kIn (I : Inv X pins σ H s) : X.K.In s.heap := I.ok.mod.kin.keeps I.bk
theorem Inv.nolimit (I : Inv X pins σ H s) : s.heap.NoLimit := I.ok.mod.nolimit.keeps I.bk
theorem Inv.fr (I : Inv X pins σ H s) : ∃ m, Fr X.base X.env.locals s.heap m :=
  let ⟨m, hn, _⟩ := I.loc
  ⟨m, hn, I.bk, Nat.le_trans I.ok.bsz I.ok.above⟩
theorem Inv.lt (I : Inv X pins σ H s) : X.env.locals < s.heap.objs.size := let ⟨_, hn, _⟩ := I.loc; hn.lt
theorem Inv.sz (I : Inv X pins σ H s) : X.s_0.heap.objs.size ≤ s.heap.objs.size := Nat.le_trans I.ok.above (Nat.le_of_lt I.lt)
theorem Inv.nofs (I : Inv X pins σ H s) {a : Addr} (h : s.heap.objs.size ≤ a) : a ∉ X.fs := fun hb => by
  obtain ⟨_, o, ho, _⟩ := I.ok.funs.mem hb
  exact absurd (Nat.lt_of_lt_of_le (Heap.lt_size ho) (Nat.le_trans I.sz h)) (Nat.lt_irrefl _)
theorem Inv.cne (I : Inv X pins σ H s) : ∀ x c, X.env.cells.lookup x = some c → c ≠ X.env.locals := fun x c e z => by
  obtain ⟨v, o, ho, hd⟩ := I.cell x c e
  obtain ⟨m, ⟨o', es, ep, ho', hd', _⟩, _⟩ := I.loc
  rw [z, ho'] at ho; cases ho; rw [hd'] at hd; cases hd
theorem Inv.funs (I : Inv X pins σ H s) : s.heap.FunFrames X.base X.outer := by
  have all : ∀ (l : List Env), (∀ b ∈ frs l, b ∈ X.fs) → X.s_0.heap.FunFrames X.base l → s.heap.FunFrames X.base l := by
    intro l
    induction l with
    | nil => intro _ _; trivial
    | cons env r ih =>
      intro hs hl
      obtain ⟨hk, ⟨L, o, hf, hn, ho, hd⟩, hr⟩ := hl
      have hL : L ∈ X.fs := hs L (by unfold frs; rw [List.filterMap_cons, hf]; exact List.mem_cons_self)
      obtain ⟨sl, e⟩ := I.base.slot L o ho (I.ok.frf L hL) hL fun z => I.ok.exfs L z hL
      exact ⟨hk, ⟨L, _, hf, hn, e, hd⟩, ih (fun b hb => hs b (by unfold frs; rw [List.filterMap_cons, hf]; exact List.mem_cons_of_mem _ hb)) hr⟩
  exact all X.outer (fun _ hb => hb) I.ok.funs
theorem Inv.stack (I : Inv X pins σ H s) : s.heap.FunFrames X.base X.stack := by
  rcases I.ok.stk with e | ⟨e, hf⟩
  · rw [e]; exact I.funs
  · rw [e]
    obtain ⟨m, hn, _⟩ := I.loc
    refine .cons (by rw [I.ok.kind]; decide) hf hn ?_ I.funs
    exact Heap.get?_none_of_le (Nat.le_trans I.ok.bsz I.ok.above)
theorem Inv.stkSub (I : Inv X pins σ H s) : ∀ b ∈ frs X.stack, b ∈ X.env.locals :: X.fs := fun b hb => by
  rcases I.ok.stk with e | ⟨e, hf⟩
  · rw [e] at hb; exact List.mem_cons_of_mem _ hb
  · rw [e] at hb
    unfold frs at hb
    rw [List.filterMap_cons, hf] at hb
    exact hb
theorem Inv.stkFree (I : Inv X pins σ H s) : ∀ b ∈ frs X.stack, H b = none := fun b hb => by
  rcases List.mem_cons.mp (I.stkSub b hb) with e | hb
  · rw [e]; exact I.free
  · obtain ⟨_, o, ho, _⟩ := I.ok.funs.mem hb
    exact I.base.free b o ho (I.ok.frf b hb) fun z => I.ok.exfs b z hb
theorem Inv.step {g' : Array GenState} {t' : Nat} {d' : Drawn} {ch : List Addr} (I : Inv X pins σ H s)
    (hch : ∀ b ∈ ch, (b ∈ X.ex ∨ X.s_0.heap.objs.size ≤ b) ∧ b ≠ X.env.locals ∧ (∀ x c, X.env.cells.lookup x = some c → c ≠ b) ∧ ∀ p ∈ X.pn ++ pins, p.1 ≠ b)
    (keep : ∀ b o, b ≠ X.env.locals → b ∉ X.fs → b ∉ ch → s.heap.get? b = some o → H b = none → h'.get? b = some o)
    (slot : ∀ b o, b ≠ X.env.locals → b ∈ X.fs → b ∉ ch → s.heap.get? b = some o → H b = none → ∃ sl, h'.get? b = some { o with slots := sl }) (free : ∀ b o, b ∉ ch → s.heap.get? b = some o → H b = none → H' b = none)
    (there : ∀ b o, b ∉ ch → s.heap.get? b = some o → ∃ o', h'.get? b = some o')
    (tups : ∀ b xs, H b = some (.tup xs) → H' b = some (.tup xs)) (frzs : ∀ b o u, H b = some (.frz o u) → H' b = some (.frz o u)) (tbls : ∀ b ps, H b = some (.tbl ps) → ∃ more, H' b = some (.tbl (ps ++ more)))
    (ns : ∀ m, s.heap.Ns X.env.locals m → h'.Ns X.env.locals m) (hok : HOk X.prog X.w H' h') (hg : AllBare g') :
    Inv X pins σ H' { s with heap := h', gens := g', drawn := d', toks := t' } := by
  have neL : ∀ b o, X.s_0.heap.get? b = some o → b ≠ X.env.locals := fun b o e => Nat.ne_of_lt (Nat.lt_of_lt_of_le (Heap.lt_size e) I.ok.above)
  have neC : ∀ b o, X.s_0.heap.get? b = some o → b ∉ X.ex → b ∉ ch := fun b o e hx hb => by
    rcases (hch b hb).1 with z | z
    · exact hx z
    · exact absurd (Nat.lt_of_lt_of_le (Heap.lt_size e) z) (Nat.lt_irrefl _)
  have cellK : ∀ x c, X.env.cells.lookup x = some c → ∀ v, s.heap.IsCell c v → h'.IsCell c v := fun x c e v ⟨o, ho, hd⟩ => by
    have nch : c ∉ ch := fun z => (hch c z).2.2.1 x c e rfl
    by_cases hc : c ∈ X.fs
    · obtain ⟨sl, q⟩ := slot c o (I.cne x c e) hc nch ho (I.freeC x c e)
      exact ⟨_, q, hd⟩
    · exact ⟨o, keep c o (I.cne x c e) hc nch ho (I.freeC x c e), hd⟩
  refine ⟨I.ok, I.os, hg, ⟨fun b o e n hb hx => ?_, fun b o e n hb hx => ?_, fun b o e n hx => ?_, fun b o e hx => ?_, fun b xs e => tups b xs (I.base.tups b xs e), fun b o xs e => frzs b o xs (I.base.frzs b o xs e), fun b ps e => ?_⟩, ?_, fun x c e => ?_, ?_, fun x c e => ?_, fun p hp => ?_, hok, I.len⟩
  · exact keep b o (neL b o e) hb (neC b o e hx) (I.base.keep b o e n hb hx) (I.base.free b o e n hx)
  · obtain ⟨sl, e1⟩ := I.base.slot b o e n hb hx
    obtain ⟨sl', e2⟩ := slot b _ (neL b o e) hb (neC b o e hx) e1 (I.base.free b o e n hx)
    exact ⟨sl', e2⟩
  · obtain ⟨o', e1⟩ := I.base.there b o e hx
    exact free b o' (neC b o e hx) e1 (I.base.free b o e n hx)
  · obtain ⟨o', e1⟩ := I.base.there b o e hx
    exact there b o' (neC b o e hx) e1
  · obtain ⟨m1, e1⟩ := I.base.tbls b ps e
    obtain ⟨m2, e2⟩ := tbls b _ e1
    exact ⟨m1 ++ m2, by rw [e2, Array.append_assoc]⟩
  · obtain ⟨m, hn, hl⟩ := I.loc
    refine ⟨m, ns m hn, fun i x v e1 e2 e3 => ?_⟩
    obtain ⟨u, r, l⟩ := hl i x v e1 e2 e3
    refine ⟨u, r, ?_⟩
    rcases l with l | ⟨k, c, e, z⟩
    · exact .inl l
    · exact .inr ⟨k, c, e, cellK x c e _ z⟩
  · obtain ⟨v, z⟩ := I.cell x c e
    exact ⟨v, cellK x c e v z⟩
  · obtain ⟨m, ⟨o, _, _, ho, _⟩, _⟩ := I.loc
    exact free _ o (fun z => (hch _ z).2.1 rfl) ho I.free
  · obtain ⟨v, o, ho, hd⟩ := I.cell x c e
    exact free c o (fun z => (hch c z).2.2.1 x c e rfl) ho (I.freeC x c e)
  · obtain ⟨e, n, ne, nf, d⟩ := I.pin p hp
    have nch : p.1 ∉ ch := fun z => (hch p.1 z).2.2.2 p hp rfl
    exact ⟨keep p.1 p.2 ne nf nch e n, free p.1 p.2 nch e n, ne, nf, d⟩
theorem Inv.un {t' : Nat} (I : Inv X pins σ H s) (u : Un X.fs [] H H' s.heap h') (hok : HOk X.prog X.w H' h') : Inv X pins σ H' { s with heap := h', toks := t' } := by
  obtain ⟨m, ⟨o, es, ep, ho, r⟩, _⟩ := id I.loc
  obtain ⟨sl, hL⟩ := u.any ho I.free (by simp)
  exact I.step (g' := s.gens) (d' := s.drawn) (ch := []) (fun _ z => nomatch z) (fun b o _ hb _ e n => u.keep b o e n hb (by simp)) (fun b o _ hb _ e n => u.slot b o e n hb (by simp)) (fun b o _ e n => u.free b o e n (by simp)) (fun b o _ e => u.there b o e (by simp)) u.tups u.frzs u.tbls (fun m' hm => by
    obtain ⟨o', es', ep', ho', r'⟩ := hm
    rw [ho] at ho'; cases ho'
    exact ⟨_, es', ep', hL, r'⟩) hok I.bare
theorem Inv.call {g' : Array GenState} {t' : Nat} {d' : Drawn} {ch : List Addr} (I : Inv X pins σ H s) (u : Un (frs X.stack) ch H H' s.heap h') (hok : HOk X.prog X.w H' h') (hg : AllBare g')
    (hch : ∀ b ∈ ch, (b ∈ X.ex ∨ X.s_0.heap.objs.size ≤ b) ∧ b ≠ X.env.locals ∧ (∀ x c, X.env.cells.lookup x = some c → c ≠ b) ∧ ∀ p ∈ X.pn ++ pins, p.1 ≠ b) :
    Inv X pins σ H' { s with heap := h', gens := g', drawn := d', toks := t' } := by
  obtain ⟨m, ⟨o, es, ep, ho, r⟩, _⟩ := id I.loc
  obtain ⟨sl, hL⟩ := u.any ho I.free fun z => (hch _ z).2.1 rfl
  exact I.step (ch := ch) hch (fun b o hL hb hc e n => u.keep b o e n (fun z => (List.mem_cons.mp (I.stkSub b z)).elim hL hb) hc) (fun b o _ _ hc e n => u.any e n hc) (fun b o hc e n => u.free b o e n hc) (fun b o hc e => u.there b o e hc) u.tups u.frzs u.tbls (fun m' hm => by
    obtain ⟨o', es', ep', ho', r'⟩ := hm
    rw [ho] at ho'; cases ho'
    exact ⟨_, es', ep', hL, r'⟩) hok hg
theorem Inv.turned {t' : Nat} {it : Addr} (I : Inv X pins σ H s) (k : ∀ b o, b ≠ it → s.heap.get? b = some o → h'.get? b = some o) (hn : H it = none) (hL : it ≠ X.env.locals)
    (h1 : it ∈ X.ex ∨ X.s_0.heap.objs.size ≤ it) (h2 : ∀ x c, X.env.cells.lookup x = some c → c ≠ it) (h3 : ∀ p ∈ X.pn ++ pins, p.1 ≠ it) : Inv X pins σ H { s with heap := h', toks := t' } := by
  have nit : ∀ b u, H b = some u → b ≠ it := fun b u e z => by rw [z, hn] at e; cases e
  refine I.step (g' := s.gens) (d' := s.drawn) (ch := [it]) (fun b hb => ?_) (fun b o _ _ hc e _ => k b o (fun z => hc (by simp [z])) e) (fun b o _ _ hc e _ => ⟨o.slots, k b o (fun z => hc (by simp [z])) e⟩) (fun _ _ _ _ n => n)
    (fun b o hc e => ⟨o, k b o (fun z => hc (by simp [z])) e⟩) (fun _ _ e => e) (fun _ _ _ e => e) (fun b ps e => ⟨#[], by rw [e]; simp⟩) (fun m hm => ?_) (fun b u e => ?_) I.bare
  · have e : b = it := by simpa using hb
    subst e
    exact ⟨h1, hL, h2, h3⟩
  · obtain ⟨o, es, ep, ho, r⟩ := hm
    exact ⟨o, es, ep, k _ o (Ne.symm hL) ho, r⟩
  · refine (I.hok b u e).stay (fun c v hc q => k c v ?_ q) (fun _ q => q) fun _ _ q => q
    rcases hc with z | z
    · rw [z]; exact nit b u e
    · exact nit c _ z
theorem Inv.tok (I : Inv X pins σ H s) (t : Nat) : Inv X pins σ H { s with toks := t } := I.un (h' := s.heap) (t' := t) Un.refl I.hok
theorem Inv.kept {t' : Nat} (I : Inv X pins σ H s) (k : ∀ b u, s.heap.get? b = some u → h'.get? b = some u) : Inv X pins σ H { s with heap := h', toks := t' } := I.un (Un.kept k) (I.hok.kept k)
theorem Inv.laid {a : Addr} {o : HO} {t' : Nat} (I : Inv X pins σ H s) (k : ∀ b u, s.heap.get? b = some u → h'.get? b = some u) (hp : s.heap.objs.size ≤ a) (new : ObjOk X.prog X.w (upd H a o) h' a o) :
    Inv X pins σ (upd H a o) { s with heap := h', toks := t' } := I.un (Un.laid k hp (I.hok.fresh hp)) (I.hok.laid k hp new)
theorem Inv.write {x e : Addr} {o : HO} {t' : Nat} (I : Inv X pins σ H s) (mu : Mut (H x)) (he : e = x ∨ H e = some (.own x)) (k : ∀ b u, b ≠ e → s.heap.get? b = some u → h'.get? b = some u) (heo : ∃ u, h'.get? e = some u)
    (new : ObjOk X.prog X.w (upd H x o) h' x o) : Inv X pins σ (upd H x o) { s with heap := h', toks := t' } := I.un (Un.write mu he k heo) (I.hok.write mu he k heo new)
theorem Inv.weak {σ' : List (Option V)} (I : Inv X pins σ H s) (hl : σ'.length = σ.length) (w : ∀ (i : Nat) v, σ'[i]? = some (some v) → σ[i]? = some (some v)) : Inv X pins σ' H s :=
  ⟨I.ok, I.os, I.bare, I.base, let ⟨m, hn, hl'⟩ := I.loc; ⟨m, hn, fun i x v e1 e2 e3 => hl' i x v e1 (w i v e2) e3⟩, I.cell, I.free, I.freeC, I.pin, I.hok, hl.trans I.len⟩
theorem Inv.pins_of {pins' : List (Addr × Obj)} (I : Inv X pins σ H s) (h : ∀ p ∈ pins', s.heap.get? p.1 = some p.2 ∧ H p.1 = none ∧ p.1 ≠ X.env.locals ∧ p.1 ∉ X.fs ∧ ∀ v, p.2.data ≠ .cell v) : Inv X pins' σ H s :=
  ⟨I.ok, I.os, I.bare, I.base, I.loc, I.cell, I.free, I.freeC, fun p hp => (List.mem_append.mp hp).elim (fun z => I.pin p (List.mem_append_left _ z)) (h p), I.hok, I.len⟩
theorem nodup_ix {N : List Str} (hN : N.Nodup) {i j : Nat} {x : Str} (a : N[i]? = some x) (b : N[j]? = some x) : i = j := by
  obtain ⟨h1, e1⟩ := List.getElem?_eq_some_iff.mp a
  obtain ⟨h2, e2⟩ := List.getElem?_eq_some_iff.mp b
  exact (List.getElem_inj hN).mp (e1.trans e2.symm)
theorem store_ok2 {M : Model} {A : Around} {E : Value → Shared → Prop} {i : Nat} {x : Str} {v : V} {u : Value} {Q : Unit → Shared → Prop} (I : Inv X pins σ H s) (hN : X.N.Nodup) (hi : X.N[i]? = some x) (hx : Loc X.env.scope x) (r : RelV v u)
    (h : ∀ s', Inv X pins (σ.set i (some v)) H s' → (∃ a, Heap.SameBut a s.heap s'.heap ∧ (a = X.env.locals ∨ X.env.cells.lookup x = some a)) → Q () s') (hf : X.fn x = true ∨ X.env.scope.names.lookup x = some .local := by first | exact .inl rfl | exact .inr rfl | assumption) : wpAny M A (storeName X.env x u) Q E s := by
  obtain ⟨m, hn, hl⟩ := id I.loc
  have hcls : (X.env.scope.kind == .class || (X.env.scope.kind == .module && X.env.locals != X.env.globals)) = false := by rw [I.ok.kind]; rfl
  have hiσ : i < σ.length := by rw [I.len]; exact (List.getElem?_eq_some_iff.mp hi).1
  have cne := I.cne
  have tracked : ∀ {a : Addr} {h' : Heap}, (∃ o, s.heap.get? a = some o ∧ H a = none) → Heap.SameBut a s.heap h' → HOk X.prog X.w H h' := fun {a h'} ha hs b ob e => by
    obtain ⟨_, _, hfree⟩ := ha
    refine (I.hok b ob e).stay (fun c w' hc q => (hs.2 c ?_).trans q) (fun _ q => q) fun _ _ q => q
    rintro rfl
    rcases hc with rfl | hc
    · rw [hfree] at e; cases e
    · rw [hfree] at hc; cases hc
  rcases hx with hk | hk
  · refine wpAny_storeName_local hk hn (fun h' hn' hs => ?_) hcls
    obtain ⟨oL, _, _, hoL, _⟩ := id hn
    refine h _ ⟨I.ok, I.os, I.bare, ⟨fun b o e n hb hx => ?_, fun b o e n hb hx => ?_, I.base.free, fun b o e hx => ?_, I.base.tups, I.base.frzs, I.base.tbls⟩, ⟨_, hn', fun j y v' e1 e2 e3 => ?_⟩, fun y c e => ?_, I.free, I.freeC, fun p hp => ?_, tracked ⟨oL, hoL, I.free⟩ hs, by simpa using I.len⟩ ⟨_, hs, .inl rfl⟩
    · exact (hs.2 b (Nat.ne_of_lt (Nat.lt_of_lt_of_le (Heap.lt_size e) I.ok.above))).trans (I.base.keep b o e n hb hx)
    · obtain ⟨sl, e1⟩ := I.base.slot b o e n hb hx
      exact ⟨sl, (hs.2 b (Nat.ne_of_lt (Nat.lt_of_lt_of_le (Heap.lt_size e) I.ok.above))).trans e1⟩
    · obtain ⟨o', e1⟩ := I.base.there b o e hx
      exact ⟨o', (hs.2 b (Nat.ne_of_lt (Nat.lt_of_lt_of_le (Heap.lt_size e) I.ok.above))).trans e1⟩
    · by_cases hj : j = i
      · subst hj
        rw [hi] at e1; cases e1
        rw [List.getElem?_set_self hiσ] at e2
        cases e2
        exact ⟨u, r, .inl ⟨hk, by simp⟩⟩
      · rw [List.getElem?_set_ne (Ne.symm hj)] at e2
        obtain ⟨u', r', q⟩ := hl j y v' e1 e2 e3
        refine ⟨u', r', ?_⟩
        rcases q with ⟨k, e⟩ | ⟨k, c, e, z⟩
        · refine .inl ⟨k, ?_⟩
          have : y ≠ x := fun e => hj (nodup_ix hN e1 (e ▸ hi))
          simp [this, e]
        · exact .inr ⟨k, c, e, z.sameBut hs (cne y c e)⟩
    · obtain ⟨w', z⟩ := I.cell y c e
      exact ⟨w', z.sameBut hs (cne y c e)⟩
    · obtain ⟨e, n, ne, nf, d⟩ := I.pin p hp
      exact ⟨(hs.2 p.1 ne).trans e, n, ne, nf, d⟩
  · have hfn : X.fn x = true := by
      rcases hf with z | z
      · exact z
      · rw [z] at hk; cases hk
    obtain ⟨c, hc⟩ := I.ok.has x (.inl hk)
    obtain ⟨w', z⟩ := I.cell x c hc
    refine wpAny_storeName_cell I.ok.kind hk hc z (fun h' hc' hs => ?_)
    obtain ⟨oc, hoc, hocd⟩ := id z
    refine h { s with heap := h' } ⟨I.ok, I.os, I.bare, ⟨fun b o e n hb hx => ?_, fun b o e n hb hx => ?_, I.base.free, fun b o e hx => ?_, I.base.tups, I.base.frzs, I.base.tbls⟩, ⟨m, hn.sameBut hs (Ne.symm (cne x c hc)), fun j y v' e1 e2 e3 => ?_⟩, fun y c' e => ?_, I.free, I.freeC, fun p hp => ?_, tracked ⟨oc, hoc, I.freeC x c hc⟩ hs, by simpa using I.len⟩ ⟨c, hs, .inr hc⟩
    · exact (hs.2 b (Nat.ne_of_lt (Nat.lt_of_lt_of_le (Heap.lt_size e) (I.ok.cab x c hfn hc)))).trans (I.base.keep b o e n hb hx)
    · obtain ⟨sl, e1⟩ := I.base.slot b o e n hb hx
      exact ⟨sl, (hs.2 b (Nat.ne_of_lt (Nat.lt_of_lt_of_le (Heap.lt_size e) (I.ok.cab x c hfn hc)))).trans e1⟩
    · obtain ⟨o', e1⟩ := I.base.there b o e hx
      exact ⟨o', (hs.2 b (Nat.ne_of_lt (Nat.lt_of_lt_of_le (Heap.lt_size e) (I.ok.cab x c hfn hc)))).trans e1⟩
    · by_cases hj : j = i
      · subst hj
        rw [hi] at e1; cases e1
        rw [List.getElem?_set_self hiσ] at e2
        cases e2
        exact ⟨u, r, .inr ⟨.inl hk, c, hc, hc'⟩⟩
      · rw [List.getElem?_set_ne (Ne.symm hj)] at e2
        obtain ⟨u', r', q⟩ := hl j y v' e1 e2 e3
        refine ⟨u', r', ?_⟩
        rcases q with q | ⟨k, c', e, z'⟩
        · exact .inl q
        · refine .inr ⟨k, c', e, z'.sameBut hs ?_⟩
          rintro rfl
          exact hj (nodup_ix hN e1 (I.ok.inj _ _ _ e hc ▸ hi))
    · by_cases hcc : c' = c
      · subst hcc; exact ⟨_, hc'⟩
      · obtain ⟨w2, z2⟩ := I.cell y c' e
        exact ⟨w2, z2.sameBut hs hcc⟩
    · obtain ⟨e, n, ne, nf, d⟩ := I.pin p hp
      refine ⟨(hs.2 p.1 ?_).trans e, n, ne, nf, d⟩
      intro q
      rw [q, hoc] at e
      have q' : oc = p.2 := Option.some.inj e
      exact d w' (by rw [← q']; exact hocd)
theorem store_ok {M : Model} {A : Around} {E : Value → Shared → Prop} {i : Nat} {x : Str} {v : V} {u : Value} {Q : Unit → Shared → Prop} (I : Inv X pins σ H s) (hN : X.N.Nodup) (hi : X.N[i]? = some x) (hx : Loc X.env.scope x) (r : RelV v u)
    (h : ∀ s', Inv X pins (σ.set i (some v)) H s' → Q () s') (hf : X.fn x = true ∨ X.env.scope.names.lookup x = some .local := by first | exact .inl rfl | exact .inr rfl | assumption) : wpAny M A (storeName X.env x u) Q E s :=
  store_ok2 I hN hi hx r (fun s' I' _ => h s' I') hf
theorem Inv.call' {s' : Shared} {ch : List Addr} (I : Inv X pins σ H s) (ho : s'.os = s.os) (u : Un (frs X.stack) ch H H' s.heap s'.heap) (hok : HOk X.prog X.w H' s'.heap) (hg : AllBare s'.gens)
    (hch : ∀ b ∈ ch, (b ∈ X.ex ∨ X.s_0.heap.objs.size ≤ b) ∧ b ≠ X.env.locals ∧ (∀ x c, X.env.cells.lookup x = some c → c ≠ b) ∧ ∀ p ∈ X.pn ++ pins, p.1 ≠ b) : Inv X pins σ H' s' := by
  obtain ⟨h', g', d', t', o'⟩ := s'
  have e : o' = s.os := ho
  subst e
  exact I.call (g' := g') (t' := t') (d' := d') u hok hg hch
end
abbrev XK := Value → Option Addr → Hp → Prop
abbrev St := List (Option V)
abbrev VK := V → Hp → Prop
abbrev TE := St → Hp → VK → Prop
abbrev TT := St → Hp → (Bool → Hp → Prop) → Prop
abbrev TA := St → Hp → (List V → Hp → Prop) → Prop
structure Ends where
  nx : St → Hp → Prop
  rt : VK
  bk : St → Hp → Prop := fun _ _ => False
  ct : St → Hp → Prop := fun _ _ => False
abbrev TS := Ends → St → Hp → Prop
def EP (X : Cx) (pins : List (Addr × Obj)) (σ : St) (Q : VK) (u : Value) (s' : Shared) : Prop := ∃ v H', Inv X pins σ H' s' ∧ RelV v u ∧ Q v H'
def TP (X : Cx) (pins : List (Addr × Obj)) (σ : St) (Q : Bool → Hp → Prop) (b : Bool) (s' : Shared) : Prop := ∃ H', Inv X pins σ H' s' ∧ Q b H'
def AP (X : Cx) (pins : List (Addr × Obj)) (σ : St) (Q : List V → Hp → Prop) (us : List Value) (s' : Shared) : Prop := ∃ vs H', Inv X pins σ H' s' ∧ Vals vs us ∧ Q vs H'
def SP (X : Cx) (pins : List (Addr × Obj)) (D : Ends) (f : Flow) (s' : Shared) : Prop :=
  match f with
  | .next => ∃ σ' H', Inv X pins σ' H' s' ∧ D.nx σ' H'
  | .brk => ∃ σ' H', Inv X pins σ' H' s' ∧ D.bk σ' H'
  | .cont => ∃ σ' H', Inv X pins σ' H' s' ∧ D.ct σ' H'
  | .ret u => ∃ v σ' H', Inv X pins σ' H' s' ∧ RelV v u ∧ D.rt v H'
def PE (X : Cx) (e : Expr) (t : TE) : Prop :=
  ∀ (pins : List (Addr × Obj)) (s : Shared) (σ : St) (H : Hp) (Q : VK), Inv X pins σ H s → t σ H Q → wpAny (model X.prog X.w) X.A (eval e X.env) (EP X pins σ Q) X.xe s
def PT (X : Cx) (e : Expr) (t : TT) : Prop :=
  ∀ (pins : List (Addr × Obj)) (s : Shared) (σ : St) (H : Hp) (Q : Bool → Hp → Prop), Inv X pins σ H s → t σ H Q → wpAny (model X.prog X.w) X.A (isTrue e X.env (eval e X.env)) (TP X pins σ Q) X.xe s
def PW (X : Cx) (e : Expr) (t : TT) : Prop :=
  ∀ (whole : Sem Value) (pins : List (Addr × Obj)) (s : Shared) (σ : St) (H : Hp) (Q : Bool → Hp → Prop), Inv X pins σ H s → t σ H Q → wpAny (model X.prog X.w) X.A (isTrue e X.env whole) (TP X pins σ Q) X.xe s
theorem PW.pt {X : Cx} {e : Expr} {t : TT} (h : PW X e t) : PT X e t := h _
def PA (X : Cx) (es : List Expr) (t : TA) : Prop :=
  ∀ (pos : Pos) (pins : List (Addr × Obj)) (s : Shared) (σ : St) (H : Hp) (Q : List V → Hp → Prop), Inv X pins σ H s → t σ H Q → wpAny (model X.prog X.w) X.A (spliced (backTo pos (starEach es X.env))) (AP X pins σ Q) X.xe s
def PS (X : Cx) (st : Stmt) (t : TS) : Prop :=
  ∀ (pins : List (Addr × Obj)) (s : Shared) (σ : St) (H : Hp) (D : Ends), Inv X pins σ H s → t D σ H → wpAny (model X.prog X.w) X.A (exec st X.env) (SP X pins D) X.xe s
def PSs (X : Cx) (st : List Stmt) (t : TS) : Prop :=
  ∀ (pins : List (Addr × Obj)) (s : Shared) (σ : St) (H : Hp) (D : Ends), Inv X pins σ H s → t D σ H → wpAny (model X.prog X.w) X.A (execs st X.env) (SP X pins D) X.xe s
theorem thn {α : Type} {t : Sem α} {Q Q' : α → Shared → Prop} {M : Model} {A : Around} {E : Value → Shared → Prop} {s : Shared} (h : wpAny M A t Q E s) (hQ : ∀ a s, Q a s → Q' a s) : wpAny M A t Q' E s := wpAny_mono h hQ fun _ _ x => x
end L2
namespace L2
open PySem PySem.Spec PyProof.Rows
section
variable {X : Cx}
def tVar (i : Nat) : TE := fun σ H Q => ∃ v, σ[i]? = some (some v) ∧ Q v H
def tC (v : V) : TE := fun _ H Q => Q v H
theorem pe_var {i : Nat} {x : Str} {pos : Pos} (hN : X.N[i]? = some x) (hv : Vis X.env.scope x) (hd : (x == ("__debug__" : Str)) = false := by decide) (hcd : (x == ("__classdict__" : Str)) = false := by decide) : PE X (.Name x pos) (tVar i) := by
  intro pins s σ H Q I h
  obtain ⟨v, e, h⟩ := h
  obtain ⟨m, hn, hl⟩ := I.loc
  obtain ⟨u, r, l⟩ := hl i x v hN e hv
  have fin : EP X pins σ Q u s := ⟨v, H, I, r, h⟩
  rcases l with ⟨hk, hm⟩ | ⟨hk, c, hc, hcell⟩
  · exact wpAny_Name (wpAny_loadName_local I.ok.kind hk hn hm fin) hd
  · rcases hk with hk | hk
    · exact wpAny_Name (wpAny_loadName_cell I.ok.kind hk hc hcell fin) hd
    · exact wpAny_Name (wpAny_loadName_free I.ok.kind hk hc hcell fin hcd) hd
theorem pe_int {i j pos} : PE X (.Constant (.int i) j pos) (tC (.int i)) := fun _ _ _ H _ I h => wpAny_Constant_int ⟨.int i, H, I.tok _, ⟨_, rfl⟩, h⟩
theorem pe_bl {b j pos} : PE X (.Constant (.bool b) j pos) (tC (.bl b)) := fun _ _ _ H _ I h => Constant_bool ⟨.bl b, H, I, rfl, h⟩
def Gl (X : Cx) (x : Str) : Prop := X.env.kindOf x = some .globalImplicit
theorem ld_glob {E : Value → Shared → Prop} {pins : List (Addr × Obj)} {s : Shared} {σ : St} {H : Hp} {x : Str} {u : Value} {pos : Pos} {Q : Value → Shared → Prop} (I : Inv X pins σ H s) (hg : Gl X x) (hm : X.mg x = some u) (h : Q u s)
    (hd : (x == ("__debug__" : Str)) = false := by decide) : wpAny (model X.prog X.w) X.A (eval (.Name x pos) X.env) Q E s :=
  Calls.Name_function_global I.ok.kind hg (Calls.loadGlobal_global (by rw [I.ok.glob]; exact I.mod.glob.keeps I.bk) hm h) hd
theorem ld_blt {E : Value → Shared → Prop} {pins : List (Addr × Obj)} {s : Shared} {σ : St} {H : Hp} {x : Str} {u : Value} {pos : Pos} {Q : Value → Shared → Prop} (I : Inv X pins σ H s) (hg : Gl X x) (hm : X.mg x = none) (hv : bootBuiltins x = some u) (h : Q u s)
    (hn : x ≠ "__name__" := by decide) (hd : (x == ("__debug__" : Str)) = false := by decide) : wpAny (model X.prog X.w) X.A (eval (.Name x pos) X.env) Q E s := by
  obtain ⟨mb, h1, h2⟩ := I.mod.blt
  exact Calls.Name_function_global I.ok.kind hg (Calls.loadGlobal_builtin (by rw [I.ok.glob]; exact I.mod.glob.keeps I.bk) hm (by rw [I.ok.blt]; exact h1.keeps I.bk) ((h2 x hn).trans hv) h) hd
theorem pe_glob {x : Str} {v : V} {u : Value} {pos : Pos} (hg : Gl X x) (hm : X.mg x = some u) (r : RelV v u) (hd : (x == ("__debug__" : Str)) = false := by decide) : PE X (.Name x pos) (tC v) :=
  fun _ _ _ H _ I h => ld_glob I hg hm ⟨v, H, I, r, h⟩ hd
variable {a b : Expr} {ta tb : TE} {pos : Pos}
def PC (X : Cx) (op : CmpOp) (a b : Expr) (t : TE) : Prop :=
  ∀ (pins : List (Addr × Obj)) (s : Shared) (σ : St) (H : Hp) (Q : VK), Inv X pins σ H s → t σ H Q →
    wpAny (model X.prog X.w) X.A (eval a X.env) (fun v s₁ => wpAny (model X.prog X.w) X.A (eval b X.env) (fun u s₂ => wpAny (model X.prog X.w) X.A (compareOp op v u) (EP X pins σ Q) X.xe s₂) X.xe s₁) X.xe s
theorem nobehind (b : Expr) {op : CmpOp} (h : op ≠ .In) (h2 : op ≠ .NotIn) : behindInMarks op b = false := by
  have e1 : (op == CmpOp.In) = false := by cases op <;> first | rfl | exact absurd rfl h
  have e2 : (op == CmpOp.NotIn) = false := by cases op <;> first | rfl | exact absurd rfl h2
  cases b <;> simp [behindInMarks, e1, e2]
def tB (t : TE) : TT := fun σ H Q => t σ H fun x H1 => ∃ c, x = .bl c ∧ Q c H1
theorem pe_cmp {op : CmpOp} {t : TE} (h : PC X op a b t) (h1 : behindInMarks op b = false := by first | exact nobehind _ (by decide) (by decide) | rfl) : PE X (.Compare a [op] [b] pos) t := fun pins s σ H Q I hw => wpAny_Compare1 (h pins s σ H Q I hw) h1
theorem pt_cmp {op : CmpOp} {t : TE} (h : PC X op a b t) (h1 : behindInMarks op b = false := by first | exact nobehind _ (by decide) (by decide) | rfl) : PT X (.Compare a [op] [b] pos) (tB t) := by
  intro pins s σ H Q I hw
  refine wpAny_isTrue_Compare1 (thn (h pins s σ H _ I hw) fun v s1 h1 => thn h1 fun u s2 h2 => thn h2 fun c s3 ⟨x, H1, I1, r1, q1⟩ => ?_) h1
  obtain ⟨d, rfl, q⟩ := q1
  cases r1
  exact wpAny_truthy_bool ⟨H1, I1, q⟩
theorem pt_val {e : Expr} {t : TE} (h : PE X e t) (he : ∀ whole, isTrue e X.env whole = (do let v ← whole; standAt e.pos; holding [v] (truthy v)) := by intro _; rfl) : PT X e (tB t) := by
  intro pins s σ H Q I hw
  refine isTrue_plain (thn (h pins s σ H _ I hw) fun v s1 ⟨x, H1, I1, r1, q1⟩ => ?_) (he _)
  obtain ⟨d, rfl, q⟩ := q1
  cases r1
  exact wpAny_truthy_bool ⟨H1, I1, q⟩
variable {tA tB' : TT} {rest : List Expr}
def tAnd (t u : TT) : TT := fun σ H Q => t σ H fun c H1 => if c = true then u σ H1 Q else Q false H1
def tOr (t u : TT) : TT := fun σ H Q => t σ H fun c H1 => if c = true then Q true H1 else u σ H1 Q
def tNot (t : TT) : TT := fun σ H Q => t σ H fun c H1 => Q (!c) H1
theorem pw_and1 (ha : PT X a tA) : PW X (.BoolOp .And [a] pos) tA := by
  intro wh pins s σ H Q I h
  refine isTrue_and (thn (ha pins s σ H Q I h) fun c s1 e => ?_)
  cases c with
  | true => exact isTrue_and_nil e
  | false => exact e
theorem pw_or1 (ha : PT X a tA) : PW X (.BoolOp .Or [a] pos) tA := by
  intro wh pins s σ H Q I h
  refine isTrue_or (thn (ha pins s σ H Q I h) fun c s1 e => ?_)
  cases c with
  | false => exact isTrue_or_nil e
  | true => exact e
theorem pw_and (ha : PT X a tA) (hb : PW X (.BoolOp .And (b :: rest) pos) tB') : PW X (.BoolOp .And (a :: b :: rest) pos) (tAnd tA tB') := by
  intro wh pins s σ H Q I h
  refine isTrue_and (thn (ha pins s σ H _ I h) fun c s1 ⟨H1, I1, q1⟩ => ?_)
  cases c with
  | true => exact hb wh pins s1 σ H1 Q I1 q1
  | false => exact ⟨H1, I1, q1⟩
theorem pw_or (ha : PT X a tA) (hb : PW X (.BoolOp .Or (b :: rest) pos) tB') : PW X (.BoolOp .Or (a :: b :: rest) pos) (tOr tA tB') := by
  intro wh pins s σ H Q I h
  refine isTrue_or (thn (ha pins s σ H _ I h) fun c s1 ⟨H1, I1, q1⟩ => ?_)
  cases c with
  | true => exact ⟨H1, I1, q1⟩
  | false => exact hb wh pins s1 σ H1 Q I1 q1
theorem pt_not (ha : PT X a tA) : PT X (.UnaryOp .Not a pos) (tNot tA) := by
  intro pins s σ H Q I h
  exact isTrue_not (ha pins s σ H (fun c H1 => Q (!c) H1) I h)
def tAndV (ta tb : TE) : TE := fun σ H Q => ta σ H fun x H1 => ∃ c, x = .bl c ∧ if c = true then tb σ H1 Q else Q (.bl false) H1
theorem pe_one {op} {t : TE} (h : PE X a t) : PE X (.BoolOp op [a] pos) t := fun pins s σ H Q I hw => BoolOp_one (h pins s σ H Q I hw)
theorem pe_and (ha : PE X a ta) (hb : PE X (.BoolOp .And (b :: rest) pos) tb) : PE X (.BoolOp .And (a :: b :: rest) pos) (tAndV ta tb) := by
  intro pins s σ H Q I h
  refine BoolOp_and (thn (ha pins s σ H _ I h) fun v s1 ⟨x, H1, I1, r1, q1⟩ => ?_)
  obtain ⟨c, rfl, q1⟩ := q1
  cases r1
  refine wpAny_truthy_bool ?_
  cases c with
  | true => exact hb pins s1 σ H1 Q I1 q1
  | false => exact ⟨.bl false, H1, I1, rfl, q1⟩
def tIf (t : TT) (ta tb : TE) : TE := fun σ H Q => t σ H fun c H1 => if c = true then ta σ H1 Q else tb σ H1 Q
theorem pe_ifExp {c : Expr} (hc : PT X c tA) (ha : PE X a ta) (hb : PE X b tb) : PE X (.IfExp c a b pos) (tIf tA ta tb) := by
  intro pins s σ H Q I h
  refine wpAny_IfExp (thn (hc pins s σ H _ I h) fun d s1 ⟨H1, I1, q1⟩ => ?_)
  cases d with
  | true => exact ha pins s1 σ H1 Q I1 q1
  | false => exact hb pins s1 σ H1 Q I1 q1
end
end L2
namespace L2
open PySem PySem.Spec PyProof.Rows
def SqL (K : PySem.W.Frag) (H : Hp) (a : Addr) (xs : List V) : Prop :=
  Rd H a (.lst xs) ∨
    ∃ (o : Obj) (its : Array Value) (n : Nat), K.lookup a = some o ∧ o.cls = .type "list" ∧ o.dict = none ∧ o.data = .seq its n ∧ its.size ≤ sizeLine ∧ Vals xs its.toList
def SqT (K : PySem.W.Frag) (H : Hp) (a : Addr) (xs : List V) : Prop :=
  Rd H a (.tup xs) ∨
    ∃ (o : Obj) (its : Array Value) (n : Nat), K.lookup a = some o ∧ o.cls = .type "tuple" ∧ o.data = .seq its n ∧ its.size ≤ sizeLine ∧ Vals xs its.toList
def absV : Value → Option V
  | .none => some .non
  | .bool b => some (.bl b)
  | .int i _ => some (.int i)
  | .str x _ => some (.str x)
  | .bytes b _ => some (.byt b)
  | .float b _ => some (.flt b)
  | .ref a => some (.ref a)
  | .type n => some (.ty n)
  | _ => none
theorem RelV.abs {x : V} {u : Value} (r : RelV x u) : absV u = some x := by
  cases x with
  | non => cases r; rfl
  | bl _ => cases r; rfl
  | int _ => obtain ⟨t, rfl⟩ := r; rfl
  | str _ => obtain ⟨t, rfl⟩ := r; rfl
  | byt _ => obtain ⟨t, rfl⟩ := r; rfl
  | flt _ => obtain ⟨t, rfl⟩ := r; rfl
  | ref _ => cases r; rfl
  | ty _ => cases r; rfl
theorem RelV.inj {x y : V} {u : Value} (r : RelV x u) (q : RelV y u) : x = y := Option.some.inj (r.abs.symm.trans q.abs)
theorem Vals.inj : ∀ {xs ys : List V} {us : List Value}, Vals xs us → Vals ys us → xs = ys
  | _, _, _, .nil, .nil => rfl
  | _, _, _, .cons r t, .cons r' t' => by rw [r.inj r', Vals.inj t t']
section
variable {X : Cx} {pins : List (Addr × Obj)} {σ : St} {H : Hp} {s : Shared} {a : Addr} {xs ys : List V}
theorem SqL.of {K : PySem.W.Frag} (h : H a = some (.lst xs)) : SqL K H a xs := .inl (.inl h)
theorem SqT.of {K : PySem.W.Frag} (h : H a = some (.tup xs)) : SqT K H a xs := .inl (.inl h)
theorem Inv.list (I : Inv X pins σ H s) (h : SqL X.K H a xs) : ∃ its : List Value, Vals xs its ∧ PlainL s.heap a its.toArray ∧ xs.length ≤ sizeLine := by
  rcases h with h | ⟨o, its, n, hk, hc, hd, hs, hz, r⟩
  · obtain ⟨z, its, n, r, e⟩ := h.ok I.hok
    exact ⟨its, r, ⟨_, n, e, rfl, rfl, rfl⟩, z⟩
  · refine ⟨its.toList, r, ⟨o, n, I.kIn a o hk, hc, hd, by simpa using hs⟩, ?_⟩
    have e := r.length
    simp only [Array.length_toList] at e
    omega
theorem Inv.tuple (I : Inv X pins σ H s) (h : SqT X.K H a xs) : ∃ its : List Value, Vals xs its ∧ IsTup s.heap a its.toArray ∧ xs.length ≤ sizeLine := by
  rcases h with h | ⟨o, its, n, hk, hc, hs, hz, r⟩
  · obtain ⟨z, its, r, p⟩ := h.ok I.hok
    exact ⟨its, r, p, z⟩
  · refine ⟨its.toList, r, ⟨o, I.kIn a o hk, hc, n, by simpa using hs⟩, ?_⟩
    have e := r.length
    simp only [Array.length_toList] at e
    omega
theorem Inv.list_inj (I : Inv X pins σ H s) (h : SqL X.K H a xs) (h' : SqL X.K H a ys) : xs = ys := by
  obtain ⟨its, r, ⟨o, n, e, _, _, d⟩, _⟩ := I.list h
  obtain ⟨its', r', ⟨o', n', e', _, _, d'⟩, _⟩ := I.list h'
  rw [e] at e'; cases e'
  rw [d] at d'
  injection d' with d1 _
  have : its = its' := by simpa using congrArg Array.toList d1
  subst this
  exact r.inj r'
theorem Inv.tuple_inj (I : Inv X pins σ H s) (h : SqT X.K H a xs) (h' : SqT X.K H a ys) : xs = ys := by
  obtain ⟨its, r, ⟨o, e, _, n, d⟩, _⟩ := I.tuple h
  obtain ⟨its', r', ⟨o', e', _, n', d'⟩, _⟩ := I.tuple h'
  rw [e] at e'; cases e'
  rw [d] at d'
  injection d' with d1 _
  have : its = its' := by simpa using congrArg Array.toList d1
  subst this
  exact r.inj r'
end
abbrev Cx.wish (X : Cx) (E : Value → Shared → Prop) : Cx := { X with xe := E }
abbrev Cx.nox (X : Cx) : Cx := X.wish fun _ _ => False
theorem Cx.Ok.wish {X : Cx} (ok : X.Ok) (E : Value → Shared → Prop) : (X.wish E).Ok :=
  ⟨ok.mod, ok.kind, ok.glob, ok.blt, ok.above, ok.inj, ok.has, ok.cab, ok.hd, ok.frames, ok.stk, ok.exf, ok.bs, ok.bsz, ok.noex, ok.exfs, ok.funs, ok.frf⟩
theorem Cx.Ok.unwish {X : Cx} {E : Value → Shared → Prop} (ok : (X.wish E).Ok) : X.Ok :=
  ⟨ok.mod, ok.kind, ok.glob, ok.blt, ok.above, ok.inj, ok.has, ok.cab, ok.hd, ok.frames, ok.stk, ok.exf, ok.bs, ok.bsz, ok.noex, ok.exfs, ok.funs, ok.frf⟩
section
variable {X : Cx} {pins : List (Addr × Obj)} {σ : St} {H : Hp} {s : Shared} {E : Value → Shared → Prop}
theorem Inv.wish (I : Inv X pins σ H s) (E : Value → Shared → Prop) : Inv (X.wish E) pins σ H s := ⟨I.ok.wish E, I.os, I.bare, I.base, I.loc, I.cell, I.free, I.freeC, I.pin, I.hok, I.len⟩
theorem Inv.unwish (I : Inv (X.wish E) pins σ H s) : Inv X pins σ H s := ⟨I.ok.unwish, I.os, I.bare, I.base, I.loc, I.cell, I.free, I.freeC, I.pin, I.hok, I.len⟩
theorem SP.unwish {D : Ends} {f : Flow} {s' : Shared} (h : SP (X.wish E) pins D f s') : SP X pins D f s' := by
  cases f with
  | next => obtain ⟨σ', H', I, q⟩ := h; exact ⟨σ', H', I.unwish, q⟩
  | brk => obtain ⟨σ', H', I, q⟩ := h; exact ⟨σ', H', I.unwish, q⟩
  | cont => obtain ⟨σ', H', I, q⟩ := h; exact ⟨σ', H', I.unwish, q⟩
  | ret u => obtain ⟨v, σ', H', I, r, q⟩ := h; exact ⟨v, σ', H', I.unwish, r, q⟩
theorem PE.nox {e : Expr} {t : TE} (h : PE X.nox e t) : PE X e t := fun pins s σ H Q I hw =>
  wpAny_mono (h pins s σ H Q (I.wish _) hw) (fun _ _ ⟨v, H', I', r, q⟩ => ⟨v, H', I'.unwish, r, q⟩) fun _ _ z => False.elim z
theorem PT.nox {e : Expr} {t : TT} (h : PT X.nox e t) : PT X e t := fun pins s σ H Q I hw =>
  wpAny_mono (h pins s σ H Q (I.wish _) hw) (fun _ _ ⟨H', I', q⟩ => ⟨H', I'.unwish, q⟩) fun _ _ z => False.elim z
theorem PSs.nox {st : List Stmt} {t : TS} (h : PSs X.nox st t) : PSs X st t := fun pins s σ H D I hw =>
  wpAny_mono (h pins s σ H D (I.wish _) hw) (fun _ _ q => q.unwish) fun _ _ z => False.elim z
end
section
variable {X : Cx} {st : Stmt} {rest : List Stmt} {t u : TS} {e : Expr} {te : TE} {pos : Pos}
def tNext : TS := fun D σ H => D.nx σ H
def tSeq (t u : TS) : TS := fun D σ H => t { D with nx := u D } σ H
theorem pss_nil : PSs X [] tNext := fun _ _ σ H _ I h => wpAny_execs_nil ⟨σ, H, I, h⟩
theorem pss_cons (h1 : PS X st t) (h2 : PSs X rest u) : PSs X (st :: rest) (tSeq t u) := by
  intro pins s σ H D I h
  refine wpAny_execs_cons (thn (h1 pins s σ H { D with nx := u D } I h) fun f s1 q => ?_)
  cases f with
  | next =>
    obtain ⟨σ', H', I', q⟩ := q
    exact h2 pins s1 σ' H' D I' q
  | ret v => exact q
  | brk => exact q
  | cont => exact q
theorem pss_one (h1 : PS X st t) : PSs X [st] t := by
  intro pins s σ H D I h
  refine wpAny_execs_cons (thn (h1 pins s σ H D I h) fun f s1 q => ?_)
  cases f with
  | next => exact wpAny_execs_nil q
  | ret v => exact q
  | brk => exact q
  | cont => exact q
theorem Inv.quiet {pins : List (Addr × Obj)} {σ : St} {H : Hp} {s : Shared} (I : Inv X pins σ H s) : interactive X.env = false := by simp [interactive, I.ok.kind]
def tDrop (te : TE) : TS := fun D σ H => te σ H fun _ H1 => D.nx σ H1
theorem ps_expr (he : PE X e te) (hs : swapsWith e none pos.line X.env = pure false := by rfl) : PS X (.Expr e pos) (tDrop te) := by
  intro pins s σ H D I h
  exact wpAny_Expr_any (thn (he pins s σ H _ I h) fun v s1 ⟨x, H1, I1, r1, q1⟩ => ⟨σ, H1, I1, q1⟩) I.quiet hs
def tRet (te : TE) : TS := fun D σ H => te σ H D.rt
theorem ps_ret (he : PE X e te) : PS X (.Return (some e) pos) (tRet te) := by
  intro pins s σ H D I h
  exact wpAny_Return_some (thn (he pins s σ H _ I h) fun v s1 ⟨x, H1, I1, r1, q1⟩ => ⟨x, σ, H1, I1, r1, q1⟩)
def tIfS (c : TT) (t u : TS) : TS := fun D σ H => c σ H fun b H1 => if b = true then t D σ H1 else u D σ H1
theorem ps_if {c : Expr} {a b : List Stmt} {tc : TT} (hc : PT X c tc) (ha : PSs X a t) (hb : PSs X b u) : PS X (.If c a b pos) (tIfS tc t u) := by
  intro pins s σ H D I h
  refine wpAny_If (thn (hc pins s σ H _ I h) fun d s1 ⟨H1, I1, q1⟩ => ?_)
  cases d with
  | true => exact ha pins s1 σ H1 D I1 q1
  | false => exact hb pins s1 σ H1 D I1 q1
end
abbrev TG := V → St → Hp → (St → Hp → Prop) → Prop
def PG (X : Cx) (target : Expr) (t : TG) : Prop :=
  ∀ (pins : List (Addr × Obj)) (s : Shared) (σ : St) (H : Hp) (v : V) (u : Value) (Q : St → Hp → Prop), Inv X pins σ H s → RelV v u → t v σ H Q →
    wpAny (model X.prog X.w) X.A (assign target X.env u) (fun _ s' => ∃ σ' H', Inv X pins σ' H' s' ∧ Q σ' H') X.xe s
abbrev TIp := V → V → Hp → VK → Prop
def PIp (X : Cx) (op : Operator) (t : TIp) : Prop :=
  ∀ (pins : List (Addr × Obj)) (s : Shared) (σ : St) (H : Hp) (x y : V) (v u : Value) (Q : VK), Inv X pins σ H s → RelV x v → RelV y u → t x y H Q →
    wpAny (model X.prog X.w) X.A (inplaceOp op v u) (EP X pins σ Q) X.xe s
section
variable {X : Cx} {pos : Pos}
def gName (i : Nat) : TG := fun v σ H Q => Q (σ.set i (some v)) H
theorem pg_name {i : Nat} {x : Str} (hN : X.N.Nodup) (hi : X.N[i]? = some x) (hx : Loc X.env.scope x) (hf : X.fn x = true ∨ X.env.scope.names.lookup x = some .local := by first | exact .inl rfl | exact .inr rfl | assumption) : PG X (.Name x pos) (gName i) := by
  intro pins s σ H v u Q I r h
  exact wpAny_assign_Name (store_ok I hN hi hx r (fun s' I' => ⟨_, H, I', h⟩) hf)
def tAsg (te : TE) (g : TG) : TS := fun D σ H => te σ H fun x H1 => g x σ H1 D.nx
theorem ps_set {i : Nat} {x : Str} {e : Expr} {te : TE} {pos' : Pos} (hN : X.N.Nodup) (hi : X.N[i]? = some x) (hx : Loc X.env.scope x) (he : PE X e te) (hs : swapsWith e (some (.Name x pos')) pos.line X.env = pure false := by rfl) (hf : X.fn x = true ∨ X.env.scope.names.lookup x = some .local := by first | exact .inl rfl | exact .inr rfl | assumption) :
    PS X (.Assign [.Name x pos'] e pos) (tAsg te (gName i)) := by
  intro pins s σ H D I h
  refine wpAny_Assign_Name (thn (he pins s σ H _ I h) fun v s1 ⟨y, H1, I1, r1, q1⟩ => ?_) hs
  exact store_ok I1 hN hi hx r1 (fun s2 I2 => ⟨_, H1, I2, q1⟩) hf
def tAug (i : Nat) (te : TE) (ti : TIp) : TS := fun D σ H => ∃ x, σ[i]? = some (some x) ∧ te σ H fun y H1 => ti x y H1 fun z H2 => D.nx (σ.set i (some z)) H2
theorem ps_aug {i : Nat} {x : Str} {e : Expr} {te : TE} {op : Operator} {ti : TIp} {pos' : Pos} (hN : X.N.Nodup) (hi : X.N[i]? = some x) (hx : Loc X.env.scope x) (he : PE X e te) (ho : PIp X op ti) (hf : X.fn x = true ∨ X.env.scope.names.lookup x = some .local := by first | exact .inl rfl | exact .inr rfl | assumption) :
    PS X (.AugAssign (.Name x pos') op e pos) (tAug i te ti) := by
  intro pins s σ H D I h
  obtain ⟨v, e1, h⟩ := h
  obtain ⟨m, hn, hl⟩ := I.loc
  have vis : Vis X.env.scope x := by rcases hx with k | k; exact .inl k; exact .inr (.inl k)
  obtain ⟨u, r, l⟩ := hl i x v hi e1 vis
  refine wpAny_AugAssign_Name ?_
  have go : wpAny (model X.prog X.w) X.A (eval e X.env) (fun w s₂ => wpAny (model X.prog X.w) X.A (inplaceOp op u w) (fun r s₃ => wpAny (model X.prog X.w) X.A (storeName X.env x r) (fun _ => SP X pins D .next) X.xe s₃) X.xe s₂) X.xe s := by
    refine thn (he pins s σ H _ I h) fun w s1 ⟨y, H1, I1, r1, q1⟩ => ?_
    refine thn (ho pins s1 σ H1 v y u w _ I1 r r1 q1) fun z s2 ⟨zv, H2, I2, r2, q2⟩ => ?_
    exact store_ok I2 hN hi hx r2 (fun s3 I3 => ⟨_, H2, I3, q2⟩) hf
  rcases l with ⟨hk, hm⟩ | ⟨hk, c, hc, hcell⟩
  · exact wpAny_loadName_local I.ok.kind hk hn hm go
  · rcases hk with hk | hk
    · exact wpAny_loadName_cell I.ok.kind hk hc hcell go
    · rcases hx with k | k
      · have : X.env.scope.names.lookup x = some .free := hk
        rw [k] at this; cases this
      · have : X.env.scope.names.lookup x = some .free := hk
        rw [k] at this; cases this
def ipI (f : Int → Int → Int) : TIp := fun x y H Q => ∃ i j, x = .int i ∧ y = .int j ∧ Q (.int (f i j)) H
theorem ip_add : PIp X .Add (ipI fun i j => i + j) := by
  intro pins s σ H x y v u Q I r1 r2 h
  obtain ⟨i, j, e1, e2, q⟩ := h
  subst e1; subst e2
  obtain ⟨t, rfl⟩ := r1
  obtain ⟨t', rfl⟩ := r2
  exact iadd_int ⟨.int _, H, I.tok _, ⟨_, rfl⟩, q⟩
end
section
variable {X : Cx} {pos : Pos}
def tWhile (c : TT) (tb : TS) : TS := fun D σ H => ∃ W : Nat → St → Hp → Prop, (∃ m, W m σ H) ∧ ∀ m σ H, W m σ H →
  c σ H fun b H1 => if b = true then ∃ N : St → Hp → Prop, (∀ σ' H', N σ' H' → ∃ m', m' < m ∧ W m' σ' H') ∧ tb { D with nx := N, ct := N, bk := D.nx } σ H1 else D.nx σ H1
theorem ps_while {c : Expr} {body : List Stmt} {tc : TT} {tb : TS} (hp : PassesOwn (model X.prog X.w) X.A X.env X.xe) (hc : PT X c tc) (hb : PSs X body tb) : PS X (.While c body [] pos) (tWhile tc tb) := by
  intro pins s σ H D I h
  obtain ⟨W, ⟨m0, w0⟩, turn⟩ := h
  refine wpAny_While (codeAny_whileLoop (fun n s' => ∃ σ' H', Inv X pins σ' H' s' ∧ W n σ' H') ?_ m0 ⟨σ, H, I, w0⟩)
  rintro n s1 ⟨σ1, H1, I1, w1⟩
  refine wpAny_passesOwn hp (thn (hc pins s1 σ1 H1 _ I1 (turn n σ1 H1 w1)) fun b s2 ⟨H2, I2, q2⟩ => ?_)
  cases b with
  | true =>
    obtain ⟨N, hN, q2⟩ := q2
    rw [if_pos rfl]
    refine wpAny_passesOwn hp (thn (hb pins s2 σ1 H2 _ I2 q2) fun f s3 q3 => ?_)
    cases f with
    | next =>
      obtain ⟨σ3, H3, I3, n3⟩ := q3
      obtain ⟨m', hm, w3⟩ := hN σ3 H3 n3
      exact ⟨m', hm, σ3, H3, I3, w3⟩
    | cont =>
      obtain ⟨σ3, H3, I3, n3⟩ := q3
      obtain ⟨m', hm, w3⟩ := hN σ3 H3 n3
      exact ⟨m', hm, σ3, H3, I3, w3⟩
    | brk => exact q3
    | ret v => exact q3
  | false =>
    rw [if_neg Bool.false_ne_true]
    exact wpAny_execs_nil ⟨σ1, H2, I2, q2⟩
end
structure It where
  go : Nat → Hp → Prop
  yld : Nat → Hp → V → Hp → Prop
  stop : Nat → Hp → Prop
def FpOk (X : Cx) (pins : List (Addr × Obj)) (H : Hp) (b : Addr) : Prop :=
  H b = none ∧ b ≠ X.env.locals ∧ b ∉ X.fs ∧ (b ∈ X.ex ∨ X.s_0.heap.objs.size ≤ b) ∧ (∀ x c, X.env.cells.lookup x = some c → c ≠ b) ∧ ∀ p ∈ X.pn ++ pins, p.1 ≠ b
theorem Inv.fpOk {X : Cx} {pins : List (Addr × Obj)} {σ : St} {H H' : Hp} {s : Shared} {b : Addr} (I : Inv X pins σ H s) (hb : s.heap.objs.size ≤ b) (hn : H' b = none) : FpOk X pins H' b := by
  refine ⟨hn, Nat.ne_of_gt (Nat.lt_of_lt_of_le I.lt hb), I.nofs hb, .inr (Nat.le_trans I.sz hb), fun x c e z => ?_, fun p hp z => ?_⟩
  · obtain ⟨v, q⟩ := I.cell x c e
    exact absurd (Nat.lt_of_lt_of_le q.lt (by rw [z]; exact hb)) (Nat.lt_irrefl _)
  · exact absurd (Nat.lt_of_lt_of_le (Heap.lt_size (I.pin p hp).1) (by rw [z]; exact hb)) (Nat.lt_irrefl _)
structure Turn (P : Program) (w : World) (K : PySem.W.Frag) (tg : Expr) (J : It) (fp : List Addr) (it : Addr) (tn : Nat → Heap → Prop) : Prop where
  mem : it ∈ fp
  obj : ∀ i h, tn i h → ∀ b ∈ fp, ∃ o, h.get? b = some o ∧ ∀ v, o.data ≠ .cell v
  keep : ∀ i h h', tn i h → (∀ b ∈ fp, ∀ o, h.get? b = some o → h'.get? b = some o) → tn i h'
  item : ∀ (X : Cx), X.prog = P → X.w = w → X.K = K → X.calm = true → ∀ (i : Nat) (pins : List (Addr × Obj)) (s : Shared) (σ : St) (H : Hp) (E : Value → Shared → Prop), Inv X pins σ H s → (∀ b ∈ fp, FpOk X pins H b) → tn i s.heap → J.go i H →
    wpAny (model P w) X.A (pyNext (.ref it)) (fun r s1 => ∃ u, r = some u ∧
      wpAny (model P w) X.A (letOwnedTupleGo tg (.ref it) u) (fun _ s2 => ∃ x H', Inv X pins σ H' s2 ∧ RelV x u ∧ J.yld i H x H' ∧ tn (i + 1) s2.heap ∧ ∀ b ∈ fp, H' b = none) E s1) E s
  done : ∀ (X : Cx), X.prog = P → X.w = w → X.K = K → X.calm = true → ∀ (i : Nat) (pins : List (Addr × Obj)) (s : Shared) (σ : St) (H : Hp) (E : Value → Shared → Prop), Inv X pins σ H s → (∀ b ∈ fp, FpOk X pins H b) → tn i s.heap → J.stop i H →
    wpAny (model P w) X.A (pyNext (.ref it)) (fun r s1 => r = none ∧ Inv X pins σ H s1) E s
  self : ∀ (A : Around) (i : Nat) (s : Shared) (Q : Value → Shared → Prop) (E : Value → Shared → Prop), tn i s.heap → Q (.ref it) s → wpAny (model P w) A (pyIter (.ref it)) Q E s
abbrev TI := St → Hp → (It → Hp → Prop) → Prop
def PIE (X : Cx) (pins : List (Addr × Obj)) (σ : St) (tg : Expr) (R : It → Hp → Prop) (itv : Value) (s2 : Shared) : Prop :=
  ∃ (it : Addr) (fp : List Addr) (tn : Nat → Heap → Prop) (J : It) (H' : Hp), itv = .ref it ∧ Inv X pins σ H' s2 ∧ Turn X.prog X.w X.K tg J fp it tn ∧ tn 0 s2.heap ∧ (∀ b ∈ fp, FpOk X pins H' b) ∧ R J H'
def PI (X : Cx) (tg iter : Expr) (wi : TI) : Prop :=
  ∀ (pins : List (Addr × Obj)) (s : Shared) (σ : St) (H : Hp) (R : It → Hp → Prop), Inv X pins σ H s → wi σ H R →
    wpAny (model X.prog X.w) X.A (eval iter X.env) (fun v s1 => wpAny (model X.prog X.w) X.A (pyIter v) (PIE X pins σ tg R) X.xe s1) X.xe s
theorem go_of {M : Model} {A : Around} {E : Value → Shared → Prop} {s : Shared} {tg : Expr} {it : Addr} {u : Value} {o : Obj} {n : String} {vs : Array Value} {Q : Unit → Shared → Prop} (ho : s.heap.get? it = some o) (hc : o.cls = .type n) (hd : o.data = .fields vs)
    (hn : ["enumerate", "zip", "dict_itemiterator", "dict_reverseitemiterator", "odict_iterator", "itertools.zip_longest", "itertools.pairwise"].contains n = false) (hQ : Q () s) : wpAny M A (letOwnedTupleGo tg (.ref it) u) Q E s := by
  unfold letOwnedTupleGo
  cases tg <;> first
    | exact wpAny_pure hQ
    | (cases u <;> first
        | exact wpAny_pure hQ
        | (refine wpAny_bind (wpAny_load ho ?_)
           rw [hc, hd]
           show wpAny M A (if (["enumerate", "zip", "dict_itemiterator", "dict_reverseitemiterator", "odict_iterator", "itertools.zip_longest", "itertools.pairwise"].contains n && vs[0]? == some (rawInt _)) = true then _ else _) Q E s
           rw [if_neg (by intro h; rw [hn, Bool.false_and] at h; cases h)]
           exact wpAny_pure hQ))
def Itl (K : PySem.W.Frag) (a : Addr) : It :=
  ⟨fun i H => ∃ xs x, SqL K H a xs ∧ xs[i]? = some x, fun i H x H' => H' = H ∧ ∀ xs, SqL K H a xs → xs[i]? = some x, fun i H => ∃ xs, SqL K H a xs ∧ xs.length ≤ i⟩
def Itt (K : PySem.W.Frag) (a : Addr) : It :=
  ⟨fun i H => ∃ xs x, SqT K H a xs ∧ xs[i]? = some x, fun i H x H' => H' = H ∧ ∀ xs, SqT K H a xs → xs[i]? = some x, fun i H => ∃ xs, SqT K H a xs ∧ xs.length ≤ i⟩
def Itr (lo : Int) (n : Nat) : It := ⟨fun i _ => i < n, fun i H x H' => H' = H ∧ x = .int (lo + i), fun i _ => n ≤ i⟩
theorem turn_list {P : Program} {w : World} {K : PySem.W.Frag} {tg : Expr} (a it : Addr) : Turn P w K tg (Itl K a) [it] it (fun i h => h.IsListIter it a i) where
  mem := by simp
  obj := fun i h st b hb => by
    have e : b = it := by simpa using hb
    subst e
    obtain ⟨o, e, c, d⟩ := st
    exact ⟨o, e, fun v z => by rw [d] at z; cases z⟩
  keep := fun i h h' st k => st.at fun o e => k it (by simp) o e
  item := by
    intro X hP hw hK hc i pins s σ H E I hf st hg
    subst hP hw hK
    obtain ⟨xs, x, hq, hx⟩ := hg
    obtain ⟨its, rv, p, hz⟩ := I.list hq
    obtain ⟨u, hu, ru⟩ := rv.get hx
    obtain ⟨f0, f1, f2, f3, f4, f5⟩ := hf it (by simp)
    refine wpAny_pyNext_list_item st p.isList (x := u) (by simpa using hu) fun h' st' sb => ?_
    have I1 : Inv X pins σ H { s with heap := h' } := I.turned (t' := s.toks) (fun b o hb e => (sb.2 b hb).trans e) f0 f1 f3 f4 f5
    obtain ⟨o, e, c, d⟩ := id st'
    exact ⟨u, rfl, go_of (s := { s with heap := h' }) e c d (by decide) ⟨x, H, I1, ru, ⟨rfl, fun ys hy => by rw [I.list_inj hy hq]; exact hx⟩, st', fun b hb => (hf b hb).1⟩⟩
  done := by
    intro X hP hw hK hc i pins s σ H E I hf st hg
    subst hP hw hK
    obtain ⟨xs, hq, hx⟩ := hg
    obtain ⟨its, rv, p, hz⟩ := I.list hq
    obtain ⟨f0, f1, f2, f3, f4, f5⟩ := hf it (by simp)
    have hl := rv.length
    exact wpAny_pyNext_list_end (I.ok.hd hc) st p.isList (by simp; omega) fun h' eb => ⟨rfl, I.turned (t' := s.toks) (fun b o hb e => eb b o hb e) f0 f1 f3 f4 f5⟩
  self := fun _ _ _ _ _ st h => wpAny_pyIter_listiter st h
theorem turn_tuple {P : Program} {w : World} {K : PySem.W.Frag} {tg : Expr} (a it : Addr) : Turn P w K tg (Itt K a) [it] it (fun i h => h.IsTupleIter it a i) where
  mem := by simp
  obj := fun i h st b hb => by
    have e : b = it := by simpa using hb
    subst e
    obtain ⟨o, e, c, d⟩ := st
    exact ⟨o, e, fun v z => by rw [d] at z; cases z⟩
  keep := fun i h h' st k => st.at fun o e => k it (by simp) o e
  item := by
    intro X hP hw hK hc i pins s σ H E I hf st hg
    subst hP hw hK
    obtain ⟨xs, x, hq, hx⟩ := hg
    obtain ⟨its, rv, p, hz⟩ := I.tuple hq
    obtain ⟨u, hu, ru⟩ := rv.get hx
    obtain ⟨f0, f1, f2, f3, f4, f5⟩ := hf it (by simp)
    refine wpAny_pyNext_tuple_item st (show s.heap.IsTuple a its.toArray from p) (x := u) (by simpa using hu) fun h' st' sb => ?_
    have I1 : Inv X pins σ H { s with heap := h' } := I.turned (t' := s.toks) (fun b o hb e => (sb.2 b hb).trans e) f0 f1 f3 f4 f5
    obtain ⟨o, e, c, d⟩ := id st'
    exact ⟨u, rfl, go_of (s := { s with heap := h' }) e c d (by decide) ⟨x, H, I1, ru, ⟨rfl, fun ys hy => by rw [I.tuple_inj hy hq]; exact hx⟩, st', fun b hb => (hf b hb).1⟩⟩
  done := by
    intro X hP hw hK hc i pins s σ H E I hf st hg
    subst hP hw hK
    obtain ⟨xs, hq, hx⟩ := hg
    obtain ⟨its, rv, p, hz⟩ := I.tuple hq
    obtain ⟨f0, f1, f2, f3, f4, f5⟩ := hf it (by simp)
    have hl := rv.length
    exact wpAny_pyNext_tuple_end (I.ok.hd hc) st (show s.heap.IsTuple a its.toArray from p) (by simp; omega) fun h' eb => ⟨rfl, I.turned (t' := s.toks) (fun b o hb e => eb b o hb e) f0 f1 f3 f4 f5⟩
  self := fun _ _ _ _ _ st h => wpAny_pyIter_tupleiter st h
theorem turn_range {P : Program} {w : World} {K : PySem.W.Frag} {tg : Expr} (it : Addr) (lo : Int) (n : Nat) : Turn P w K tg (Itr lo n) [it] it (fun i h => IsRangeIter h it (lo + (i : Nat) * 1) ((n : Int) - (i : Nat)) 1) where
  mem := by simp
  obj := fun i h st b hb => by
    have e : b = it := by simpa using hb
    subst e
    exact ⟨_, st, fun v z => by
      have z' : Data.fields _ = Data.cell v := z
      cases z'⟩
  keep := fun i h h' st k => k it (by simp) _ st
  item := by
    intro X hP hw hK hc i pins s σ H E I hf st hg
    subst hP hw hK
    obtain ⟨f0, f1, f2, f3, f4, f5⟩ := hf it (by simp)
    have W := Walks.range (prog := X.prog) (w := X.w) (I.ok.hd hc) it lo 1 n
    refine W.item i s _ _ hg st fun v h' tk hv st' kk => ?_
    obtain ⟨t, rfl⟩ := hv
    have I1 : Inv X pins σ H { s with heap := h', toks := tk } := I.turned (fun b o hb e => kk b o (by simpa using hb) e) f0 f1 f3 f4 f5
    refine ⟨_, rfl, go_of (s := { s with heap := h', toks := tk }) (n := "range_iterator") st' rfl rfl (by decide) ⟨.int (lo + i), H, I1, ⟨t, ?_⟩, ⟨rfl, rfl⟩, st', fun b hb => (hf b hb).1⟩⟩
    rw [Int.mul_one]
  done := by
    intro X hP hw hK hc i pins s σ H E I hf st hg
    subst hP hw hK
    obtain ⟨f0, f1, f2, f3, f4, f5⟩ := hf it (by simp)
    exact wpAny_pyNext_range_end (I.ok.hd hc) st (by have : n ≤ i := hg; omega) fun h' eb => ⟨rfl, I.turned (t' := s.toks) (fun b o hb e => eb b o hb e) f0 f1 f3 f4 f5⟩
  self := fun _ _ _ _ _ st h => wpAny_pyIter_rangeiter st h
end L2
namespace L2
open PySem PySem.Spec PyProof.Rows
section
variable {X : Cx} {tg : Expr}
def iList (K : PySem.W.Frag) (tl : TE) : TI := fun σ H R => tl σ H fun x H1 => ∃ a, x = .ref a ∧ (∃ xs, SqL K H1 a xs) ∧ R (Itl K a) H1
def iTup (K : PySem.W.Frag) (tl : TE) : TI := fun σ H R => tl σ H fun x H1 => ∃ a, x = .ref a ∧ (∃ xs, SqT K H1 a xs) ∧ R (Itt K a) H1
theorem pi_list {l : Expr} {tl : TE} (hl : PE X l tl) : PI X tg l (iList X.K tl) := by
  intro pins s σ H R I h
  refine thn (hl pins s σ H _ I h) fun v s1 ⟨x, H1, I1, r1, q1⟩ => ?_
  obtain ⟨a, e, ⟨xs, hq⟩, q⟩ := q1
  subst e
  cases r1
  obtain ⟨its, rv, p, hz⟩ := I1.list hq
  refine wpAny_pyIter_list p.isList ?_
  refine ⟨s1.heap.objs.size, [s1.heap.objs.size], _, _, H1, rfl, I1.kept (t' := s1.toks) fun b o e => Heap.get?_push_of_some _ e, turn_list a _, ⟨_, Heap.get?_push_size _ rfl, rfl, rfl⟩, fun b hb => ?_, q⟩
  have e : b = s1.heap.objs.size := by simpa using hb
  subst e
  exact I1.fpOk (Nat.le_refl _) (I1.hok.fresh (Nat.le_refl _))
theorem pi_tup {l : Expr} {tl : TE} (hl : PE X l tl) : PI X tg l (iTup X.K tl) := by
  intro pins s σ H R I h
  refine thn (hl pins s σ H _ I h) fun v s1 ⟨x, H1, I1, r1, q1⟩ => ?_
  obtain ⟨a, e, ⟨xs, hq⟩, q⟩ := q1
  subst e
  cases r1
  obtain ⟨its, rv, p, hz⟩ := I1.tuple hq
  refine wpAny_pyIter_tuple (show s1.heap.IsTuple a its.toArray from p) ?_
  refine ⟨s1.heap.objs.size, [s1.heap.objs.size], _, _, H1, rfl, I1.kept (t' := s1.toks) fun b o e => Heap.get?_push_of_some _ e, turn_tuple a _, ⟨_, Heap.get?_push_size _ rfl, rfl, rfl⟩, fun b hb => ?_, q⟩
  have e : b = s1.heap.objs.size := by simpa using hb
  subst e
  exact I1.fpOk (Nat.le_refl _) (I1.hok.fresh (Nat.le_refl _))
theorem range_it {pins : List (Addr × Obj)} {σ : St} {H : Hp} {s : Shared} {R : It → Hp → Prop} {E : Value → Shared → Prop} {lo hi : Int} {t u v : Tok} {tk : Nat} (I : Inv X pins σ H s) (h1 : -(2 ^ 62) ≤ lo) (h2 : lo < 2 ^ 62) (h3 : -(2 ^ 62) ≤ hi) (h4 : hi < 2 ^ 62)
    (q : R (Itr lo (hi - lo).toNat) H) : wpAny (model X.prog X.w) X.A (pyIter (.ref s.heap.objs.size)) (PIE X pins σ tg R) E { s with heap := s.heap.push { cls := .type "range", data := .fields #[.int lo t, .int hi u, .int 1 v] }, toks := tk } := by
  refine wpAny_pyIter_range (IsRange.new ..) (small_one h1 h2 h3 h4) ?_
  have I1 : Inv X pins σ H { s with heap := s.heap.push { cls := .type "range", data := .fields #[.int lo t, .int hi u, .int 1 v] }, toks := tk } := I.kept fun b o e => Heap.get?_push_of_some _ e
  refine ⟨(s.heap.push { cls := .type "range", data := .fields #[.int lo t, .int hi u, .int 1 v] }).objs.size, [(s.heap.push { cls := .type "range", data := .fields #[.int lo t, .int hi u, .int 1 v] }).objs.size], _, _, H, rfl,
    I1.kept (t' := tk) fun b o e => Heap.get?_push_of_some _ e, turn_range _ lo (hi - lo).toNat, ?_, fun b hb => ?_, q⟩
  · have e1 : lo + ((0 : Nat) : Int) * 1 = lo := by simp
    have e2 : (((hi - lo).toNat : Nat) : Int) - ((0 : Nat) : Int) = Builtin.Range.rangeSize lo hi 1 := by rw [rangeSize_one]; split <;> omega
    show IsRangeIter _ _ (lo + ((0 : Nat) : Int) * 1) ((((hi - lo).toNat : Nat) : Int) - ((0 : Nat) : Int)) 1
    rw [e1, e2]
    exact Heap.get?_push_size _ rfl
  · have e : b = (s.heap.push { cls := .type "range", data := .fields #[.int lo t, .int hi u, .int 1 v] }).objs.size := by simpa using hb
    subst e
    exact I1.fpOk (Nat.le_refl _) (I1.hok.fresh (Nat.le_refl _))
def iRng1 (ta : TA) : TI := fun σ H R => ta σ H fun vs H1 => ∃ j : Int, vs = [.int j] ∧ -(2 ^ 62) ≤ j ∧ j < 2 ^ 62 ∧ R (Itr 0 j.toNat) H1
def iRng2 (ta : TA) : TI := fun σ H R => ta σ H fun vs H1 => ∃ i j : Int, vs = [.int i, .int j] ∧ (-(2 ^ 62) ≤ i ∧ i < 2 ^ 62 ∧ -(2 ^ 62) ≤ j ∧ j < 2 ^ 62) ∧ R (Itr i (j - i).toNat) H1
theorem pi_range1 {a : Expr} {ta : TA} {p pos : Pos} (hg : Gl X "range") (hm : X.mg "range" = none) (ha : PA X [a] ta) (hs : starEach [a] X.env = [(false, eval a X.env)] := by rfl) : PI X tg (.Call (.Name "range" p) [a] [] pos) (iRng1 ta) := by
  intro pins s σ H R I h
  refine Call_ (ld_blt I hg hm boot_range (PyProof.Rows.callWith_type1 (thn (ha pos pins s σ H _ I h) fun us s1 ⟨vs, H1, I1, r1, q1⟩ => ?_) hs rfl))
  obtain ⟨j, e, q1, q2, q⟩ := q1
  subst e
  cases r1 with
  | cons r rr =>
    cases rr
    obtain ⟨t, rfl⟩ := r
    exact call_range_1 (range_it I1 (by omega) (by omega) q1 q2 (by simpa using q))
theorem pi_range2 {a b : Expr} {ta : TA} {p pos : Pos} (hg : Gl X "range") (hm : X.mg "range" = none) (ha : PA X [a, b] ta) (hs : starEach [a, b] X.env = [(false, eval a X.env), (false, eval b X.env)] := by rfl) (hs2 : starEach [b] X.env = [(false, eval b X.env)] := by rfl) :
    PI X tg (.Call (.Name "range" p) [a, b] [] pos) (iRng2 ta) := by
  intro pins s σ H R I h
  refine Call_ (ld_blt I hg hm boot_range (PyProof.Rows.callWith_type1 (thn (ha pos pins s σ H _ I h) fun us s1 ⟨vs, H1, I1, r1, q1⟩ => ?_) (by rw [hs, hs2]) (by rw [hs2]; rfl)))
  obtain ⟨i, j, e, ⟨q1, q2, q3, q4⟩, q⟩ := q1
  subst e
  cases r1 with
  | cons r rr =>
    cases rr with
    | cons r' rr =>
      cases rr
      obtain ⟨t, rfl⟩ := r
      obtain ⟨t', rfl⟩ := r'
      exact call_range_2 (range_it I1 q1 q2 q3 q4 q)
def tFor (wi : TI) (g : TG) (tb : TS) : TS := fun D σ H => wi σ H fun J H1 => ∃ W : Nat → Nat → St → Hp → Prop, (∃ m, W 0 m σ H1) ∧ ∀ i m σ H, W i m σ H →
  (J.stop i H ∧ D.nx σ H) ∨ (J.go i H ∧ ∃ N : St → Hp → Prop, (∀ σ' H', N σ' H' → ∃ m', m' < m ∧ W (i + 1) m' σ' H') ∧ ∀ x H', J.yld i H x H' → g x σ H' fun σ2 H2 => tb { D with nx := N, ct := N, bk := D.nx } σ2 H2)
def pinsAt (fp : List Addr) (h : Heap) : List (Addr × Obj) := fp.filterMap fun b => (h.get? b).map fun o => (b, o)
theorem mem_pinsAt {fp : List Addr} {h : Heap} {b : Addr} {o : Obj} (hb : b ∈ fp) (e : h.get? b = some o) : (b, o) ∈ pinsAt fp h := List.mem_filterMap.mpr ⟨b, hb, by rw [e]; rfl⟩
theorem of_pinsAt {fp : List Addr} {h : Heap} {p : Addr × Obj} (hp : p ∈ pinsAt fp h) : p.1 ∈ fp ∧ h.get? p.1 = some p.2 := by
  obtain ⟨b, hb, e⟩ := List.mem_filterMap.mp hp
  cases q : h.get? b with
  | none => rw [q] at e; cases e
  | some o =>
    rw [q] at e
    have e' : (b, o) = p := Option.some.inj e
    subst e'
    exact ⟨hb, q⟩
theorem Inv.pinned {pins : List (Addr × Obj)} {σ : St} {H : Hp} {s : Shared} {fp : List Addr} (I : Inv X pins σ H s) (hf : ∀ b ∈ fp, FpOk X pins H b) (ho : ∀ b ∈ fp, ∃ o, s.heap.get? b = some o ∧ ∀ v, o.data ≠ .cell v) : Inv X (pins ++ pinsAt fp s.heap) σ H s :=
  I.pins_of fun p hp => (List.mem_append.mp hp).elim (fun z => I.pin p (List.mem_append_right _ z)) fun z => by
    obtain ⟨hb, e⟩ := of_pinsAt z
    obtain ⟨f0, f1, f2, _⟩ := hf p.1 hb
    obtain ⟨o, e', d⟩ := ho p.1 hb
    rw [e] at e'; cases e'
    exact ⟨e, f0, f1, f2, d⟩
theorem Inv.unpinned {pins pl : List (Addr × Obj)} {σ : St} {H : Hp} {s : Shared} (I : Inv X (pins ++ pl) σ H s) : Inv X pins σ H s := I.pins_of fun p hp => I.pin p (List.mem_append_right _ (List.mem_append_left _ hp))
theorem ps_for {iter : Expr} {body : List Stmt} {wi : TI} {g : TG} {tb : TS} {pos : Pos} (hp : PassesOwn (model X.prog X.w) X.A X.env X.xe) (hc : X.calm = true) (hi : PI X tg iter wi) (hg : PG X tg g) (hb : PSs X body tb)
    (hs : ∀ x, foldedSetIterable iter X.env x = pure x := by intro _; rfl) : PS X (.For tg iter body [] pos) (tFor wi g tb) := by
  intro pins s σ H D I h
  refine wpAny_For (thn (hi pins s σ H _ I h) fun v s1 h1 => thn h1 fun itv s2 h2 => ?_) hs
  obtain ⟨it, fp, tn, J, H2, e, I2, T, st2, f2, W, ⟨m0, w0⟩, turn⟩ := h2
  subst e
  have stat : ∀ {H' : Hp}, (∀ b ∈ fp, H' b = none) → ∀ b ∈ fp, FpOk X pins H' b := fun hn b hb => ⟨hn b hb, (f2 b hb).2⟩
  refine codeAny_forLoop_any (fun n s' => ∃ i σ' H', Inv X pins σ' H' s' ∧ tn i s'.heap ∧ (∀ b ∈ fp, H' b = none) ∧ W i n σ' H') ?_ m0 ⟨0, σ, H2, I2, st2, fun b hb => (f2 b hb).1, w0⟩
  rintro n s3 ⟨i, σ3, H3, I3, st3, fr3, w3⟩
  rcases turn i n σ3 H3 w3 with ⟨stop, qn⟩ | ⟨go, N, hN, step⟩
  · refine wpAny_passesOwn hp (thn (T.done X rfl rfl rfl hc i pins s3 σ3 H3 X.xe I3 (stat fr3) st3 stop) fun r s4 ⟨hr, I4⟩ => ?_)
    subst hr
    exact wpAny_execs_nil ⟨σ3, H3, I4, qn⟩
  · refine wpAny_passesOwn hp (thn (T.item X rfl rfl rfl hc i pins s3 σ3 H3 X.xe I3 (stat fr3) st3 go) fun r s4 ⟨u, hr, h4⟩ => ?_)
    subst hr
    refine wpAny_passesOwn hp (thn h4 fun _ s5 ⟨x, H5, I5, r5, y5, st5, fr5⟩ => ?_)
    have I5' := I5.pinned (stat fr5) (T.obj _ _ st5)
    refine wpAny_passesOwn hp (thn (hg _ s5 σ3 H5 x u _ I5' r5 (step x H5 y5)) fun _ s6 ⟨σ6, H6, I6, q6⟩ => ?_)
    refine wpAny_passesOwn hp (thn (hb _ s6 σ6 H6 _ I6 q6) fun f s7 q7 => ?_)
    have again : ∀ {σ7 : St} {H7 : Hp}, Inv X (pins ++ pinsAt fp s5.heap) σ7 H7 s7 → N σ7 H7 → ∃ m, m < n ∧ ∃ i σ' H', Inv X pins σ' H' s7 ∧ tn i s7.heap ∧ (∀ b ∈ fp, H' b = none) ∧ W i m σ' H' := fun {σ7 H7} I7 n7 => by
      obtain ⟨m', hm, w7⟩ := hN σ7 H7 n7
      refine ⟨m', hm, i + 1, σ7, H7, I7.unpinned, T.keep _ _ _ st5 fun b hb o e => (I7.pin (b, o) (List.mem_append_right _ (List.mem_append_right _ (mem_pinsAt hb e)))).1, fun b hb => ?_, w7⟩
      obtain ⟨o, e, d⟩ := T.obj _ _ st5 b hb
      exact (I7.pin (b, o) (List.mem_append_right _ (List.mem_append_right _ (mem_pinsAt hb e)))).2.1
    cases f with
    | next => obtain ⟨σ7, H7, I7, n7⟩ := q7; exact again I7 n7
    | cont => obtain ⟨σ7, H7, I7, n7⟩ := q7; exact again I7 n7
    | brk => obtain ⟨σ7, H7, I7, q7⟩ := q7; exact ⟨σ7, H7, I7.unpinned, q7⟩
    | ret v => obtain ⟨x7, σ7, H7, I7, r7, q7⟩ := q7; exact ⟨x7, σ7, H7, I7.unpinned, r7, q7⟩
end
theorem for_list {K : PySem.W.Frag} {a : Addr} {xs : List V} {g : TG} {tb : TS} {D : Ends} {σ : St} {H : Hp} (Pv : Nat → St → Hp → Prop) (h0 : Pv 0 σ H) (hl : ∀ i σ H, i ≤ xs.length → Pv i σ H → SqL K H a xs)
    (hs : ∀ i x σ H, xs[i]? = some x → Pv i σ H → g x σ H fun σ2 H2 => tb { D with nx := Pv (i + 1), ct := Pv (i + 1), bk := D.nx } σ2 H2) (hd : ∀ σ H, Pv xs.length σ H → D.nx σ H) :
    ∃ W : Nat → Nat → St → Hp → Prop, (∃ m, W 0 m σ H) ∧ ∀ i m σ H, W i m σ H →
      ((Itl K a).stop i H ∧ D.nx σ H) ∨ ((Itl K a).go i H ∧ ∃ N : St → Hp → Prop, (∀ σ' H', N σ' H' → ∃ m', m' < m ∧ W (i + 1) m' σ' H') ∧ ∀ x H', (Itl K a).yld i H x H' → g x σ H' fun σ2 H2 => tb { D with nx := N, ct := N, bk := D.nx } σ2 H2) := by
  refine ⟨fun i m σ H => m = xs.length - i ∧ i ≤ xs.length ∧ Pv i σ H, ⟨xs.length, by simp, Nat.zero_le _, h0⟩, ?_⟩
  rintro i m σ H ⟨rfl, hi, p⟩
  have q := hl i σ H hi p
  by_cases hlt : i < xs.length
  · refine .inr ⟨⟨xs, xs[i], q, by simp [hlt]⟩, Pv (i + 1), fun σ' H' p' => ⟨xs.length - (i + 1), by omega, rfl, hlt, p'⟩, fun x H' y => ?_⟩
    obtain ⟨e, y⟩ := y
    subst e
    exact hs i x σ _ (y xs q) p
  · have e : i = xs.length := by omega
    subst e
    exact .inl ⟨⟨xs, q, Nat.le_refl _⟩, hd σ H p⟩
theorem for_range {lo : Int} {n : Nat} {g : TG} {tb : TS} {D : Ends} {σ : St} {H : Hp} (Pv : Nat → St → Hp → Prop) (h0 : Pv 0 σ H)
    (hs : ∀ i σ H, i < n → Pv i σ H → g (.int (lo + i)) σ H fun σ2 H2 => tb { D with nx := Pv (i + 1), ct := Pv (i + 1), bk := D.nx } σ2 H2) (hd : ∀ σ H, Pv n σ H → D.nx σ H) :
    ∃ W : Nat → Nat → St → Hp → Prop, (∃ m, W 0 m σ H) ∧ ∀ i m σ H, W i m σ H →
      ((Itr lo n).stop i H ∧ D.nx σ H) ∨ ((Itr lo n).go i H ∧ ∃ N : St → Hp → Prop, (∀ σ' H', N σ' H' → ∃ m', m' < m ∧ W (i + 1) m' σ' H') ∧ ∀ x H', (Itr lo n).yld i H x H' → g x σ H' fun σ2 H2 => tb { D with nx := N, ct := N, bk := D.nx } σ2 H2) := by
  refine ⟨fun i m σ H => m = n - i ∧ i ≤ n ∧ Pv i σ H, ⟨n, by simp, Nat.zero_le _, h0⟩, ?_⟩
  rintro i m σ H ⟨rfl, hi, p⟩
  by_cases hlt : i < n
  · refine .inr ⟨hlt, Pv (i + 1), fun σ' H' p' => ⟨n - (i + 1), by omega, rfl, hlt, p'⟩, fun x H' y => ?_⟩
    obtain ⟨e, y⟩ := y
    subst e y
    exact hs i σ _ hlt p
  · have e : i = n := by omega
    subst e
    exact .inl ⟨Nat.le_refl _, hd σ H p⟩
end L2
namespace L2
open PySem PySem.Spec PyProof.Rows
abbrev R2 := V → V → Hp → VK → Prop
def OpR (X : Cx) (f : Value → Value → Sem Value) (r : R2) : Prop :=
  ∀ (pins : List (Addr × Obj)) (s : Shared) (σ : St) (H : Hp) (x y : V) (v u : Value) (Q : VK), Inv X pins σ H s → RelV x v → RelV y u → r x y H Q →
    wpAny (model X.prog X.w) X.A (f v u) (EP X pins σ Q) X.xe s
def UnR (X : Cx) (f : Value → Sem Value) (r : V → Hp → VK → Prop) : Prop :=
  ∀ (pins : List (Addr × Obj)) (s : Shared) (σ : St) (H : Hp) (x : V) (v : Value) (Q : VK), Inv X pins σ H s → RelV x v → r x H Q →
    wpAny (model X.prog X.w) X.A (f v) (EP X pins σ Q) X.xe s
def CallR (X : Cx) (f : Value) (r : List V → Hp → VK → Prop) : Prop :=
  ∀ (pins : List (Addr × Obj)) (s : Shared) (σ : St) (H : Hp) (xs : List V) (us : List Value) (Q : VK), Inv X pins σ H s → Vals xs us → r xs H Q →
    wpAny (model X.prog X.w) X.A (call f us) (EP X pins σ Q) X.xe s
def TruR (X : Cx) (r : V → Hp → (Bool → Hp → Prop) → Prop) : Prop :=
  ∀ (pins : List (Addr × Obj)) (s : Shared) (σ : St) (H : Hp) (x : V) (v : Value) (Q : Bool → Hp → Prop), Inv X pins σ H s → RelV x v → r x H Q →
    wpAny (model X.prog X.w) X.A (truthy v) (TP X pins σ Q) X.xe s
def tOp (r : R2) (ta tb : TE) : TE := fun σ H Q => ta σ H fun x H1 => tb σ H1 fun y H2 => r x y H2 Q
def tUn (r : V → Hp → VK → Prop) (ta : TE) : TE := fun σ H Q => ta σ H fun x H1 => r x H1 Q
def rI (C : Int → Int → Prop) (g : Int → Int → V) : R2 := fun x y H Q => ∃ i j, x = .int i ∧ y = .int j ∧ C i j ∧ Q (g i j) H
def rI0 (g : Int → Int → V) : R2 := fun x y H Q => ∃ i j, x = .int i ∧ y = .int j ∧ Q (g i j) H
def rU (g : Int → V) : V → Hp → VK → Prop := fun x H Q => ∃ i, x = .int i ∧ Q (g i) H
section
variable {X : Cx} {a b c : Expr} {ta tb tc : TE} {pos : Pos}
theorem binT (ha : PE X a ta) (hb : PE X b tb) {pins : List (Addr × Obj)} {s : Shared} {σ : St} {H : Hp} {R : V → V → Hp → Prop} (I : Inv X pins σ H s)
    (h : ta σ H fun x H1 => tb σ H1 fun y H2 => R x y H2) {Q : Value → Shared → Prop} {f : Value → Value → Sem Value}
    (hf : ∀ v u s2 x y H2, Inv X pins σ H2 s2 → RelV x v → RelV y u → R x y H2 → wpAny (model X.prog X.w) X.A (f v u) Q X.xe s2) :
    wpAny (model X.prog X.w) X.A (eval a X.env) (fun v s₁ => wpAny (model X.prog X.w) X.A (eval b X.env) (fun u s₂ => wpAny (model X.prog X.w) X.A (f v u) Q X.xe s₂) X.xe s₁) X.xe s := by
  refine thn (ha pins s σ H _ I h) fun v s1 ⟨x, H1, I1, r1, q1⟩ => ?_
  refine thn (hb pins s1 σ H1 _ I1 q1) fun u s2 ⟨y, H2, I2, r2, q2⟩ => ?_
  exact hf v u s2 x y H2 I2 r1 r2 q2
theorem pe_op {op : Operator} {r : R2} (ho : OpR X (binaryOp op) r) (ha : PE X a ta) (hb : PE X b tb) : PE X (.BinOp a op b pos) (tOp r ta tb) := by
  intro pins s σ H Q I h
  exact wpAny_BinOp (binT ha hb I h fun v u s2 x y H2 I2 rx ry q => ho pins s2 σ H2 x y v u Q I2 rx ry q)
theorem pe_un {op : UnaryOp} {r : V → Hp → VK → Prop} (ho : UnR X (unaryOp op) r) (ha : PE X a ta) : PE X (.UnaryOp op a pos) (tUn r ta) := by
  intro pins s σ H Q I h
  exact UnaryOp_ (thn (ha pins s σ H _ I h) fun v s1 ⟨x, H1, I1, r1, q1⟩ => ho pins s1 σ H1 x v Q I1 r1 q1)
theorem opI {f : Value → Value → Sem Value} {C : Int → Int → Prop} {g : Int → Int → Int}
    (rule : ∀ (i j : Int) (t u : Tok) (s : Shared) (Q : Value → Shared → Prop) (E : Value → Shared → Prop), C i j → Q (.int (g i j) s.toks) { s with toks := s.toks + 1 } → wpAny (model X.prog X.w) X.A (f (.int i t) (.int j u)) Q E s) :
    OpR X f (rI C fun i j => .int (g i j)) := by
  intro pins s σ H x y v u Q I rx ry h
  obtain ⟨i, j, rfl, rfl, hc, q⟩ := h
  obtain ⟨t, rfl⟩ := rx
  obtain ⟨t', rfl⟩ := ry
  exact rule i j t t' s _ _ hc ⟨.int (g i j), H, I.tok _, ⟨_, rfl⟩, q⟩
theorem opI0 {f : Value → Value → Sem Value} {g : Int → Int → Int}
    (rule : ∀ (i j : Int) (t u : Tok) (s : Shared) (Q : Value → Shared → Prop) (E : Value → Shared → Prop), Q (.int (g i j) s.toks) { s with toks := s.toks + 1 } → wpAny (model X.prog X.w) X.A (f (.int i t) (.int j u)) Q E s) :
    OpR X f (rI0 fun i j => .int (g i j)) := by
  intro pins s σ H x y v u Q I rx ry h
  obtain ⟨i, j, rfl, rfl, q⟩ := h
  obtain ⟨t, rfl⟩ := rx
  obtain ⟨t', rfl⟩ := ry
  exact rule i j t t' s _ _ ⟨.int (g i j), H, I.tok _, ⟨_, rfl⟩, q⟩
theorem opB0 {f : Value → Value → Sem Value} {g : Int → Int → Bool}
    (rule : ∀ (i j : Int) (t u : Tok) (s : Shared) (Q : Value → Shared → Prop) (E : Value → Shared → Prop), Q (.bool (g i j)) s → wpAny (model X.prog X.w) X.A (f (.int i t) (.int j u)) Q E s) :
    OpR X f (rI0 fun i j => .bl (g i j)) := by
  intro pins s σ H x y v u Q I rx ry h
  obtain ⟨i, j, rfl, rfl, q⟩ := h
  obtain ⟨t, rfl⟩ := rx
  obtain ⟨t', rfl⟩ := ry
  exact rule i j t t' s _ _ ⟨.bl (g i j), H, I, rfl, q⟩
def CDiv (i j : Int) : Prop := 0 < j ∧ j < 1073741824
def CMul (i j : Int) : Prop := (-(2 ^ 64) < i ∧ i < 2 ^ 64) ∨ (-(2 ^ 64) < j ∧ j < 2 ^ 64)
theorem CMul.ok {i j : Int} (h : CMul i j) : IntMulOk i j := by
  rcases h with ⟨h1, h2⟩ | ⟨h1, h2⟩
  · exact .of_left (intBits_le_64 h1 h2)
  · exact .of_right (intBits_le_64 h1 h2)
theorem op_add : OpR X (binaryOp .Add) (rI0 fun i j => .int (i + j)) := opI0 fun _ _ _ _ _ _ _ q => add_int q
theorem op_sub : OpR X (binaryOp .Sub) (rI0 fun i j => .int (i - j)) := opI0 fun _ _ _ _ _ _ _ q => sub_int q
theorem op_mul : OpR X (binaryOp .Mult) (rI CMul fun i j => .int (i * j)) := opI fun _ _ _ _ _ _ _ hc q => mul_int q hc.ok
theorem op_fdiv : OpR X (binaryOp .FloorDiv) (rI CDiv fun i j => .int (i / j)) := opI fun i j _ _ _ _ _ hc q => by
  have h1 : (0 : Int) < j := hc.1
  have h2 : j < 1073741824 := hc.2
  exact floordiv_int (by omega) (by rw [Int.fdiv_eq_ediv_of_nonneg i (by omega)]; exact q) (.inl (PyProof.noPylong_small (by omega)))
theorem op_mod : OpR X (binaryOp .Mod) (rI (fun _ j => 0 < j) fun i j => .int (i % j)) := opI fun i j _ _ _ _ _ hc q => by
  have h1 : (0 : Int) < j := hc
  exact mod_int' (by omega) (by rw [Int.fmod_eq_emod_of_nonneg i (by omega)]; exact q)
theorem unI {f : Value → Sem Value} {g : Int → Int}
    (rule : ∀ (i : Int) (t : Tok) (s : Shared) (Q : Value → Shared → Prop) (E : Value → Shared → Prop), Q (.int (g i) s.toks) { s with toks := s.toks + 1 } → wpAny (model X.prog X.w) X.A (f (.int i t)) Q E s) :
    UnR X f (rU fun i => .int (g i)) := by
  intro pins s σ H x v Q I rx h
  obtain ⟨i, rfl, q⟩ := h
  obtain ⟨t, rfl⟩ := rx
  exact rule i t s _ _ ⟨.int (g i), H, I.tok _, ⟨_, rfl⟩, q⟩
theorem un_neg : UnR X (unaryOp .USub) (rU fun i => .int (-i)) := unI fun _ _ _ _ _ q => neg_int q
end
def scal : V → V → Bool
  | .non, .non => true | .non, .int _ => true | .int _, .non => true | .non, .bl _ => true | .bl _, .non => true | .non, .str _ => true | .str _, .non => true
  | .int _, .int _ => true | .bl _, .bl _ => true | .str _, .str _ => true | .byt _, .byt _ => true
  | .int _, .str _ => true | .str _, .int _ => true | .bl _, .str _ => true | .str _, .bl _ => true
  | _, _ => false
def rEq : R2 := fun x y H Q => scal x y = true ∧ Q (.bl (decide (x = y))) H
theorem dec_int {i j : Int} : decide (V.int i = V.int j) = (i == j) := by
  rw [Bool.eq_iff_iff]
  simp
theorem dec_bl {i j : Bool} : decide (V.bl i = V.bl j) = (i == j) := by
  rw [Bool.eq_iff_iff]
  simp
theorem dec_str {i j : Str} : decide (V.str i = V.str j) = (i == j) := by
  rw [Bool.eq_iff_iff]
  simp
theorem dec_byt {i j : Array UInt8} : decide (V.byt i = V.byt j) = (i.toList == j.toList) := by
  rw [Bool.eq_iff_iff]
  cases i
  cases j
  simp
section
variable {X : Cx} {a b c : Expr} {ta tb tc : TE} {pos : Pos}
theorem fin_bl {pins : List (Addr × Obj)} {σ : St} {H : Hp} {s : Shared} {Q : VK} {k k' : Bool} (I : Inv X pins σ H s) (q : Q (.bl k) H) (e : k = k') : EP X pins σ Q (.bool k') s := by
  subst e
  exact ⟨.bl k, H, I, rfl, q⟩
theorem op_eq : OpR X (compareOp .Eq) rEq := by
  intro pins s σ H x y v u Q I rx ry h
  obtain ⟨hs, q⟩ := h
  cases x with
  | non =>
    cases rx
    cases y with
    | non => cases ry; exact PySem.EqNone.eq_none_none (fin_bl I q (by simp))
    | bl j => cases ry; exact PySem.EqNone.eq_none_bool (fin_bl I q (by simp))
    | int j => obtain ⟨t', rfl⟩ := ry; exact PySem.EqNone.eq_none_int (fin_bl I q (by simp))
    | str j => obtain ⟨t', rfl⟩ := ry; exact PySem.EqNone.eq_none_str (fin_bl I q (by simp))
    | _ => exact absurd (show false = true from hs) Bool.false_ne_true
  | bl i =>
    cases rx
    cases y with
    | non => cases ry; exact PySem.EqNone.eq_bool_none (fin_bl I q (by simp))
    | bl j => cases ry; exact eq_bool (fin_bl I q dec_bl)
    | str j => obtain ⟨t', rfl⟩ := ry; exact PySem.EqMixed.eq_bool_str (fin_bl I q (by simp))
    | _ => exact absurd (show false = true from hs) Bool.false_ne_true
  | int i =>
    obtain ⟨t, rfl⟩ := rx
    cases y with
    | non => cases ry; exact PySem.EqNone.eq_int_none (fin_bl I q (by simp))
    | int j => obtain ⟨t', rfl⟩ := ry; exact eq_int (fin_bl I q dec_int)
    | str j => obtain ⟨t', rfl⟩ := ry; exact PySem.EqMixed.eq_int_str (fin_bl I q (by simp))
    | _ => exact absurd (show false = true from hs) Bool.false_ne_true
  | str i =>
    obtain ⟨t, rfl⟩ := rx
    cases y with
    | non => cases ry; exact PySem.EqNone.eq_str_none (fin_bl I q (by simp))
    | bl j => cases ry; exact PySem.EqMixed.eq_str_bool (fin_bl I q (by simp))
    | int j => obtain ⟨t', rfl⟩ := ry; exact PySem.EqMixed.eq_str_int (fin_bl I q (by simp))
    | str j => obtain ⟨t', rfl⟩ := ry; exact eq_str (fin_bl I q dec_str)
    | _ => exact absurd (show false = true from hs) Bool.false_ne_true
  | byt i =>
    obtain ⟨t, rfl⟩ := rx
    cases y with
    | byt j => obtain ⟨t', rfl⟩ := ry; exact PySem.W.eq_bytes (fin_bl I q dec_byt)
    | _ => exact absurd (show false = true from hs) Bool.false_ne_true
  | _ => cases y <;> exact absurd (show false = true from hs) Bool.false_ne_true
theorem op_lt : OpR X (compareOp .Lt) (rI0 fun i j => .bl (decide (i < j))) := opB0 fun _ _ _ _ _ _ _ q => lt_int q
theorem op_le : OpR X (compareOp .LtE) (rI0 fun i j => .bl (decide (i ≤ j))) := opB0 fun _ _ _ _ _ _ _ q => le_int q
theorem op_gt : OpR X (compareOp .Gt) (rI0 fun i j => .bl (decide (j < i))) := opB0 fun _ _ _ _ _ _ _ q => gt_int q
theorem op_ge : OpR X (compareOp .GtE) (rI0 fun i j => .bl (decide (j ≤ i))) := opB0 fun _ _ _ _ _ _ _ q => ge_int q
theorem OpR.or {f : Value → Value → Sem Value} {r r' : R2} (h : OpR X f r) (h' : OpR X f r') : OpR X f (fun x y H Q => r x y H Q ∨ r' x y H Q) := by
  intro pins s σ H x y v u Q I rx ry q
  rcases q with q | q
  · exact h pins s σ H x y v u Q I rx ry q
  · exact h' pins s σ H x y v u Q I rx ry q
theorem nomark (b : Expr) {op : CmpOp} (h : op ≠ .In := by decide) (h2 : op ≠ .NotIn := by decide) : behindInMarks op b = false := by
  have e1 : (op == CmpOp.In) = false := by cases op <;> first | rfl | exact absurd rfl h
  have e2 : (op == CmpOp.NotIn) = false := by cases op <;> first | rfl | exact absurd rfl h2
  cases b <;> simp [behindInMarks, e1, e2]
theorem pe_cmpR {op : CmpOp} {r : R2} (ho : OpR X (compareOp op) r) (ha : PE X a ta) (hb : PE X b tb) (hm : behindInMarks op b = false) : PE X (.Compare a [op] [b] pos) (tOp r ta tb) := by
  intro pins s σ H Q I h
  exact wpAny_Compare1 (binT ha hb I h fun v u s2 x y H2 I2 rx ry q => ho pins s2 σ H2 x y v u Q I2 rx ry q) hm
def tTest (t : TE) : TT := fun σ H Q => t σ H fun x H' => ∃ k, x = .bl k ∧ Q k H'
theorem pt_cmpR {op : CmpOp} {r : R2} (ho : OpR X (compareOp op) r) (ha : PE X a ta) (hb : PE X b tb) (hm : behindInMarks op b = false) : PT X (.Compare a [op] [b] pos) (tTest (tOp r ta tb)) := by
  intro pins s σ H Q I h
  refine wpAny_isTrue_Compare1 (thn (ha pins s σ H _ I h) fun v s1 ⟨x, H1, I1, r1, q1⟩ => thn (hb pins s1 σ H1 _ I1 q1) fun u s2 ⟨y, H2, I2, r2, q2⟩ =>
    thn (ho pins s2 σ H2 x y v u _ I2 r1 r2 q2) fun c s3 ⟨z, H3, I3, r3, k, e, q3⟩ => ?_) hm
  subst e
  cases r3
  exact wpAny_truthy_bool ⟨H3, I3, q3⟩
def tChain (r r' : R2) (ta tb tc : TE) : TE := fun σ H Q => ta σ H fun x H1 => tb σ H1 fun y H2 => r x y H2 fun z H3 => ∃ k, z = .bl k ∧
  (if k = true then tc σ H3 fun w' H4 => r' y w' H4 Q else Q (.bl false) H3)
theorem pe_chain {op op' : CmpOp} {r r' : R2} (ho : OpR X (compareOp op) r) (ho' : OpR X (compareOp op') r') (ha : PE X a ta) (hb : PE X b tb) (hc : PE X c tc)
    (hm : lastMarks [op, op'] [b, c] = false := by with_unfolding_all rfl) : PE X (.Compare a [op, op'] [b, c] pos) (tChain r r' ta tb tc) := by
  intro pins s σ H Q I h
  refine Compare_chain (thn (ha pins s σ H _ I h) fun v s1 ⟨x, H1, I1, r1, q1⟩ => chain_link (thn (hb pins s1 σ H1 _ I1 q1) fun u s2 ⟨y, H2, I2, r2, q2⟩ =>
    thn (ho pins s2 σ H2 x y v u _ I2 r1 r2 q2) fun d s3 ⟨z, H3, I3, r3, k, e, q3⟩ => ?_)) hm
  subst e
  cases r3
  refine wpAny_truthy_bool ?_
  cases k with
  | false => exact ite_ff ⟨.bl false, H3, I3, rfl, q3⟩
  | true => exact ite_tt (chain_last (thn (hc pins s3 σ H3 _ I3 q3) fun w' s4 ⟨z', H4, I4, r4, q4⟩ => ho' pins s4 σ H4 y z' u w' Q I4 r2 r4 q4))
def TruV (K : PySem.W.Frag) (x : V) (H : Hp) (k : Bool) : Prop :=
  match x with
  | .non => k = false
  | .bl b => k = b
  | .int i => k = (i != 0)
  | .str y => y.length ≤ sizeLine ∧ k = ((y.length : Int) != 0)
  | .byt y => y.size ≤ sizeLine ∧ k = ((y.size : Int) != 0)
  | .ref p => (∃ xs, SqL K H p xs ∧ k = !xs.isEmpty) ∨ (∃ xs, SqT K H p xs ∧ k = !xs.isEmpty) ∨ ∃ kvs, H p = some (.dK kvs) ∧ k = !kvs.isEmpty
  | _ => False
theorem isEmpty_kv {κ : Type} {kvs : List (κ × V)} {vs : List (κ × Value)} (r : KV kvs vs) : (!vs.isEmpty) = !kvs.isEmpty := by
  cases r <;> rfl
theorem isEmpty_of {xs : List V} {its : List Value} (r : Vals xs its) : (!its.toArray.isEmpty) = !xs.isEmpty := by
  cases r <;> simp
theorem line63 : (sizeLine : Nat) < 2 ^ 63 := by rw [sizeLine_eq]; decide
theorem tru_ok : TruR X (fun x H Q => ∃ k, TruV X.K x H k ∧ Q k H) := by
  intro pins s σ H x v Q I rx h
  obtain ⟨k, e, q⟩ := h
  have hl := line63
  have hs : sizeLine = 16777216 := sizeLine_eq
  cases x with
  | non =>
    cases rx
    have e' : k = false := e
    subst e'
    exact truthy_none ⟨H, I, q⟩
  | bl b =>
    cases rx
    have e' : k = b := e
    subst e'
    exact wpAny_truthy_bool ⟨H, I, q⟩
  | int i =>
    obtain ⟨t, rfl⟩ := rx
    have e' : k = (i != 0) := e
    subst e'
    exact PySem.P.truthy_int ⟨H, I, q⟩
  | str y =>
    obtain ⟨t, rfl⟩ := rx
    obtain ⟨hy, e'⟩ : y.length ≤ sizeLine ∧ k = ((y.length : Int) != 0) := e
    subst e'
    exact PySem.P.truthy_str (by omega) ⟨H, I.tok _, q⟩
  | byt y =>
    obtain ⟨t, rfl⟩ := rx
    obtain ⟨hy, e'⟩ : y.size ≤ sizeLine ∧ k = ((y.size : Int) != 0) := e
    subst e'
    exact PySem.W.truthy_bytes (by omega) ⟨H, I.tok _, q⟩
  | ref p =>
    cases rx
    have e' : (∃ xs, SqL X.K H p xs ∧ k = !xs.isEmpty) ∨ (∃ xs, SqT X.K H p xs ∧ k = !xs.isEmpty) ∨ ∃ kvs, H p = some (.dK kvs) ∧ k = !kvs.isEmpty := e
    rcases e' with ⟨xs, hx, e'⟩ | ⟨xs, hx, e'⟩ | ⟨kvs, hx, e'⟩
    · subst e'
      obtain ⟨its, r, pl, hz⟩ := I.list hx
      have hlen := r.length
      exact wpAny_truthy_list pl.isList (by simp only [List.size_toArray]; omega) ⟨H, I.tok _, by rw [isEmpty_of r]; exact q⟩
    · subst e'
      obtain ⟨its, r, pl, hz⟩ := I.tuple hx
      have hlen := r.length
      exact truthy_tuple pl (by simp only [List.size_toArray]; omega) ⟨H, I.tok _, by rw [isEmpty_of r]; exact q⟩
    · subst e'
      obtain ⟨hz, hS, vs, r, m⟩ : kvs.length ≤ sizeLine ∧ (p == sysModules) = false ∧ ∃ vs, KV kvs vs ∧ s.heap.DictOf (mixKind X.prog X.w) p vs := I.hok p _ hx
      have hlen : kvs.length = vs.length := Paired.length r
      exact wpAny_truthy_dict hS m (by omega) ⟨H, I.tok _, by rw [isEmpty_kv r]; exact q⟩
  | _ => exact (show False from e).elim
theorem pt_truth (ha : PE X a ta) (he : ∀ whole, isTrue a X.env whole = (do let v ← whole; standAt a.pos; holding [v] (truthy v))) :
    PT X a (fun σ H Q => ta σ H fun x H' => ∃ k, TruV X.K x H' k ∧ Q k H') := by
  intro pins s σ H Q I h
  exact isTrue_plain (thn (ha pins s σ H _ I h) fun v s1 ⟨x, H1, I1, r1, q1⟩ => tru_ok pins s1 σ H1 x v Q I1 r1 q1) (he _)
theorem vals1 {x : V} {us : List Value} (r : Vals [x] us) : ∃ u, us = [u] ∧ RelV x u := by
  cases r with
  | cons r1 r2 => cases r2; exact ⟨_, rfl, r1⟩
theorem vals2 {x y : V} {us : List Value} (r : Vals [x, y] us) : ∃ u w', us = [u, w'] ∧ RelV x u ∧ RelV y w' := by
  cases r with
  | cons r1 r2 =>
    cases r2 with
    | cons r3 r4 => cases r4; exact ⟨_, _, rfl, r1, r3⟩
end
end L2
namespace L2
open PySem PySem.Spec PyProof.Rows
structure ObjM (h : Heap) (x dx C : Addr) (mA : Str → Option Value) : Prop where
  obj : h.get? x = some (PySem.W.instObj C dx)
  ns : h.Ns1 dx mA
  ne : dx ≠ x
theorem lookIn_ns {h : Heap} {dx : Addr} {mA : Str → Option Value} (n : h.Ns1 dx mA) : ∃ od, h.get? dx = some od ∧ ∀ name, PySem.W.lookIn name od = some (mA name) := by
  obtain ⟨o, es, ep, ho, hd, hk, _, hm⟩ := n
  refine ⟨o, ho, fun name => ?_⟩
  have e := hm name
  unfold nsFind findBy at e
  rw [← Array.find?_toList] at e
  unfold PySem.W.lookIn
  rw [hd]
  dsimp only
  split
  · rename_i y q
    rw [q] at e
    exact congrArg some e
  · rename_i q
    rw [q] at e
    have a : es.toList.any (·.refKey) = false := by
      rw [List.any_eq_false]
      intro y hy
      obtain ⟨z, t, hkey⟩ := hk y (Array.mem_toList_iff.mp hy)
      simp [DictEntry.refKey, hkey]
    have a' : ¬ es.toList.any (·.refKey) = true := by rw [a]; exact Bool.false_ne_true
    rw [if_neg a']
    exact congrArg some e
theorem ObjM.look {h : Heap} {x dx C : Addr} {mA : Str → Option Value} (I : ObjM h x dx C mA) : ∃ od, PySem.W.InstAt h x (PySem.W.instObj C dx) C (some od) ∧ ∀ name, PySem.W.lookIn name od = some (mA name) :=
  let ⟨od, ho, hl⟩ := lookIn_ns I.ns
  ⟨od, ⟨I.obj, rfl, rfl, ho⟩, hl⟩
section
variable {prog : Program} {w : World} {A : Around} {E : Value → Shared → Prop} {s : Shared} {K : PySem.W.Frag} {x dx C f : Addr} {mA : Str → Option Value} {name : Str} {v : Value}
theorem get_map {expr : Bool} {Q : Value → Shared → Prop} (X : K.In s.heap) (I : ObjM s.heap x dx C mA) (hg : PySem.W.plainGet K C name = true) (hh : PySem.W.hasDictIn K C = true)
    (ha : PySem.W.findIn K (.ref C) name = some none) (hv : mA name = some v) (hv' : PySem.W.handedIn v = true) (h : Q v { s with toks := s.toks + 1 }) :
    wpAny (model prog w) A (getAttr (.ref x) name expr) Q E s := by
  obtain ⟨od, J, hl⟩ := I.look
  exact PySem.W.get_value X J (PySem.W.plainGet_of hg).1 (PySem.W.findObj_own hh ha rfl (by rw [hl, hv])) hv' h
theorem get_meth {pl : Sem Bool} {Q : Value × List Value → Shared → Prop} (X : K.In s.heap) (I : ObjM s.heap x dx C mA) (hg : PySem.W.plainGet K C name = true)
    (hf : PySem.W.findIn K (.ref C) name = some (some (.ref f))) (ht : PySem.W.isFn K (.ref f) = true) (hv : mA name = none) (h : Q (.ref f, [.ref x]) s) :
    wpAny (model prog w) A (getMethod (.ref x) name pl) Q E s := by
  obtain ⟨od, J, hl⟩ := I.look
  exact PySem.W.method_fn X J (PySem.W.plainGet_of hg).1 (PySem.W.plainGet_of hg).2 hf (beq_iff_eq.mp ht) (by show (PySem.W.lookIn name od).map (·.isSome) = some false; rw [hl, hv]; rfl) h
theorem set_map {ns : List Str} {Q : Unit → Shared → Prop} (X : K.In s.heap) (I : ObjM s.heap x dx C mA)
    (hs : PySem.W.findIn K (.ref C) "__setattr__" = some (some (.builtin "object.__setattr__"))) (hp : PySem.W.plainOver K C = true) (ht : PySem.W.takerIn K C name = some none) (hh : PySem.W.hasDictIn K C = true)
    (hw : PySem.Within mA ns) (hsz : ns.length ≤ sizeLine)
    (h : ∀ h', ObjM h' x dx C (fun y => if y = name then some v else mA y) → Heap.SameBut dx s.heap h' → Q () { s with heap := h', toks := s.toks + 2 }) :
    wpAny (model prog w) A (setAttr (.ref x) name v) Q E s := by
  obtain ⟨od, J, hl⟩ := I.look
  refine PySem.W.set_plain X J hs (PySem.W.osa_open (s := { s with toks := s.toks + 1 }) (r := none) X J hp ht fun b => ?_)
  obtain ⟨cd, hc, hd'⟩ := PySem.W.any_some hh
  have hx : s.heap.get? x = some ⟨.ref C, some dx, .plain, #[]⟩ := I.obj
  refine wpAny_bind (wpAny_pure (wpAny_bind (wpAny_bind (wpAny_loadPart hx (wpAny_bind (PySem.W.Looks.here (s := { s with toks := s.toks + 1 }) (PySem.W.looks_clsIn X hc) ?_))))))
  rw [hd']
  refine wpAny_pure (a := some dx) (wpAny_bind (wpAny_pure (wpAny_bind ?_)))
  refine wpAny_nsSet1 (s := { s with toks := s.toks + 1 }) I.ns fun h' hn2 hs2 => ?_
  obtain ⟨oD, esD, epD, hoD, hdD, hcD⟩ := hn2.count (PySem.Within.cons name v hw)
  refine wpAny_bind (wpAny_lookBehind hoD (by rw [hdD]; exact pastItsLine_dict (Nat.le_trans hcD (by rw [List.length_cons]; omega))) ?_)
  exact wpAny_pure (h _ ⟨(hs2.2 _ (Ne.symm I.ne)).trans I.obj, hn2, I.ne⟩ hs2)
theorem make_map {R : Result → Shared → Prop} {vs : List Value} {kw : List (Str × Value)} (X : K.In s.heap) (hm : PySem.W.makesIn K C = true)
    (hi : PySem.W.findIn K (.ref C) "__init__" = some (some (.ref f))) (hf : PySem.W.typeIn K (.ref f) = some (.type "function"))
    (h : codeAny (model prog w) (A.under (.builtin "type.__call__" ⟨.ref C :: vs, kw⟩)) (.call (.ref f) ⟨.ref (s.heap.objs.size + 1) :: vs, kw⟩) (PySem.W.InitBack (s.heap.objs.size + 1) R)
      { s with heap := (s.heap.push PySem.W.emptyDict).push (PySem.W.instObj C s.heap.objs.size) }) :
    codeAny (model prog w) A (.call (.ref C) ⟨vs, kw⟩) R s := by
  obtain ⟨hh, g, d, t, os⟩ := s
  exact PySem.W.make_core (PySem.W.makes_of X hm) (PySem.W.looks_findIn X hi) (fun self => PySem.W.bind_fn X self hf) (.inl rfl) h
end
def putF (f : Str) (v : V) : List (Str × V) → List (Str × V)
  | [] => [(f, v)]
  | (g, x) :: r => if g = f then (g, v) :: r else (g, x) :: putF f v r
theorem lookup_putF (f g : Str) (v : V) : ∀ fs : List (Str × V), (putF f v fs).lookup g = if g = f then some v else fs.lookup g
  | [] => by
    show List.lookup g [(f, v)] = _
    by_cases h : g = f
    · have hb : (g == f) = true := beq_iff_eq.mpr h
      simp only [List.lookup, hb, if_pos h]
    · have hb : (g == f) = false := beq_eq_false_iff_ne.mpr h
      simp only [List.lookup, hb, if_neg h]
  | (k, x) :: r => by
    have ih := lookup_putF f g v r
    rw [show putF f v ((k, x) :: r) = (if k = f then (k, v) :: r else (k, x) :: putF f v r) from rfl]
    by_cases hk : k = f
    · rw [if_pos hk]
      by_cases h : g = k
      · have hb : (g == k) = true := beq_iff_eq.mpr h
        simp only [List.lookup, hb, if_pos (h.trans hk)]
      · have hb : (g == k) = false := beq_eq_false_iff_ne.mpr h
        simp only [List.lookup, hb, if_neg (fun e : g = f => h (e.trans hk.symm))]
    · rw [if_neg hk]
      by_cases h : g = k
      · have hb : (g == k) = true := beq_iff_eq.mpr h
        simp only [List.lookup, hb, if_neg (fun e : g = f => hk (h.symm.trans e))]
      · have hb : (g == k) = false := beq_eq_false_iff_ne.mpr h
        simp only [List.lookup, hb]
        exact ih
theorem keys_putF (f : Str) (v : V) : ∀ fs : List (Str × V), f ∈ (putF f v fs).map (·.1) ∧ ∀ g, g ∈ fs.map (·.1) → g ∈ (putF f v fs).map (·.1)
  | [] => ⟨by simp [putF], fun g h => by simp at h⟩
  | (k, x) :: r => by
    obtain ⟨i1, i2⟩ := keys_putF f v r
    rw [show putF f v ((k, x) :: r) = (if k = f then (k, v) :: r else (k, x) :: putF f v r) from rfl]
    by_cases hk : k = f
    · rw [if_pos hk]
      subst hk
      exact ⟨by simp, fun g h => by simpa using h⟩
    · rw [if_neg hk]
      refine ⟨?_, fun g h => ?_⟩
      · rw [List.map_cons]
        exact List.mem_cons_of_mem _ i1
      · rw [List.map_cons] at h ⊢
        rcases List.mem_cons.mp h with e | e
        · exact List.mem_cons.mpr (.inl e)
        · exact List.mem_cons_of_mem _ (i2 g e)
theorem length_putF (f : Str) (v : V) : ∀ fs : List (Str × V), (putF f v fs).length ≤ fs.length + 1
  | [] => by simp [putF]
  | (k, x) :: r => by
    have ih := length_putF f v r
    rw [show putF f v ((k, x) :: r) = (if k = f then (k, v) :: r else (k, x) :: putF f v r) from rfl]
    by_cases hk : k = f
    · rw [if_pos hk, List.length_cons, List.length_cons]; omega
    · rw [if_neg hk, List.length_cons, List.length_cons]; omega
theorem RelO.some_of {v : V} {o : Option Value} (r : RelO (some v) o) : ∃ u, o = some u ∧ RelV v u := by
  cases o with
  | none => exact (show False from r).elim
  | some u => exact ⟨u, rfl, r⟩
theorem RelO.none_of {o : Option Value} (r : RelO none o) : o = none := by
  cases o with
  | none => rfl
  | some u => exact (show False from r).elim
theorem handed_of {v : V} {u : Value} (r : RelV v u) : PySem.W.handedIn u = true := by
  cases v with
  | non => cases (show u = Value.none from r); rfl
  | bl b => cases (show u = Value.bool b from r); rfl
  | int i => obtain ⟨t, e⟩ := (show ∃ t, u = Value.int i t from r); cases e; rfl
  | str x => obtain ⟨t, e⟩ := (show ∃ t, u = Value.str x t from r); cases e; rfl
  | byt b => obtain ⟨t, e⟩ := (show ∃ t, u = Value.bytes b t from r); cases e; rfl
  | flt b => obtain ⟨t, e⟩ := (show ∃ t, u = Value.float b t from r); cases e; rfl
  | ref a => cases (show u = Value.ref a from r); rfl
  | ty n => cases (show u = Value.type n from r); rfl
section
variable {P : Program} {w : World} {H H' : Hp} {h h' : Heap} {a C dx : Addr} {fs fs' : List (Str × V)}
theorem ins_get (hok : HOk P w H h) (e : H a = some (.ins C dx fs)) : ∃ mA, ObjM h a dx C mA ∧ (∀ f, RelO (fs.lookup f) (mA f)) ∧ PySem.Within mA (fs.map (·.1)) ∧ fs.length ≤ 1000 ∧ H dx = some (.own a) := by
  obtain ⟨d, z, ne, ob, mA, n, r, q⟩ := (show ObjOk P w H h a (.ins C dx fs) from hok a _ e)
  exact ⟨mA, ⟨ob, n, ne⟩, r, q, z, d⟩
end
structure Cls (K : PySem.W.Frag) (C : Addr) : Prop where
  pg : PySem.W.plainGet K C Str.empty = true
  hd : PySem.W.hasDictIn K C = true
  po : PySem.W.plainOver K C = true
  sa : PySem.W.findIn K (.ref C) "__setattr__" = some (some (.builtin "object.__setattr__"))
theorem Cls.get {K : PySem.W.Frag} {C : Addr} (c : Cls K C) (f : Str) : PySem.W.plainGet K C f = true := c.pg
def NoAttr (K : PySem.W.Frag) (C : Addr) (f : Str) : Prop := PySem.W.findIn K (.ref C) f = some none
theorem NoAttr.taker {K : PySem.W.Frag} {C : Addr} {f : Str} (n : NoAttr K C f) : PySem.W.takerIn K C f = some none := by
  unfold PySem.W.takerIn
  rw [show PySem.W.findIn K (.ref C) f = some none from n]
  rfl
structure Meth (K : PySem.W.Frag) (C : Addr) (m : Str) (f : Addr) : Prop where
  at_ : PySem.W.findIn K (.ref C) m = some (some (.ref f))
  fn : PySem.W.isFn K (.ref f) = true
  kp : PySem.W.keepIn K (.ref f) = true
section
variable {X : Cx} {pins : List (Addr × Obj)} {σ : St} {H : Hp} {s : Shared} {a C dx : Addr} {fs : List (Str × V)} {f : Str} {v : V} {A : Around} {E : Value → Shared → Prop}
theorem getattr_ok {b : Bool} {Q : Value → Shared → Prop} (I : Inv X pins σ H s) (e : H a = some (.ins C dx fs)) (c : Cls X.K C) (n : NoAttr X.K C f) (l : fs.lookup f = some v)
    (h : ∀ u s', Inv X pins σ H s' → RelV v u → Q u s') : wpAny (model X.prog X.w) A (getAttr (.ref a) f b) Q E s := by
  obtain ⟨mA, O, r, _, _, _⟩ := ins_get I.hok e
  obtain ⟨u, hu, ru⟩ := RelO.some_of (v := v) (o := mA f) (by rw [← l]; exact r f)
  exact get_map I.kIn O (c.get f) c.hd n hu (handed_of ru) (h u _ (I.tok _) ru)
theorem getmeth_ok {m : Str} {g : Addr} {pl : Sem Bool} {Q : Value × List Value → Shared → Prop} (I : Inv X pins σ H s) (e : H a = some (.ins C dx fs)) (c : Cls X.K C) (k : Meth X.K C m g) (l : fs.lookup m = none)
    (h : Q (.ref g, [.ref a]) s) : wpAny (model X.prog X.w) A (getMethod (.ref a) m pl) Q E s := by
  obtain ⟨mA, O, r, _, _, _⟩ := ins_get I.hok e
  have hn : mA m = none := RelO.none_of (by rw [← l]; exact r m)
  exact get_meth I.kIn O (c.get m) k.at_ k.fn hn h
theorem setattr_ok {y : V} {u : Value} {Q : Unit → Shared → Prop} (I : Inv X pins σ H s) (e : H a = some (.ins C dx fs)) (c : Cls X.K C) (n : NoAttr X.K C f) (hl : fs.length < 1000) (ry : RelV y u)
    (h : ∀ s', Inv X pins σ (upd H a (.ins C dx (putF f y fs))) s' → Q () s') : wpAny (model X.prog X.w) A (setAttr (.ref a) f u) Q E s := by
  obtain ⟨mA, O, r, wi, _, ho⟩ := ins_get I.hok e
  have hz : (fs.map (·.1)).length ≤ sizeLine := by rw [List.length_map, sizeLine_eq]; omega
  refine set_map I.kIn O c.sa c.po n.taker c.hd wi hz fun h' O' sb => h _ ?_
  have hd : ∃ o, h'.get? dx = some o := let ⟨o, _, _, e', _⟩ := O'.ns; ⟨o, e'⟩
  refine I.write (x := a) (e := dx) (by rw [e]; exact True.intro) (.inr ho) (fun b q hb z => (sb.2 b hb).trans z) hd ?_
  refine ⟨by rw [upd_ne O.ne]; exact ho, ?_, O.ne, O'.obj, _, O'.ns, fun g => ?_, fun g hg => ?_⟩
  · have := length_putF f y fs; omega
  · show RelO ((putF f y fs).lookup g) (if g = f then some u else mA g)
    rw [lookup_putF]
    by_cases q : g = f
    · rw [if_pos q, if_pos q]; exact ry
    · rw [if_neg q, if_neg q]; exact r g
  · by_cases q : g = f
    · rw [q]; exact (keys_putF f y fs).1
    · refine (keys_putF f y fs).2 g (wi g fun z => hg ?_)
      show (if g = f then some u else mA g) = none
      rw [if_neg q]; exact z
theorem Inv.made (I : Inv X pins σ H s) : Inv X pins σ (upd (upd H s.heap.objs.size (.own (s.heap.objs.size + 1))) (s.heap.objs.size + 1) (.ins C s.heap.objs.size []))
    { s with heap := (s.heap.push PySem.W.emptyDict).push (PySem.W.instObj C s.heap.objs.size) } := by
  have e1 : (s.heap.push PySem.W.emptyDict).get? s.heap.objs.size = some PySem.W.emptyDict := Heap.get?_push_size s.heap rfl
  have e2 : ((s.heap.push PySem.W.emptyDict).push (PySem.W.instObj C s.heap.objs.size)).get? (s.heap.objs.size + 1) = some (PySem.W.instObj C s.heap.objs.size) := by
    have := Heap.get?_push_size (s.heap.push PySem.W.emptyDict) (o := PySem.W.instObj C s.heap.objs.size) rfl
    rwa [Heap.size_push] at this
  have e3 : (s.heap.push PySem.W.emptyDict).Ns s.heap.objs.size (fun _ => none) := ⟨PySem.W.emptyDict, #[], _, e1, rfl, (fun e he => absurd he (by simp)), fun _ => rfl⟩
  have I1 := I.laid (a := s.heap.objs.size) (o := .own (s.heap.objs.size + 1)) (h' := s.heap.push PySem.W.emptyDict) (t' := s.toks) (fun b u q => Heap.get?_push_of_some _ q) (Nat.le_refl _) ⟨_, e1⟩
  refine I1.laid (a := s.heap.objs.size + 1) (o := .ins C s.heap.objs.size []) (t' := s.toks) (fun b u q => Heap.get?_push_of_some _ q) (Nat.le_of_eq (Heap.size_push _ _)) ?_
  have ne : s.heap.objs.size ≠ s.heap.objs.size + 1 := Nat.ne_of_lt (Nat.lt_succ_self _)
  refine ⟨by rw [upd_ne ne, upd_same], Nat.zero_le _, ne, e2, fun _ => none, (Heap.Ns1.of_empty e3).at fun o q => Heap.get?_push_of_some _ q, fun _ => True.intro, fun y hy => absurd rfl hy⟩
theorem attr_of {prog : Program} {w : World} {env : Env} {e : Expr} {f : Str} {pos : Pos} {s : Shared} {Q : Value → Shared → Prop} (hb : attributeBase e f env (eval e env) = eval e env)
    (h : wpAny (model prog w) A (eval e env) (fun o s₁ => wpAny (model prog w) A (getAttr o f true) Q E s₁) E s) : wpAny (model prog w) A (eval (.Attribute e f pos) env) Q E s :=
  Attribute_any_ h (by rw [arm_eval_Attribute, hb])
end
def tFld (K : PySem.W.Frag) (ta : TE) (f : Str) : TE := fun σ H Q => ta σ H fun x H1 => ∃ a C dx fs v, x = .ref a ∧ H1 a = some (.ins C dx fs) ∧ Cls K C ∧ NoAttr K C f ∧ fs.lookup f = some v ∧ Q v H1
def sFld (K : PySem.W.Frag) (ta tv : TE) (f : Str) : TS := fun D σ H => tv σ H fun y H1 => ta σ H1 fun x H2 => ∃ a C dx fs, x = .ref a ∧ H2 a = some (.ins C dx fs) ∧ Cls K C ∧ NoAttr K C f ∧ fs.length < 1000 ∧
  D.nx σ (upd H2 a (.ins C dx (putF f y fs)))
def InOp (X : Cx) (op : Operator) (rd : V → V → Hp → VK → Prop) : Prop :=
  ∀ (pins : List (Addr × Obj)) (s : Shared) (σ : St) (H : Hp) (x y : V) (u v : Value) (Q : VK), Inv X pins σ H s → RelV x u → RelV y v → rd x y H Q → wpAny (model X.prog X.w) X.A (inplaceOp op u v) (EP X pins σ Q) X.xe s
def sFldAug (K : PySem.W.Frag) (ta tv : TE) (rd : V → V → Hp → VK → Prop) (f : Str) : TS := fun D σ H => ta σ H fun x H1 => ∃ a C dx fs v, x = .ref a ∧ H1 a = some (.ins C dx fs) ∧ Cls K C ∧ NoAttr K C f ∧ fs.lookup f = some v ∧
  tv σ H1 fun y H2 => rd v y H2 fun z H3 => ∃ dx' fs', H3 a = some (.ins C dx' fs') ∧ fs'.length < 1000 ∧ D.nx σ (upd H3 a (.ins C dx' (putF f z fs')))
section
variable {X : Cx} {o e value : Expr} {f : Str} {pos pos' tpos : Pos} {ta tv : TE}
theorem pe_fld (he : PE X e ta) (hb : attributeBase e f X.env (eval e X.env) = eval e X.env) : PE X (.Attribute e f pos) (tFld X.K ta f) := by
  intro pins s σ H Q I h
  refine attr_of hb (thn (he pins s σ H _ I h) fun u s1 ⟨x, H1, I1, rx, a, C, dx, fs, v, ex, ea, c, n, l, q⟩ => ?_)
  subst ex
  obtain rfl : u = Value.ref a := rx
  exact getattr_ok I1 ea c n l fun u' s2 I2 ru => ⟨v, H1, I2, ru, q⟩
theorem ps_fld (ha : PE X o ta) (hv : PE X value tv) (hs : swapsWith value (some (.Attribute o f pos')) pos.line X.env = pure false) : PS X (.Assign [.Attribute o f pos'] value pos) (sFld X.K ta tv f) := by
  intro pins s σ H D I h
  refine plainObj_wpAny_Assign_Attribute (thn (hv pins s σ H _ I h) fun u s1 ⟨y, H1, I1, ry, q⟩ => thn (ha pins s1 σ H1 _ I1 q) fun ov s2 ⟨x, H2, I2, rx, a, C, dx, fs, ex, ea, c, n, l, q2⟩ => ?_) hs
  subst ex
  obtain rfl : ov = Value.ref a := rx
  exact setattr_ok I2 ea c n l ry fun s3 I3 => ⟨σ, _, I3, q2⟩
theorem ps_fldaug {op : Operator} {rd : V → V → Hp → VK → Prop} (ha : PE X o ta) (hv : PE X value tv) (hop : InOp X op rd) : PS X (.AugAssign (.Attribute o f tpos) op value pos) (sFldAug X.K ta tv rd f) := by
  intro pins s σ H D I h
  refine wpAny_AugAssign_AttributeAny (thn (ha pins s σ H _ I h) fun ov s1 ⟨x, H1, I1, rx, a, C, dx, fs, v, ex, ea, c, n, l, q⟩ => ?_)
  subst ex
  obtain rfl : ov = Value.ref a := rx
  refine getattr_ok I1 ea c n l fun u s2 I2 ru => thn (hv pins s2 σ H1 _ I2 q) fun w3 s3 ⟨y, H2, I3, ry, q3⟩ => thn (hop pins s3 σ H2 v y u w3 _ I3 ru ry q3) fun w4 s4 ⟨z, H3, I4, rz, dx', fs', ea', l', q4⟩ => ?_
  exact setattr_ok I4 ea' c n l' rz fun s5 I5 => ⟨σ, _, I5, q4⟩
def rAdd : V → V → Hp → VK → Prop := fun x y H Q => ∃ i j, x = .int i ∧ y = .int j ∧ Q (.int (i + j)) H
def rSub : V → V → Hp → VK → Prop := fun x y H Q => ∃ i j, x = .int i ∧ y = .int j ∧ Q (.int (i - j)) H
theorem in_add : InOp X .Add rAdd := by
  rintro pins s σ H x y u v Q I rx ry ⟨i, j, rfl, rfl, q⟩
  obtain ⟨t, rfl⟩ := (show ∃ t, u = Value.int i t from rx)
  obtain ⟨t', rfl⟩ := (show ∃ t', v = Value.int j t' from ry)
  exact PyProof.Rows.iadd_int ⟨.int (i + j), H, I.tok _, ⟨_, rfl⟩, q⟩
theorem in_sub : InOp X .Sub rSub := by
  rintro pins s σ H x y u v Q I rx ry ⟨i, j, rfl, rfl, q⟩
  obtain ⟨t, rfl⟩ := (show ∃ t, u = Value.int i t from rx)
  obtain ⟨t', rfl⟩ := (show ∃ t', v = Value.int j t' from ry)
  exact PyProof.Rows.isub_int ⟨.int (i - j), H, I.tok _, ⟨_, rfl⟩, q⟩
end
section
variable {X : Cx} {pins : List (Addr × Obj)} {σ : St} {H : Hp} {s : Shared} {A : Around} {E : Value → Shared → Prop} {Q : Value → Shared → Prop} {c : Value} {b : Bool}
inductive TyOf (K : PySem.W.Frag) (H : Hp) : V → Value → Prop where
  | non : TyOf K H .non (.type "NoneType")
  | bl (x : Bool) : TyOf K H (.bl x) (.type "bool")
  | int (i : Int) : TyOf K H (.int i) (.type "int")
  | str (x : Str) : TyOf K H (.str x) (.type "str")
  | flt (x : UInt64) : TyOf K H (.flt x) (.type "float")
  | lst {a : Addr} {xs : List V} (e : H a = some (.lst xs)) : TyOf K H (.ref a) (.type "list")
  | frz {a : Addr} {o : Obj} {xs : List V} (e : H a = some (.frz o (.lst xs))) : TyOf K H (.ref a) (.type "list")
  | tup {a : Addr} {xs : List V} (e : H a = some (.tup xs)) : TyOf K H (.ref a) (.type "tuple")
  | dK {a : Addr} {kvs : List (Key × V)} (e : H a = some (.dK kvs)) : TyOf K H (.ref a) (.type "dict")
  | dT {a : Addr} {kvs : List (List Key × V)} (e : H a = some (.dT kvs)) : TyOf K H (.ref a) (.type "dict")
  | ins {a C dx : Addr} {fs : List (Str × V)} (e : H a = some (.ins C dx fs)) (cl : Cls K C) (ha : PySem.W.findIn K (.ref C) "__class__" = some (some (.builtin "object.__class__")))
      (hn : PySem.W.specialIn K (.builtin "object.__class__") "__get__" = some (some (.builtin "getset_descriptor.__get__"))) (htk : PySem.W.takesIn K (.builtin "object.__class__") = some true)
      (hm : PySem.W.mroIn K C (.type "object") = some true) : TyOf K H (.ref a) (.ref C)
theorem isinst_ok {x : V} {u t : Value} (I : Inv X pins σ H s) (rx : RelV x u) (ty : TyOf X.K H x t) (e : PySem.W.kitOne X.K t c = some b) (h : ∀ tk, Q (.bool b) { s with toks := tk }) :
    wpAny (model X.prog X.w) A (call (.builtin "isinstance") [u, c]) Q E s := by
  cases ty with
  | non => cases (show u = Value.none from rx); exact PySem.W.kia_one PySem.W.kitx_none I.kIn True.intro e (fun z => nomatch z) h
  | bl y => cases (show u = Value.bool y from rx); exact PySem.W.kia_one PySem.W.kitx_bool I.kIn True.intro e (fun z => nomatch z) h
  | int i => obtain ⟨t, q⟩ := (show ∃ t, u = Value.int i t from rx); cases q; exact PySem.W.kia_one PySem.W.kitx_int I.kIn True.intro e (fun z => nomatch z) h
  | str y => obtain ⟨t, q⟩ := (show ∃ t, u = Value.str y t from rx); cases q; exact PySem.W.kia_one PySem.W.kitx_str I.kIn True.intro e (fun z => nomatch z) h
  | flt y => obtain ⟨t, q⟩ := (show ∃ t, u = Value.float y t from rx); cases q; exact PySem.W.kia_one PySem.W.kitx_float I.kIn True.intro e (fun z => nomatch z) h
  | @lst a xs ea =>
    cases (show u = Value.ref a from rx)
    obtain ⟨_, _, n, _, h1⟩ := (show ObjOk X.prog X.w H s.heap a (.lst xs) from I.hok a _ ea)
    exact PySem.W.kia_one PySem.W.kitx_list I.kIn ⟨_, h1, rfl⟩ e (fun z => nomatch z) h
  | @frz a ob xs ea =>
    cases (show u = Value.ref a from rx)
    obtain ⟨_, _, _, n, _, h1⟩ := (show ObjOk X.prog X.w H s.heap a (.frz ob (.lst xs)) from I.hok a _ ea)
    exact PySem.W.kia_one PySem.W.kitx_list I.kIn ⟨_, h1, rfl⟩ e (fun z => nomatch z) h
  | @tup a xs ea =>
    cases (show u = Value.ref a from rx)
    obtain ⟨_, _, _, p⟩ := (show ObjOk X.prog X.w H s.heap a (.tup xs) from I.hok a _ ea)
    obtain ⟨o, h1, h2, _⟩ := p
    exact PySem.W.kia_one PySem.W.kitx_tuple I.kIn ⟨o, h1, h2⟩ e (fun z => nomatch z) h
  | @dK a kvs ea =>
    cases (show u = Value.ref a from rx)
    obtain ⟨_, _, vs, _, p⟩ := (show ObjOk X.prog X.w H s.heap a (.dK kvs) from I.hok a _ ea)
    obtain ⟨o, es, ep, h1, h2, _⟩ := p
    exact PySem.W.kia_one PySem.W.kitx_dict I.kIn ⟨o, h1, h2.1⟩ e (fun z => nomatch z) h
  | @dT a kvs ea =>
    cases (show u = Value.ref a from rx)
    obtain ⟨_, _, xs, _, o, es, ep, h1, h2, _⟩ := (show ObjOk X.prog X.w H s.heap a (.dT kvs) from I.hok a _ ea)
    exact PySem.W.kia_one PySem.W.kitx_dict I.kIn ⟨o, h1, h2.1⟩ e (fun z => nomatch z) h
  | @ins a C dx fs ea cl ha hn htk hm =>
    cases (show u = Value.ref a from rx)
    obtain ⟨mA, O, _⟩ := ins_get I.hok ea
    obtain ⟨od, J, _⟩ := O.look
    exact PySem.W.kia_one (PySem.W.kitx_own (cl.get _) cl.hd ha hn htk hm) I.kIn J e (fun z => nomatch z) h
end
end L2
namespace L2
open PySem PySem.Spec PyProof.Rows
structure Room (k : Nat) (A : Around) : Prop where
  hd : A.handled = none
  dp : A.depth + 3 * k + 5 < recursionLimit
  un : A.units + 16 * k + 200 < cLine
theorem Room.mono {j k : Nat} {A : Around} (r : Room k A) (h : j ≤ k) : Room j A := ⟨r.hd, by have := r.dp; omega, by have := r.un; omega⟩
theorem Room.deeper {k : Nat} {A : Around} (r : Room (k + 1) A) (env : Env) : Room k (A.deeper env) :=
  ⟨r.hd, by have := r.dp; show A.depth + 1 + 3 * k + 5 < _; omega, by have := r.un; show A.units + 3 + 16 * k + 200 < _; omega⟩
theorem Room.in1 {k : Nat} {A : Around} (r : Room (k + 1) A) : Room k A.in1 :=
  ⟨r.hd, by have := r.dp; show A.depth + 3 * k + 5 < _; omega, by have := r.un; show A.units + 1 + 16 * k + 200 < _; omega⟩
theorem make_depth {A : Around} {C : Addr} {us : List Value} {kw : List (Str × Value)} : (A.under (.builtin "type.__call__" ⟨.ref C :: us, kw⟩)).depth = A.depth + 1 := by
  first | rfl | simp [Around.under, Code.weight, Code.isCreation, Code.isGuard, Code.isCaller, Code.frames, Code.isFrame, guardIds]
theorem make_units {A : Around} {C : Addr} {us : List Value} {kw : List (Str × Value)} : (A.under (.builtin "type.__call__" ⟨.ref C :: us, kw⟩)).units = A.units + 1 := by
  first | rfl | simp [Around.under, Code.cUnits, Code.frames, Code.isFrame]
theorem Room.make {k : Nat} {A : Around} (r : Room (k + 1) A) (C : Addr) (us : List Value) (kw : List (Str × Value)) : Room k (A.under (.builtin "type.__call__" ⟨.ref C :: us, kw⟩)) :=
  ⟨r.hd, by have := r.dp; rw [make_depth]; omega, by have := r.un; rw [make_units]; omega⟩
theorem Room.depth {k : Nat} {A : Around} (r : Room k A) : A.depth < recursionLimit := by have := r.dp; omega
theorem Room.units {k : Nat} {A : Around} (r : Room k A) : A.units + 64 < cLine := by have := r.un; omega
def tNil : TA := fun _ H Q => Q [] H
def tCons (ta : TE) (tr : TA) : TA := fun σ H Q => ta σ H fun x H1 => tr σ H1 fun xs H2 => Q (x :: xs) H2
section
variable {X : Cx} {e : Expr} {es : List Expr} {te : TE} {t : TA} {pos : Pos}
theorem pa_nil : PA X [] tNil := fun _ _ _ _ H Q I h => Calls.spliced_nil ⟨[], H, I, .nil, h⟩
theorem pa_cons (ha : PE X e te) (hr : PA X es t) (hs : starEach (e :: es) X.env = (false, eval e X.env) :: starEach es X.env := by rfl) : PA X (e :: es) (tCons te t) := by
  intro pos pins s σ H Q I h
  rw [hs]
  show wpAny _ _ (spliced ((false, eval e X.env) :: backTo pos (starEach es X.env))) _ _ s
  refine Calls.spliced_cons (thn (ha pins s σ H _ I h) fun u s1 ⟨x, H1, I1, r1, q1⟩ => ?_)
  exact thn (hr pos pins s1 σ H1 _ I1 q1) fun us s2 ⟨xs, H2, I2, r2, q2⟩ => ⟨x :: xs, H2, I2, .cons r1 r2, q2⟩
def tTup (t : TA) : TE := fun σ H Q => t σ H fun xs H1 => xs.length ≤ sizeLine ∧ ∀ p, H1 p = none → Q (.ref p) (upd H1 p (.tup xs))
def tLst (t : TA) : TE := fun σ H Q => t σ H fun xs H1 => xs.length ≤ sizeLine ∧ ∀ p, H1 p = none → Q (.ref p) (upd H1 p (.lst xs))
theorem pe_tup {x1} (h : PA X es t) : PE X (.Tuple es x1 pos) (tTup t) := by
  intro pins s σ H Q I hq
  refine wpAny_Tuple_spliced (thn (h pos pins s σ H _ I hq) fun us s1 ⟨xs, H1, I1, r, z, q⟩ => ⟨by rw [← r.length]; exact z, ?_⟩)
  have hf : H1 s1.heap.objs.size = none := I1.hok.fresh (Nat.le_refl _)
  refine ⟨.ref s1.heap.objs.size, upd H1 s1.heap.objs.size (.tup xs), I1.laid (t' := s1.toks) (fun b u e => Heap.get?_push_of_some _ e) (Nat.le_refl _) ?_, rfl, q _ hf⟩
  exact ⟨z, us, r, ⟨_, Heap.get?_push_size _ rfl, rfl, _, rfl⟩⟩
theorem pe_lst (h : PA X es t) : PE X (.List es pos) (tLst t) := by
  intro pins s σ H Q I hq
  refine wpAny_List_spliced (thn (h pos pins s σ H _ I hq) fun us s1 ⟨xs, H1, I1, r, z, q⟩ => ⟨by rw [← r.length]; exact z, ?_⟩)
  have hf : H1 s1.heap.objs.size = none := I1.hok.fresh (Nat.le_refl _)
  refine ⟨.ref s1.heap.objs.size, upd H1 s1.heap.objs.size (.lst xs), I1.laid (t' := s1.toks) (fun b u e => Heap.get?_push_of_some _ e) (Nat.le_refl _) ?_, rfl, q _ hf⟩
  exact ⟨z, us, 0, r, Heap.get?_push_size _ rfl⟩
end
abbrev Sp := List V → Hp → VK → XK → Prop
abbrev CXT := List Env → Hp → Shared → XK → Value → Shared → Prop
structure Env0 (P : Program) (w : World) (K : PySem.W.Frag) (mg : Str → Option Value) (base : Heap) (A : Around) (outer : List Env) (s : Shared) (H : Hp) : Prop where
  frames : A.frames = some outer
  mod : Mod K mg base
  bs : ∀ b o, base.get? b = some o → s.heap.get? b = some o ∧ H b = none
  bsz : base.objs.size ≤ s.heap.objs.size
  funs : s.heap.FunFrames base outer
  frf : ∀ b ∈ frs outer, H b = none
  hok : HOk P w H s.heap
  bare : AllBare s.gens
def CE (outer : List Env) (P : Program) (w : World) (H : Hp) (s : Shared) (Q : VK) (u : Value) (s' : Shared) : Prop :=
  ∃ v H', s'.os = s.os ∧ AllBare s'.gens ∧ Un (frs outer) [] H H' s.heap s'.heap ∧ HOk P w H' s'.heap ∧ RelV v u ∧ Q v H'
def CR (CX : CXT) (outer : List Env) (P : Program) (w : World) (H : Hp) (s : Shared) (Q : VK) (E : XK) (r : Result) (s' : Shared) : Prop :=
  match r with
  | .ok (.ret u) => CE outer P w H s Q u s'
  | .ok _ => False
  | .error e => CX outer H s E e s'
structure FnOk (P : Program) (w : World) (K : PySem.W.Frag) (mg : Str → Option Value) (base : Heap) (CX : CXT) (k : Nat) (f : Addr) (fd : FuncData) (ps : List Str) (sp : Sp) : Prop where
  len : ∀ vs H Q E, sp vs H Q E → vs.length = ps.length
  run : ∀ (A : Around) (outer : List Env) (s : Shared) (H : Hp) (args : Args) (us : List Value) (vs : List V) (Q : VK) (E : XK), Room k A → Env0 P w K mg base A outer s H → BindsTo s fd args (ps.zip us) → Vals vs us → sp vs H Q E →
    codeAny (model P w) A (.call (.ref f) args) (CR CX outer P w H s Q E) s
theorem FnOk.mono {P : Program} {w : World} {K : PySem.W.Frag} {mg : Str → Option Value} {base : Heap} {CX : CXT} {j k : Nat} {f : Addr} {fd : FuncData} {ps : List Str} {sp : Sp} (F : FnOk P w K mg base CX j f fd ps sp) (h : j ≤ k) :
    FnOk P w K mg base CX k f fd ps sp := ⟨F.len, fun A outer s H args us vs Q E hr => F.run A outer s H args us vs Q E (hr.mono h)⟩
theorem FnOk.imp {P : Program} {w : World} {K : PySem.W.Frag} {mg : Str → Option Value} {base : Heap} {CX : CXT} {k : Nat} {f : Addr} {fd : FuncData} {ps : List Str} {sp sp' : Sp} (F : FnOk P w K mg base CX k f fd ps sp)
    (h : ∀ vs H Q E, sp' vs H Q E → sp vs H Q E) : FnOk P w K mg base CX k f fd ps sp' :=
  ⟨fun vs H Q E q => F.len vs H Q E (h _ _ _ _ q), fun A outer s H args us vs Q E hr he hb hv hs => F.run A outer s H args us vs Q E hr he hb hv (h _ _ _ _ hs)⟩
theorem Env0.make {P : Program} {w : World} {K : PySem.W.Frag} {mg : Str → Option Value} {base : Heap} {A : Around} {outer : List Env} {s : Shared} {H : Hp} (e : Env0 P w K mg base A outer s H) (C : Addr) (us : List Value) (kw : List (Str × Value)) :
    Env0 P w K mg base (A.under (.builtin "type.__call__" ⟨.ref C :: us, kw⟩)) outer s H := ⟨by first | exact e.frames | (simpa [Around.under, Code.envs, Code.isFrame, pushEnvs] using e.frames), e.mod, e.bs, e.bsz, e.funs, e.frf, e.hok, e.bare⟩
theorem Env0.in1 {P : Program} {w : World} {K : PySem.W.Frag} {mg : Str → Option Value} {base : Heap} {A : Around} {outer : List Env} {s : Shared} {H : Hp} (e : Env0 P w K mg base A outer s H) :
    Env0 P w K mg base A.in1 outer s H := ⟨e.frames, e.mod, e.bs, e.bsz, e.funs, e.frf, e.hok, e.bare⟩
section
variable {X : Cx} {pins : List (Addr × Obj)} {σ : St} {H : Hp} {s s' : Shared}
theorem Inv.env0 (I : Inv X pins σ H s) : Env0 X.prog X.w X.K X.mg X.base X.A X.stack s H :=
  ⟨I.ok.frames, I.ok.mod, I.bs, Nat.le_trans I.ok.bsz I.sz, I.stack, I.stkFree, I.hok, I.bare⟩
theorem Inv.after {Q : VK} {u : Value} (I : Inv X pins σ H s) (h : CE X.stack X.prog X.w H s Q u s') : EP X pins σ Q u s' := by
  obtain ⟨v, H', os, bare, un, hok, r, q⟩ := h
  obtain ⟨hh, g, d, t, os'⟩ := s'
  obtain rfl : os' = s.os := os
  exact ⟨v, H', I.call (h' := hh) (g' := g) (d' := d) (t' := t) (ch := []) un hok bare (fun b z => absurd z (by simp)), r, q⟩
end
def tCall (sp : Sp) (dvs : List V) (E : XK) (t : TA) : TE := fun σ H Q => t σ H fun vs H1 => sp (vs ++ dvs) H1 Q E
def tMeth (C : Addr) (m : Str) (sp : Sp) (dvs : List V) (E : XK) (ta : TE) (t : TA) : TE := fun σ H Q => ta σ H fun x H1 => ∃ a dx fs, x = .ref a ∧ H1 a = some (.ins C dx fs) ∧ fs.lookup m = none ∧
  t σ H1 fun vs H2 => sp (x :: (vs ++ dvs)) H2 Q E
def tMake (C : Addr) (sp : Sp) (dvs : List V) (E : XK) (t : TA) : TE := fun σ H Q => t σ H fun vs H1 => ∀ x dx, H1 x = none → H1 dx = none → dx ≠ x →
  sp (.ref x :: (vs ++ dvs)) (upd (upd H1 dx (.own x)) x (.ins C dx [])) (fun v H2 => v = .non ∧ Q (.ref x) H2) E
def Binds (K : PySem.W.Frag) (fd : FuncData) (ps : List Str) (ds : List Value) : Prop :=
  ∀ (s : Shared) (us : List Value), K.In s.heap → (us ++ ds).length = ps.length → BindsTo s fd ⟨us, []⟩ (ps.zip (us ++ ds))
theorem Binds.all {K : PySem.W.Frag} {fd : FuncData} {ps : List Str} (h : ∀ us : List Value, us.length = ps.length → bindArgs fd ⟨us, []⟩ = pure (ps.zip us)) : Binds K fd ps [] := fun s us _ hl => by
  rw [List.append_nil] at hl ⊢
  exact .of_eq (h us hl)
def Passes (CX : CXT) (X : Cx) (E : XK) : Prop := ∀ (pins : List (Addr × Obj)) (σ : St) (H : Hp) (s : Shared) (e : Value) (s' : Shared), Inv X pins σ H s → CX X.stack H s E e s' → X.xe e s'
section
variable {X : Cx} {CX : CXT} {k : Nat} {f C : Addr} {fd : FuncData} {ps : List Str} {sp : Sp} {dvs : List V} {ds : List Value} {E : XK} {x m : Str} {p pos apos : Pos} {e o : Expr} {es : List Expr} {ta : TE} {t : TA}
theorem run_fn {pins : List (Addr × Obj)} {σ : St} {H : Hp} {s : Shared} {Q : VK} {us : List Value} {vs : List V} (F : FnOk X.prog X.w X.K X.mg X.base CX k f fd ps sp) (hr : Room k X.A) (hb : Binds X.K fd ps ds) (hd : Vals dvs ds) (hx : Passes CX X E)
    (I : Inv X pins σ H s) (r : Vals vs us) (h : sp (vs ++ dvs) H Q E) : wpAny (model X.prog X.w) X.A (call (.ref f) us) (EP X pins σ Q) X.xe s := by
  have r2 : Vals (vs ++ dvs) (us ++ ds) := r.append hd
  have hl : (us ++ ds).length = ps.length := by rw [← r2.length]; exact F.len _ _ _ _ h
  refine wpAny_call (codeAny_mono (F.run X.A X.stack s H ⟨us, []⟩ (us ++ ds) (vs ++ dvs) Q E hr I.env0 (hb s us I.kIn hl) r2 h) fun r s' hq => ?_)
  cases r with
  | error e => exact hx pins σ H s e s' I hq
  | ok fl =>
    cases fl with
    | ret u => exact I.after hq
    | next => exact False.elim hq
    | brk => exact False.elim hq
    | cont => exact False.elim hq
theorem pe_call (F : FnOk X.prog X.w X.K X.mg X.base CX k f fd ps sp) (hr : Room k X.A) (hg : Gl X x) (hm : X.mg x = some (.ref f)) (hk : PySem.W.keepIn X.K (.ref f) = true) (hb : Binds X.K fd ps ds) (hd : Vals dvs ds) (hx : Passes CX X E)
    (ha : PA X (e :: es) t) (hdb : (x == ("__debug__" : Str)) = false := by decide) (he : starEach (e :: es) X.env = (false, eval e X.env) :: starEach es X.env := by rfl) (hpl : (backTo pos (starEach es X.env)).any (·.1) = false := by rfl) :
    PE X (.Call (.Name x p) (e :: es) [] pos) (tCall sp dvs E t) := by
  intro pins s σ H Q I h
  refine wpAny_Call_Name_kw (ld_glob I hg hm ?_ hdb)
  refine PySem.W.callWith_K (h₀ := X.base) I.ok.mod.kin hk (thn (ha pos pins s σ H _ I h) fun us s1 ⟨vs, H1, I1, r, q⟩ => ⟨I1.kIn, ?_⟩) he hpl
  exact run_fn F hr hb hd hx I1 r q
theorem pe_meth {pl : Sem Bool} (he : PE X o ta) (c : Cls X.K C) (hm : Meth X.K C m f) (F : FnOk X.prog X.w X.K X.mg X.base CX k f fd ps sp) (hr : Room k X.A) (hb : Binds X.K fd ps ds) (hd : Vals dvs ds) (hx : Passes CX X E) (ha : PA X (e :: es) t)
    (hst : starEach (e :: es) X.env = (false, eval e X.env) :: starEach es X.env := by rfl) (hpl : (backTo pos (starEach es X.env)).any (·.1) = false := by rfl)
    (ht : eval (.Call (.Attribute o m apos) (e :: es) [] pos) X.env = (do
      let ov ← eval o X.env
      standAt apos.atName
      let (f, first) ← holding [ov] (getMethod ov m pl)
      callWith pos f first (backTo pos (starEach (e :: es) X.env)) (backToKw pos (keywordEach [] X.env))) := by rfl) :
    PE X (.Call (.Attribute o m apos) (e :: es) [] pos) (tMeth C m sp dvs E ta t) := by
  intro pins s σ H Q I h
  refine PySem.W.methodCall_KW (pl := pl) (thn (he pins s σ H _ I h) fun u s1 ⟨x, H1, I1, rx, a, dx, fs, ex, ea, l, q⟩ => ?_) ht
  subst ex
  obtain rfl : u = Value.ref a := rx
  refine getmeth_ok I1 ea c hm l ?_
  refine PySem.W.callWith_K (first := [.ref a]) (h₀ := X.base) I.ok.mod.kin hm.kp (thn (ha pos pins s1 σ H1 _ I1 q) fun us s2 ⟨vs, H2, I2, r, q2⟩ => ⟨I2.kIn, ?_⟩) hst hpl
  exact run_fn (us := .ref a :: us) (vs := .ref a :: vs) F hr hb hd hx I2 (.cons rfl r) q2
theorem pe_meth0 {pl : Sem Bool} (he : PE X o ta) (c : Cls X.K C) (hm : Meth X.K C m f) (F : FnOk X.prog X.w X.K X.mg X.base CX k f fd ps sp) (hr : Room k X.A) (hb : Binds X.K fd ps ds) (hd : Vals dvs ds) (hx : Passes CX X E)
    (ht : eval (.Call (.Attribute o m apos) [] [] pos) X.env = (do
      let ov ← eval o X.env
      standAt apos.atName
      let (f, first) ← holding [ov] (getMethod ov m pl)
      callWith pos f first (backTo pos (starEach [] X.env)) (backToKw pos (keywordEach [] X.env))) := by rfl) :
    PE X (.Call (.Attribute o m apos) [] [] pos) (tMeth C m sp dvs E ta tNil) := by
  intro pins s σ H Q I h
  refine PySem.W.methodCall_KW (pl := pl) (thn (he pins s σ H _ I h) fun u s1 ⟨x, H1, I1, rx, a, dx, fs, ex, ea, l, q⟩ => ?_) ht
  subst ex
  obtain rfl : u = Value.ref a := rx
  refine getmeth_ok I1 ea c hm l ?_
  exact PySem.W.callWith_K0 (first := [.ref a]) I1.kIn hm.kp (run_fn (us := [.ref a]) (vs := [.ref a]) F hr hb hd hx I1 (.cons rfl .nil) q)
structure Mk (K : PySem.W.Frag) (C f : Addr) : Prop where
  makes : PySem.W.makesIn K C = true
  init : PySem.W.findIn K (.ref C) "__init__" = some (some (.ref f))
  fn : PySem.W.isFn K (.ref f) = true
  kp : PySem.W.keepIn K (.ref C) = true
theorem run_make {pins : List (Addr × Obj)} {σ : St} {H : Hp} {s : Shared} {Q : VK} {us : List Value} {vs : List V} (M : Mk X.K C f) (F : FnOk X.prog X.w X.K X.mg X.base CX k f fd ps sp) (hr : Room (k + 1) X.A) (hb : Binds X.K fd ps ds) (hd : Vals dvs ds)
    (hx : Passes CX X E) (I : Inv X pins σ H s) (r : Vals vs us)
    (h : ∀ x dx, H x = none → H dx = none → dx ≠ x → sp (.ref x :: (vs ++ dvs)) (upd (upd H dx (.own x)) x (.ins C dx [])) (fun v H2 => v = .non ∧ Q (.ref x) H2) E) :
    wpAny (model X.prog X.w) X.A (call (.ref C) us) (EP X pins σ Q) X.xe s := by
  have hq := h (s.heap.objs.size + 1) s.heap.objs.size (I.hok.fresh (Nat.le_succ _)) (I.hok.fresh (Nat.le_refl _)) (Nat.ne_of_lt (Nat.lt_succ_self _))
  have I2 := Inv.made (C := C) I
  have r2 : Vals (V.ref (s.heap.objs.size + 1) :: (vs ++ dvs)) (Value.ref (s.heap.objs.size + 1) :: (us ++ ds)) := .cons rfl (r.append hd)
  have hl : (Value.ref (s.heap.objs.size + 1) :: us ++ ds).length = ps.length := by
    have e := r2.length
    rw [F.len _ _ _ _ hq] at e
    exact e.symm
  refine wpAny_call (make_map (f := f) I.kIn M.makes M.init (beq_iff_eq.mp M.fn) (codeAny_mono (F.run _ X.stack _ _ ⟨Value.ref (s.heap.objs.size + 1) :: us, []⟩ (Value.ref (s.heap.objs.size + 1) :: (us ++ ds)) _ _ E (hr.make C us [])
    (I2.env0.make C us []) (hb _ (Value.ref (s.heap.objs.size + 1) :: us) I2.kIn hl) r2 hq) fun r s' hq' => ?_))
  cases r with
  | error e => exact hx pins σ _ _ e s' I2 hq'
  | ok fl =>
    cases fl with
    | ret u =>
      obtain ⟨v, H', I3, rv, ev, q3⟩ := I2.after hq'
      subst ev
      exact ⟨rv, ⟨V.ref (s.heap.objs.size + 1), H', I3, rfl, q3⟩⟩
    | next => exact False.elim hq'
    | brk => exact False.elim hq'
    | cont => exact False.elim hq'
theorem pe_make (M : Mk X.K C f) (F : FnOk X.prog X.w X.K X.mg X.base CX k f fd ps sp) (hr : Room (k + 1) X.A) (hg : Gl X x) (hm : X.mg x = some (.ref C)) (hb : Binds X.K fd ps ds) (hd : Vals dvs ds) (hx : Passes CX X E)
    (ha : PA X (e :: es) t) (hdb : (x == ("__debug__" : Str)) = false := by decide) (he : starEach (e :: es) X.env = (false, eval e X.env) :: starEach es X.env := by rfl) (hpl : (backTo pos (starEach es X.env)).any (·.1) = false := by rfl) :
    PE X (.Call (.Name x p) (e :: es) [] pos) (tMake C sp dvs E t) := by
  intro pins s σ H Q I h
  refine wpAny_Call_Name_kw (ld_glob I hg hm ?_ hdb)
  refine PySem.W.callWith_K (h₀ := X.base) I.ok.mod.kin M.kp (thn (ha pos pins s σ H _ I h) fun us s1 ⟨vs, H1, I1, r, q⟩ => ⟨I1.kIn, ?_⟩) he hpl
  exact run_make M F hr hb hd hx I1 r q
end
def PK (X : Cx) (kws : List Keyword) (t : TA) : Prop :=
  ∀ (pos : Pos) (pins : List (Addr × Obj)) (s : Shared) (σ : St) (H : Hp) (Q : List V → Hp → Prop), Inv X pins σ H s → t σ H Q → wpAny (model X.prog X.w) X.A (evalAll ((backToKw pos (keywordEach kws X.env)).map (·.2))) (AP X pins σ Q) X.xe s
section
variable {X : Cx} {CX : CXT} {k : Nat} {f C : Addr} {fd : FuncData} {ps ks : List Str} {sp : Sp} {E : XK} {x m : Str} {p pos apos kpos : Pos} {e o : Expr} {es : List Expr} {kws : List Keyword} {te ta : TE} {t tk : TA} {nm : Option Str}
theorem pk_nil : PK X [] tNil := fun _ _ _ _ H Q I h => wpAny_evalAll_nil ⟨[], H, I, .nil, h⟩
theorem pk_cons (ha : PE X e te) (hr : PK X kws t) : PK X (⟨nm, e, kpos⟩ :: kws) (tCons te t) := by
  intro pos pins s σ H Q I h
  show wpAny _ _ (evalAll ((do let v ← eval e X.env; standAt pos; pure v) :: (backToKw pos (keywordEach kws X.env)).map (·.2))) _ _ s
  refine wpAny_evalAll_cons (wpAny_bind (thn (ha pins s σ H _ I h) fun u s1 ⟨x, H1, I1, r1, q1⟩ => wpAny_bind (wpAny_standAt (wpAny_pure ?_))))
  exact thn (hr pos pins s1 σ H1 _ I1 q1) fun us s2 ⟨xs, H2, I2, r2, q2⟩ => ⟨x :: xs, H2, I2, .cons r1 r2, q2⟩
variable {g : List Value → List Value → List Value} {gV : List V → List V → List V}
end
structure FnScope (N P : List Str) (sc : Scope) : Prop where
  kind : sc.kind = .function
  co : sc.isCoroutine = false
  gen : sc.isGenerator = false
  nd : N.Nodup
  pre : N.take P.length = P
  par : ∀ x ∈ P, sc.names.lookup x = some .local ∨ sc.names.lookup x = some .cell
  nofree : ∀ y ∈ sc.names, y.2 ≠ .free
theorem bindL_out {kindOf : Str → Option NameKind} {x : Str} : ∀ {binds : List (Str × Value)} {m : Str → Option Value}, (∀ v, (x, v) ∉ binds) → bindL kindOf binds m x = m x
  | [], _, _ => rfl
  | (n, v) :: r, m, h => by
    unfold bindL
    rw [bindL_out fun w hw => h w (List.mem_cons_of_mem _ hw)]
    split
    · have : x ≠ n := by rintro rfl; exact h v List.mem_cons_self
      simp [this]
    · rfl
theorem bindC_out {kindOf : Str → Option NameKind} {x : Str} : ∀ {binds : List (Str × Value)} {m : Str → Option Value}, (∀ v, (x, v) ∉ binds) → bindC kindOf binds m x = m x
  | [], _, _ => rfl
  | (n, v) :: r, m, h => by
    unfold bindC
    rw [bindC_out fun w hw => h w (List.mem_cons_of_mem _ hw)]
    split
    · rfl
    · have : x ≠ n := by rintro rfl; exact h v List.mem_cons_self
      simp [this]
theorem bindL_get {kindOf : Str → Option NameKind} {x : Str} {v : Value} : ∀ {P : List Str} {vs : List Value} {i : Nat} {m : Str → Option Value}, P.Nodup → P[i]? = some x → vs[i]? = some v → kindOf x = some .local →
    bindL kindOf (P.zip vs) m x = some v
  | [], _, _, _, _, h, _, _ => by simp at h
  | _ :: _, [], _, _, _, _, h, _ => by simp at h
  | p :: P, w :: vs, 0, m, nd, h1, h2, hk => by
    simp at h1 h2; subst h1; subst h2
    show bindL kindOf ((p, w) :: P.zip vs) m p = _
    unfold bindL
    rw [bindL_out fun v hv => (List.nodup_cons.mp nd).1 (List.of_mem_zip hv).1, if_pos hk]
    simp
  | p :: P, w :: vs, i + 1, m, nd, h1, h2, hk => by
    show bindL kindOf ((p, w) :: P.zip vs) m x = _
    unfold bindL
    exact bindL_get (i := i) (List.nodup_cons.mp nd).2 (by simpa using h1) (by simpa using h2) hk
theorem bindC_get {kindOf : Str → Option NameKind} {x : Str} {v : Value} : ∀ {P : List Str} {vs : List Value} {i : Nat} {m : Str → Option Value}, P.Nodup → P[i]? = some x → vs[i]? = some v → kindOf x ≠ some .local →
    bindC kindOf (P.zip vs) m x = some v
  | [], _, _, _, _, h, _, _ => by simp at h
  | _ :: _, [], _, _, _, _, h, _ => by simp at h
  | p :: P, w :: vs, 0, m, nd, h1, h2, hk => by
    simp at h1 h2; subst h1; subst h2
    show bindC kindOf ((p, w) :: P.zip vs) m p = _
    unfold bindC
    rw [bindC_out fun v hv => (List.nodup_cons.mp nd).1 (List.of_mem_zip hv).1, if_neg hk]
    simp
  | p :: P, w :: vs, i + 1, m, nd, h1, h2, hk => by
    show bindC kindOf ((p, w) :: P.zip vs) m x = _
    unfold bindC
    exact bindC_get (i := i) (List.nodup_cons.mp nd).2 (by simpa using h1) (by simpa using h2) hk
def start (N : List Str) (vs : List V) : St := vs.map some ++ List.replicate (N.length - vs.length) none
def cxOf (CX : CXT) (P : Program) (w : World) (K : PySem.W.Frag) (mg : Str → Option Value) (base : Heap) (N : List Str) (qual : Str) (scope : Scope) (f : Addr) (cd : Value) (A : Around) (outer : List Env) (s : Shared) (H : Hp) (E : XK) : Cx where
  prog := P
  w := w
  K := K
  mg := mg
  base := base
  A := A.deeper (envOfC qual scope s.heap.objs.size f cd)
  N := N
  s_0 := s
  H_0 := H
  env := envOfC qual scope s.heap.objs.size f cd
  outer := outer
  stack := envOfC qual scope s.heap.objs.size f cd :: outer
  ex := []
  calm := true
  fn := fun _ => true
  pn := []
  xe := fun e s' => wpAny (model P w) (A.deeper (envOfC qual scope s.heap.objs.size f cd)) (leaving (envOfC qual scope s.heap.objs.size f cd) e) (fun _ s'' => CX outer H s E e s'') (fun e' s'' => CX outer H s E e' s'') s'
theorem cell_has {sc : Scope} {n : Nat} {x : Str} (h : sc.names.lookup x = some .cell) : ∃ c, (cellsFrom n sc.names []).lookup x = some c := by
  have q := PySem.W.cellsFrom_some sc.names n [] (.inl h)
  exact Option.isSome_iff_exists.mp q
theorem inv_start {CX : CXT} {P : Program} {w : World} {K : PySem.W.Frag} {mg : Str → Option Value} {base : Heap} {N ps : List Str} {qual : Str} {scope : Scope} {f : Addr} {cd : Value} {A : Around} {outer : List Env} {s s1 : Shared} {H : Hp} {E : XK} {us : List Value} {vs : List V}
    (S : FnScope N ps scope) (hd : A.handled = none) (e0 : Env0 P w K mg base A outer s H) (hl : vs.length = ps.length) (r : Vals vs us)
    (x : InCallC s s.heap.objs.size (bindL (envOfC qual scope s.heap.objs.size f cd).kindOf (ps.zip us) fun _ => none) (cellsFrom (s.heap.objs.size + 1) scope.names []) (bindC (envOfC qual scope s.heap.objs.size f cd).kindOf (ps.zip us) fun _ => none) s1) :
    Inv (cxOf CX P w K mg base N qual scope f cd A outer s H E) [] (start N vs) H s1 := by
  have hpl : ps.length ≤ N.length := by have := congrArg List.length S.pre; rw [List.length_take] at this; omega
  obtain ⟨h1, tk, rfl, hk⟩ := x.done
  have noA : ∀ b : Addr, b ∉ (cxOf CX P w K mg base N qual scope f cd A outer s H E).ex := fun b z => absurd (show b ∈ ([] : List Addr) from z) (by simp)
  refine ⟨⟨e0.mod, S.kind, rfl, rfl, Nat.le_refl _, fun y z c h1 h2 => ?_, fun y hy => ?_, fun y c _ h => ?_, fun _ => hd, Around.frames_deeper e0.frames, .inr ⟨rfl, rfl⟩, fun b z => absurd z (noA b), e0.bs, e0.bsz, fun b _ _ => noA b, fun b z => absurd z (noA b), e0.funs, e0.frf⟩,
    rfl, e0.bare, Un.kept hk, ⟨_, x.toInCall.ns, fun i y v h1 h2 h3 => ?_⟩, fun y c h => ⟨_, x.cell y c h⟩, e0.hok.fresh (Nat.le_refl _), fun y c h => ?_, fun p hp => absurd (show p ∈ ([] : List (Addr × Obj)) from hp) (by simp), e0.hok.kept hk, ?_⟩
  · exact name_of_addr x.apart (PySem.mem_of_lookup h1) (PySem.mem_of_lookup h2)
  · have hy : scope.names.lookup y = some .cell ∨ scope.names.lookup y = some .free := hy
    rcases hy with hy | hy
    · exact cell_has hy
    · exact absurd rfl (S.nofree _ (PySem.mem_of_lookup hy))
  · exact Nat.le_of_lt (x.above y c (PySem.mem_of_lookup h))
  · have hi : i < vs.length := by
      unfold start at h2
      by_cases hi : i < vs.length
      · exact hi
      · rw [List.getElem?_append_right (by simpa using hi)] at h2
        rw [List.getElem?_replicate] at h2
        split at h2 <;> cases h2
    have ha : vs[i]? = some v := by
      unfold start at h2
      rw [List.getElem?_append_left (by simpa using hi), List.getElem?_map] at h2
      cases e : vs[i]? with
      | none => rw [e] at h2; cases h2
      | some a => rw [e] at h2; cases h2; rfl
    obtain ⟨u, hu, rv⟩ := r.get ha
    have hp : ps[i]? = some y := by
      rw [← S.pre, List.getElem?_take_of_lt (by omega)]; exact h1
    have ndP : ps.Nodup := by rw [← S.pre]; exact S.nd.sublist (List.take_sublist _ _)
    refine ⟨u, rv, ?_⟩
    rcases S.par y (List.mem_of_getElem? hp) with k | k
    · exact .inl ⟨k, bindL_get ndP hp hu k⟩
    · obtain ⟨c, e⟩ := cell_has (n := s.heap.objs.size + 1) k
      refine .inr ⟨.inl k, c, e, ?_⟩
      have q := x.cell y c e
      rw [bindC_get ndP hp hu (by show scope.names.lookup y ≠ _; rw [k]; decide)] at q
      exact q
  · exact e0.hok.fresh (Nat.le_of_lt (x.above y c (PySem.mem_of_lookup h)))
  · unfold start
    show _ = N.length
    rw [List.length_append, List.length_map, List.length_replicate]
    omega
theorem fn_of {CX : CXT} {P : Program} {w : World} {K : PySem.W.Frag} {mg : Str → Option Value} {base : Heap} {k : Nat} {f : Addr} {name qual : Str} {params : Arguments} {body : List Stmt} {scope : Scope} {dV kV doc pm cdv ct oc : Value} {an od : Option Addr}
    {osl : Array (Option Value)} {N ps : List Str} {sp : Sp} (lk : K.lookup f = some ⟨oc, od, .func (PySem.W.fnOf name qual params body scope dV kV doc pm an cdv ct), osl⟩) (hcd : PySem.W.codeIn K cdv qual = true) (S : FnScope N ps scope)
    (len : ∀ vs H Q E, sp vs H Q E → vs.length = ps.length)
    (hbody : ∀ (A : Around) (outer : List Env) (s : Shared) (H : Hp) (vs : List V) (Q : VK) (E : XK), Room k (A.deeper (envOfC qual scope s.heap.objs.size f cdv)) → sp vs H Q E →
      ∃ t, PSs (cxOf CX P w K mg base N qual scope f cdv A outer s H E) body t ∧ t { nx := fun _ H' => Q .non H', rt := Q } (start N vs) H) :
    FnOk P w K mg base CX (k + 1) f (PySem.W.fnOf name qual params body scope dV kV doc pm an cdv ct) ps sp := by
  refine ⟨len, fun A outer s H args us vs Q E hr e0 hb r hsp => ?_⟩
  have hl := len _ _ _ _ hsp
  have KX : K.In s.heap := e0.mod.kin.keeps fun b o e => (e0.bs b o e).1
  have lim : s.heap.NoLimit := e0.mod.nolimit.keeps fun b o e => (e0.bs b o e).1
  have hkind : ∀ y ∈ ps.zip us, scope.names.lookup y.1 = some .local ∨ (scope.names.lookup y.1 = some .cell ∧ ((cellsFrom (s.heap.objs.size + 1) scope.names []).lookup y.1).isSome = true) := fun ⟨n, v⟩ hy => by
    rcases S.par n (List.of_mem_zip hy).1 with q | q
    · exact .inl q
    · exact .inr ⟨q, PySem.W.cellsFrom_some _ _ _ (.inl q)⟩
  refine codeAny_call_function hr.depth (KX _ _ lk) rfl S.co S.gen rfl (PySem.W.codeRec_of KX hcd) (hb _ _ _ _ ?_)
  refine wpAny_newFunctionEnv_cells S.kind hkind fun env he s1 x => ?_
  subst he
  refine ⟨lim.keeps x.toInCall.keep, codeAny_func ?_⟩
  obtain ⟨t, ht, hq⟩ := hbody A outer s H vs Q E (hr.deeper _) hsp
  have I : Inv (cxOf CX P w K mg base N qual scope f cdv A outer s H E) [] (start N vs) H s1 := inv_start S hr.hd e0 hl r x
  refine wpAny_mono (ht [] s1 (start N vs) H _ I hq) (fun fl s' hs => ?_) fun e s' hs => hs
  have fin : ∀ {σ' : St} {H' : Hp} {v : V} {u : Value}, Inv (cxOf CX P w K mg base N qual scope f cdv A outer s H E) [] σ' H' s' → RelV v u → Q v H' → CE outer P w H s Q u s' :=
    fun {σ' H' v u} J rv q => ⟨v, H', J.os, J.bare, J.base, J.hok, rv, q⟩
  cases fl with
  | ret u =>
    obtain ⟨v, σ', H', J, rv, q⟩ := hs
    exact fin J rv q
  | next =>
    obtain ⟨σ', H', J, q⟩ := hs
    exact fin (v := V.non) (u := Value.none) J rfl q
  | brk =>
    obtain ⟨_, _, _, q⟩ := hs
    exact False.elim q
  | cont =>
    obtain ⟨_, _, _, q⟩ := hs
    exact False.elim q
end L2
namespace L2
open PySem PySem.Spec PyProof.Rows
section
variable {X : Cx} {x : Str} {p pos : Pos} {e : Expr} {es : List Expr} {t : TA} {id T : String} {r : List V → Hp → VK → Prop}
def tCB (r : List V → Hp → VK → Prop) (t : TA) : TE := fun σ H Q => t σ H fun vs H1 => r vs H1 Q
theorem pe_callB (hc : CallR X (.builtin id) r) (hg : Gl X x) (hm : X.mg x = none) (hv : bootBuiltins x = some (.builtin id)) (ha : PA X (e :: es) t) (hn : x ≠ "__name__" := by decide) (hdb : (x == ("__debug__" : Str)) = false := by decide)
    (he : starEach (e :: es) X.env = (false, eval e X.env) :: starEach es X.env := by rfl) (hpl : (backTo pos (starEach es X.env)).any (·.1) = false := by rfl) : PE X (.Call (.Name x p) (e :: es) [] pos) (tCB r t) := by
  intro pins s σ H Q I h
  refine wpAny_Call_Name_kw (ld_blt I hg hm hv ?_ hn hdb)
  exact PyProof.Rows.callWith_builtin1 (thn (ha pos pins s σ H _ I h) fun us s1 ⟨vs, H1, I1, r1, q1⟩ => hc pins s1 σ H1 vs us Q I1 r1 q1) he hpl
theorem pe_callTy (hc : CallR X (.type T) r) (hg : Gl X x) (hm : X.mg x = none) (hv : bootBuiltins x = some (.type T)) (ha : PA X (e :: es) t) (hn : x ≠ "__name__" := by decide) (hdb : (x == ("__debug__" : Str)) = false := by decide)
    (he : starEach (e :: es) X.env = (false, eval e X.env) :: starEach es X.env := by rfl) (hpl : (backTo pos (starEach es X.env)).any (·.1) = false := by rfl) : PE X (.Call (.Name x p) (e :: es) [] pos) (tCB r t) := by
  intro pins s σ H Q I h
  refine wpAny_Call_Name_kw (ld_blt I hg hm hv ?_ hn hdb)
  exact PyProof.Rows.callWith_type1 (thn (ha pos pins s σ H _ I h) fun us s1 ⟨vs, H1, I1, r1, q1⟩ => hc pins s1 σ H1 vs us Q I1 r1 q1) he hpl
end
end L2
namespace HT
open PySem PyProof.Rows
section
open PySem.SeqAt
open PySem.AutoSeq1 (wpAny_loadPart')
open PySem.MeetsSeq PySem.MeetsSeq2 PySem.MeetsSeq3
end
section
variable {prog : Program} {w : World} {A : Around} {E : Value → Shared → Prop} {s : Shared}
def sIx (n d : Nat) : Option Int → Nat
  | none => d
  | some v => if v < 0 then (v + (n : Int)).toNat else min v.toNat n
theorem sIx_nat (n d k : Nat) : sIx n d (some (k : Int)) = min k n := by
  show (if (k : Int) < 0 then ((k : Int) + (n : Int)).toNat else min (k : Int).toNat n) = min k n
  rw [if_neg (by omega), Int.toNat_natCast]
end
end HT
namespace L2
open PySem PySem.Spec PyProof.Rows
abbrev TO := St → Hp → (Option Int → Hp → Prop) → Prop
def PO (X : Cx) (e : Option Expr) (t : TO) : Prop :=
  ∀ (pins : List (Addr × Obj)) (s : Shared) (σ : St) (H : Hp) (Q : Option Int → Hp → Prop), Inv X pins σ H s → t σ H Q →
    wpAny (model X.prog X.w) X.A (evalPart e X.env) (fun u s' => ∃ o H', Inv X pins σ H' s' ∧ IsPart u o ∧ Q o H') X.xe s
def tPart (t : TE) : TO := fun σ H Q => t σ H fun x H1 => ∃ i, x = .int i ∧ Q (some i) H1
section
variable {X : Cx} {e : Expr} {te : TE} {lo hi : Option Expr} {tl th : TO} {pos p2 : Pos}
theorem po_some (h : PE X e te) : PO X (some e) (tPart te) := by
  intro pins s σ H Q I hw
  rw [evalPart_some]
  refine thn (h pins s σ H _ I hw) fun u s1 ⟨x, H1, I1, r1, q1⟩ => ?_
  obtain ⟨i, rfl, q⟩ := q1
  obtain ⟨t, rfl⟩ := r1
  exact ⟨some i, H1, I1, .int i t, q⟩
def SlR (X : Cx) (r : V → Option Int → Option Int → Hp → VK → Prop) : Prop :=
  ∀ (pins : List (Addr × Obj)) (s : Shared) (σ : St) (H : Hp) (x : V) (v vl vu : Value) (lo hi : Option Int) (sl : Addr) (Q : VK), Inv X pins σ H s → RelV x v → s.heap.IsSliceOf sl vl vu .none → IsPart vl lo → IsPart vu hi → r x lo hi H Q →
    ∃ T id, typeLookup (.type T) "__getitem__" = pure (some (.builtin id)) ∧ s.TypeIs v T ∧ wpAny (model X.prog X.w) X.A (getItem v (.ref sl)) (EP X pins σ Q) X.xe s
theorem SlR.or {r r' : V → Option Int → Option Int → Hp → VK → Prop} (h : SlR X r) (h' : SlR X r') : SlR X (fun x lo hi H Q => r x lo hi H Q ∨ r' x lo hi H Q) := by
  intro pins s σ H x v vl vu lo hi sl Q I rx hs pl pu q
  rcases q with q | q
  · exact h pins s σ H x v vl vu lo hi sl Q I rx hs pl pu q
  · exact h' pins s σ H x v vl vu lo hi sl Q I rx hs pl pu q
def tSl (r : V → Option Int → Option Int → Hp → VK → Prop) (te : TE) (tl th : TO) : TE := fun σ H Q => te σ H fun x H1 => tl σ H1 fun l H2 => th σ H2 fun u H3 => r x l u H3 Q
theorem pe_slice {r : V → Option Int → Option Int → Hp → VK → Prop} (hr : SlR X r) (he : PE X e te) (hl : PO X lo tl) (hu : PO X hi th) : PE X (.Subscript e (.Slice lo hi none p2) pos) (tSl r te tl th) := by
  intro pins s σ H Q I h
  refine Subscript_ (thn (he pins s σ H _ I h) fun v s1 ⟨x, H1, I1, r1, q1⟩ => ?_)
  refine wpAny_Slice (thn (hl pins s1 σ H1 _ I1 q1) fun vl s2 ⟨l, H2, I2, pl, q2⟩ => thn (hu pins s2 σ H2 _ I2 q2) fun vu s3 ⟨u, H3, I3, pu, q3⟩ => ?_)
  rw [evalPart_none]
  refine wpAny_pure ?_
  have I4 : Inv X pins σ H3 { s3 with heap := s3.heap.push { cls := .type "slice", data := .fields #[vl, vu, .none] } } := I3.kept (t' := s3.toks) fun b ob q => Heap.get?_push_of_some _ q
  obtain ⟨T, id, hT, ht, hg⟩ := hr pins { s3 with heap := s3.heap.push { cls := .type "slice", data := .fields #[vl, vu, .none] } } σ H3 x v vl vu l u s3.heap.objs.size Q I4 r1 (Heap.IsSliceOf.new ..) pl pu q3
  show wpAny (model X.prog X.w) X.A (subscriptTail e (.Slice lo hi none p2) v (.ref s3.heap.objs.size)) (EP X pins σ Q) X.xe { s3 with heap := s3.heap.push { cls := .type "slice", data := .fields #[vl, vu, .none] } }
  exact tail_any (ops := [.ref s3.heap.objs.size, v]) ht hT hg (by with_unfolding_all rfl)
def cutV (xs : List V) (lo hi : Option Int) : List V := (xs.drop (HT.sIx xs.length 0 lo)).take (HT.sIx xs.length xs.length hi - HT.sIx xs.length 0 lo)
theorem cutV_length (xs : List V) (lo hi : Option Int) : (cutV xs lo hi).length ≤ xs.length := by
  unfold cutV
  rw [List.length_take, List.length_drop]
  omega
end
end L2
namespace L2
open PySem PySem.Spec PyProof.Rows
def ixN (n : Nat) (i : Int) : Option Nat := if 0 ≤ i then (if i < n then some i.toNat else none) else if -(n : Int) ≤ i then some (i + n).toNat else none
def atI {α : Type} (xs : List α) (i : Int) : Option α := (ixN xs.length i).bind fun j => xs[j]?
theorem ixN_seq {n : Nat} {i : Int} {j : Nat} (h : ixN n i = some j) : seqIndex? i n = some j ∧ j < n ∧ -(n : Int) ≤ i ∧ i < n := by
  unfold ixN at h
  by_cases h0 : 0 ≤ i
  · rw [if_pos h0] at h
    by_cases h1 : i < n
    · rw [if_pos h1] at h
      have e : i.toNat = j := Option.some.inj h
      exact ⟨by rw [seqIndex_of h0 h1, e], by omega, by omega, h1⟩
    · rw [if_neg h1] at h; cases h
  · rw [if_neg h0] at h
    by_cases h1 : -(n : Int) ≤ i
    · rw [if_pos h1] at h
      have e : (i + n).toNat = j := Option.some.inj h
      exact ⟨by rw [seqIndex_neg (by omega) h1, e], by omega, h1, by omega⟩
    · rw [if_neg h1] at h; cases h
theorem atI_get {α : Type} {xs : List α} {i : Int} {v : α} (h : atI xs i = some v) : ∃ j, seqIndex? i xs.length = some j ∧ xs[j]? = some v ∧ j < xs.length ∧ -(xs.length : Int) ≤ i ∧ i < xs.length := by
  unfold atI at h
  cases e : ixN xs.length i with
  | none => rw [e] at h; cases h
  | some j =>
    rw [e] at h
    obtain ⟨h1, h2, h3, h4⟩ := ixN_seq e
    exact ⟨j, h1, h, h2, h3, h4⟩
theorem atI_nat {α : Type} {xs : List α} {j : Nat} {v : α} (h : xs[j]? = some v) : atI xs (j : Int) = some v := by
  have hj : j < xs.length := (List.getElem?_eq_some_iff.mp h).1
  have e : ixN xs.length (j : Int) = some j := by
    unfold ixN
    rw [if_pos (by omega), if_pos (by omega)]; simp
  unfold atI; rw [e]; exact h
def PlainIx (b : Expr) : Prop := ∀ o i, subscripted b false o i = operate [o, i] (getItem o i)
def IxR (X : Cx) (r : R2) : Prop :=
  ∀ (value slice : Expr) (pins : List (Addr × Obj)) (s : Shared) (σ : St) (H : Hp) (x y : V) (v u : Value) (Q : VK), Inv X pins σ H s → RelV x v → RelV y u → r x y H Q →
    subscripted slice false v u = operate [v, u] (getItem v u) → wpAny (model X.prog X.w) X.A (subscriptTail value slice v u) (EP X pins σ Q) X.xe s
def MtR (X : Cx) (id : String) (r : V → List V → Hp → VK → Prop) : Prop :=
  ∀ (pins : List (Addr × Obj)) (s : Shared) (σ : St) (H : Hp) (x : V) (xs : List V) (v : Value) (us : List Value) (Q : VK), Inv X pins σ H s → RelV x v → Vals xs us → r x xs H Q →
    wpAny (model X.prog X.w) X.A (call (.builtin id) (v :: us)) (EP X pins σ Q) X.xe s
section
variable {X : Cx} {a b : Expr} {ta tb : TE} {pos : Pos}
theorem IxR.or {r r' : R2} (h : IxR X r) (h' : IxR X r') : IxR X (fun x y H Q => r x y H Q ∨ r' x y H Q) := by
  intro value slice pins s σ H x y v u Q I rx ry q hs
  rcases q with q | q
  · exact h value slice pins s σ H x y v u Q I rx ry q hs
  · exact h' value slice pins s σ H x y v u Q I rx ry q hs
theorem MtR.or {id : String} {r r' : V → List V → Hp → VK → Prop} (h : MtR X id r) (h' : MtR X id r') : MtR X id (fun x xs H Q => r x xs H Q ∨ r' x xs H Q) := by
  intro pins s σ H x xs v us Q I rx rs q
  rcases q with q | q
  · exact h pins s σ H x xs v us Q I rx rs q
  · exact h' pins s σ H x xs v us Q I rx rs q
theorem pe_ix {r : R2} (hr : IxR X r) (ha : PE X a ta) (hb : PE X b tb) (hs : PlainIx b) : PE X (.Subscript a b pos) (tOp r ta tb) := by
  intro pins s σ H Q I h
  exact Subscript_ (binT ha hb I h fun v u s2 x y H2 I2 rx ry q => hr a b pins s2 σ H2 x y v u Q I2 rx ry q (hs _ _))
def rIxL (K : PySem.W.Frag) : R2 := fun x y H Q => ∃ p xs i v, x = .ref p ∧ y = .int i ∧ SqL K H p xs ∧ atI xs i = some v ∧ Q v H
def rIxT (K : PySem.W.Frag) : R2 := fun x y H Q => ∃ p xs i v, x = .ref p ∧ y = .int i ∧ SqT K H p xs ∧ atI xs i = some v ∧ Q v H
def rIxS : R2 := fun x y H Q => ∃ z i c, x = .str z ∧ y = .int i ∧ z.length ≤ sizeLine ∧ atI z.cps.toList i = some c ∧ Q (.str ⟨#[c]⟩) H
theorem ix_list : IxR X (rIxL X.K) := by
  intro value slice pins s σ H x y v u Q I rx ry h hs
  obtain ⟨p, xs, i, z, rfl, rfl, hq, he, q⟩ := h
  cases rx
  obtain ⟨t, rfl⟩ := ry
  obtain ⟨its, r, pl, hz⟩ := I.list hq
  obtain ⟨j, h1, h2, h3, h4, h5⟩ := atI_get he
  obtain ⟨w, ew, rw'⟩ := r.get h2
  have hl := r.length
  have hn := line63
  have fin : EP X pins σ Q w s := ⟨z, H, I, rw', q⟩
  by_cases h0 : 0 ≤ i
  · have hj : i.toNat = j := by
      rw [seqIndex_of h0 h5] at h1
      exact Option.some.inj h1
    exact item_listR pl.isList h0 (by omega) (by rw [hj]; simpa using ew) fin hs
  · have hj : (i + (its.toArray.size : Int)).toNat = j := by
      rw [seqIndex_neg (by omega) h4] at h1
      rw [List.size_toArray, ← hl]
      exact Option.some.inj h1
    exact subscriptTail_builtinR (x := w) pl.isList.typeIs slot_list_getitem.lookup
      (wpAny_getItem_list_neg (Q := fun r s' => r = w ∧ EP X pins σ Q r s') pl.isList (by omega) (by rw [List.size_toArray] <;> omega) (by omega) (by rw [hj]; simpa using ew) ⟨rfl, fin⟩) hs
theorem ix_tup : IxR X (rIxT X.K) := by
  intro value slice pins s σ H x y v u Q I rx ry h hs
  obtain ⟨p, xs, i, z, rfl, rfl, hq, he, q⟩ := h
  cases rx
  obtain ⟨t, rfl⟩ := ry
  obtain ⟨its, r, pl, hz⟩ := I.tuple hq
  obtain ⟨j, h1, h2, h3, h4, h5⟩ := atI_get he
  obtain ⟨w, ew, rw'⟩ := r.get h2
  have hl := r.length
  have hn := line63
  have fin : EP X pins σ Q w s := ⟨z, H, I, rw', q⟩
  exact subscriptTail_builtinR (x := w) pl.typeIs slot_tuple_getitem.lookup
    (getItem_tuple (j := j) (Q := fun r s' => r = w ∧ EP X pins σ Q r s') pl (by omega) (by omega) (by rw [List.size_toArray, ← hl]; exact h1) (by simpa using ew) ⟨rfl, fin⟩) hs
theorem ix_str : IxR X rIxS := by
  intro value slice pins s σ H x y v u Q I rx ry h hs
  obtain ⟨z, i, c, rfl, rfl, hz, he, q⟩ := h
  obtain ⟨t, rfl⟩ := rx
  obtain ⟨t', rfl⟩ := ry
  obtain ⟨j, h1, h2, h3, h4, h5⟩ := atI_get he
  have hl : z.cps.toList.length = z.length := by simp [Str.length]
  rw [hl] at h1 h4 h5
  have hn := line63
  exact tail_any (typeIs_str s z t) slot_str_getitem.lookup (getItem_str (c := c) (by
    have e1 : decide (i < -(2 ^ 63 : Int)) = false := decide_eq_false (by omega)
    have e2 : decide (i ≥ 2 ^ 63) = false := decide_eq_false (by omega)
    rw [e1, e2, Bool.or_false]) (by rw [h1]; simpa using h2) ⟨.str ⟨#[c]⟩, H, I.tok _, ⟨_, rfl⟩, q⟩) hs
def rIx (K : PySem.W.Frag) : R2 := fun x y H Q => rIxL K x y H Q ∨ rIxT K x y H Q ∨ rIxS x y H Q
theorem ix_seq : IxR X (rIx X.K) := ix_list.or (ix_tup.or ix_str)
theorem Inv.lst {pins : List (Addr × Obj)} {σ : St} {H : Hp} {s : Shared} {p : Addr} {xs : List V} (I : Inv X pins σ H s) (h : H p = some (.lst xs)) :
    ∃ (its : List Value) (n : Nat), Vals xs its ∧ s.heap.get? p = some { cls := .type "list", data := .seq its.toArray n } ∧ xs.length ≤ sizeLine := by
  obtain ⟨z, its, n, r, e⟩ := I.hok p _ h
  exact ⟨its, n, r, e, z⟩
theorem slice_bounds (lo hi : Option Int) (n : Nat) : (sliceBounds lo hi none n).1 = ((HT.sIx n 0 lo : Nat) : Int) ∧ (sliceBounds lo hi none n).2.1 = ((HT.sIx n n hi : Nat) : Int) ∧ (sliceBounds lo hi none n).2.2 = 1 := by
  refine ⟨?_, ?_, rfl⟩
  · cases lo with
    | none => simp [sliceBounds, HT.sIx]
    | some i =>
      simp only [sliceBounds, HT.sIx, Option.getD_none, show (1 : Int) > 0 by decide, if_true]
      by_cases h : i < 0
      · simp only [h, if_true] <;> omega
      · simp only [h, if_false] <;> omega
  · cases hi with
    | none => simp [sliceBounds, HT.sIx]
    | some i =>
      simp only [sliceBounds, HT.sIx, Option.getD_none, show (1 : Int) > 0 by decide, if_true]
      by_cases h : i < 0
      · simp only [h, if_true] <;> omega
      · simp only [h, if_false] <;> omega
theorem slicePick_cut (its : List Value) (lo hi : Option Int) : slicePick its.toArray lo hi none = ((its.drop (HT.sIx its.length 0 lo)).take (HT.sIx its.length its.length hi - HT.sIx its.length 0 lo)).toArray := by
  obtain ⟨h1, h2, h3⟩ := slice_bounds lo hi its.toArray.size
  unfold slicePick
  rw [h1, h2, h3]
  simp only [sliceRange_one, pick_run, List.size_toArray] <;> rfl
def rSlL (K : PySem.W.Frag) : V → Option Int → Option Int → Hp → VK → Prop := fun x lo hi H Q => ∃ a xs, x = .ref a ∧ SqL K H a xs ∧ ∀ p, H p = none → Q (.ref p) (upd H p (.lst (cutV xs lo hi)))
theorem sl_list : SlR X (rSlL X.K) := by
  intro pins s σ H x v vl vu lo hi sl Q I rx hs pl pu h
  obtain ⟨a, xs, rfl, hx, q⟩ := h
  cases rx
  obtain ⟨its, r, ht, hz⟩ := I.list hx
  have hlen := r.length
  refine ⟨"list", _, slot_list_getitem.lookup, ht.isList.typeIs, ?_⟩
  refine wpAny_getItem_list_slice ht.isList hs pl pu .none (by simp) ?_ (by rw [List.size_toArray] <;> omega)
  rw [slicePick_cut, ← hlen]
  refine ⟨.ref s.heap.objs.size, _, I.laid (t' := s.toks) (o := .lst (cutV xs lo hi)) (fun b ob q => Heap.get?_push_of_some _ q) (Nat.le_refl _) ?_, rfl, q _ (I.hok.fresh (Nat.le_refl _))⟩
  exact ⟨Nat.le_trans (cutV_length xs lo hi) hz, _, 0, (r.drop (HT.sIx xs.length 0 lo)).take (HT.sIx xs.length xs.length hi - HT.sIx xs.length 0 lo), Heap.get?_push_size _ rfl⟩
theorem call_len_seq : CallR X (.builtin "len") (fun xs H Q => ∃ p ys, xs = [.ref p] ∧ (SqL X.K H p ys ∨ SqT X.K H p ys) ∧ Q (.int ys.length) H) := by
  intro pins s σ H xs us Q I r h
  obtain ⟨p, ys, rfl, hq, q⟩ := h
  obtain ⟨u, rfl, rx⟩ := vals1 r
  cases rx
  have hn := line63
  rcases hq with hq | hq
  · obtain ⟨its, r', pl, hz⟩ := I.list hq
    have hlen := r'.length
    exact Calls.call_len_list pl.isList (by simp only [List.size_toArray] <;> omega) ⟨.int ys.length, H, I.tok _, ⟨s.toks + 1, by rw [List.size_toArray, hlen]⟩, q⟩
  · obtain ⟨its, r', pl, hz⟩ := I.tuple hq
    have hlen := r'.length
    exact len_tuple pl (by simp only [List.size_toArray] <;> omega) ⟨.int ys.length, H, I.tok _, ⟨s.toks + 1, by rw [List.size_toArray, hlen]⟩, q⟩
theorem CallR.or {f : Value} {r r' : List V → Hp → VK → Prop} (h : CallR X f r) (h' : CallR X f r') : CallR X f (fun xs H Q => r xs H Q ∨ r' xs H Q) := by
  intro pins s σ H xs us Q I rs q
  rcases q with q | q
  · exact h pins s σ H xs us Q I rs q
  · exact h' pins s σ H xs us Q I rs q
theorem call_list_of : CallR X (.type "list") (fun xs H Q => ∃ p ys, xs = [.ref p] ∧ (SqL X.K H p ys ∨ SqT X.K H p ys) ∧ ∀ l, H l = none → Q (.ref l) (upd H l (.lst ys))) := by
  intro pins s σ H xs us Q I r h
  obtain ⟨p, ys, rfl, hq, q⟩ := h
  obtain ⟨u, rfl, rx⟩ := vals1 r
  cases rx
  have fin : ∀ (its : List Value), Vals ys its → ys.length ≤ sizeLine → ∀ (h' : Heap) (c' : Nat), (∀ b o', s.heap.get? b = some o' → h'.get? b = some o') →
      h'.get? s.heap.objs.size = some { cls := .type "list", dict := none, data := .seq its.toArray c', slots := #[] } → EP X pins σ Q (.ref s.heap.objs.size) { s with heap := h' } := fun its r' hz h' c' kp e =>
    ⟨.ref s.heap.objs.size, _, I.laid (t' := s.toks) kp (Nat.le_refl _) (show ObjOk X.prog X.w _ h' _ (.lst ys) from ⟨hz, its, c', r', e⟩), rfl, q _ (I.hok.fresh (Nat.le_refl _))⟩
  rcases hq with hq | hq
  · obtain ⟨its, r', pl, hz⟩ := I.list hq
    have hlen := r'.length
    obtain ⟨o, ho, hc, n, hd⟩ := pl.isList
    exact call_list_seq p (.inl rfl) ho hc hd (fun h' c' kp e => fin its r' hz h' c' kp e) (by simp only [List.size_toArray] <;> omega)
  · obtain ⟨its, r', pl, hz⟩ := I.tuple hq
    have hlen := r'.length
    obtain ⟨o, ho, hc, n, hd⟩ := pl
    exact call_list_seq p (.inr rfl) ho hc hd (fun h' c' kp e => fin its r' hz h' c' kp e) (by simp only [List.size_toArray] <;> omega)
def tyV (K : PySem.W.Frag) (T : String) (x : V) (H : Hp) : Prop := match x with
  | .str _ => T = "str"
  | .int _ => T = "int"
  | .ref p => (T = "list" ∧ ∃ xs, SqL K H p xs) ∨ (T = "tuple" ∧ ∃ o, K.lookup p = some o ∧ o.cls = .type "tuple" ∧ o.dict = none) ∨
      (T = "dict" ∧ ((∃ kvs, H p = some (.dK kvs)) ∨ ∃ kvs, H p = some (.dT kvs))) ∨ (T = "set" ∧ ∃ S n, H p = some (.set S n))
  | _ => False
theorem tyV_is {pins : List (Addr × Obj)} {σ : St} {H : Hp} {s : Shared} {T : String} {x : V} {v : Value} (I : Inv X pins σ H s) (r : RelV x v) (ty : tyV X.K T x H) :
    s.TypeIs v T ∧ ∀ a, v = .ref a → ∃ ob, s.heap.get? a = some ob ∧ ob.dict = none := by
  cases x with
  | str z =>
    obtain ⟨t, rfl⟩ := r
    cases (show T = "str" from ty)
    exact ⟨typeIs_str s z t, fun _ e => nomatch e⟩
  | int i =>
    obtain ⟨t, rfl⟩ := r
    cases (show T = "int" from ty)
    exact ⟨typeIs_int s i t, fun _ e => nomatch e⟩
  | ref p =>
    cases r
    rcases ty with ⟨rfl, xs, hq⟩ | ⟨rfl, o, hk, hc, hd⟩ | ⟨rfl, hk⟩ | ⟨rfl, S, n, hk⟩
    · obtain ⟨its, _, pl, _⟩ := I.list hq
      refine ⟨pl.isList.typeIs, fun a e => ?_⟩
      cases e
      obtain ⟨o, n, e, c, hd, _⟩ := pl
      exact ⟨o, e, hd⟩
    · refine ⟨⟨o, I.kIn p o hk, hc⟩, fun a e => ?_⟩
      cases e
      exact ⟨o, I.kIn _ o hk, hd⟩
    · have z : ∃ o, s.heap.get? p = some o ∧ o.ExactDict := by
        rcases hk with ⟨kvs, hk⟩ | ⟨kvs, hk⟩
        · obtain ⟨_, _, _, _, o, _, _, e, ex, _⟩ := I.hok p _ hk
          exact ⟨o, e, ex⟩
        · obtain ⟨_, _, _, _, o, _, _, e, ex, _⟩ := I.hok p _ hk
          exact ⟨o, e, ex⟩
      obtain ⟨o, e, ex⟩ := z
      refine ⟨⟨o, e, ex.1⟩, fun a e2 => ?_⟩
      cases e2
      exact ⟨o, e, ex.2.1⟩
    · obtain ⟨o, _, _, _, e, ex, _⟩ := I.hok p _ hk
      refine ⟨⟨o, e, ex.1⟩, fun a e2 => ?_⟩
      cases e2
      exact ⟨o, e, ex.2.1⟩
  | _ => exact False.elim ty
def tBM (K : PySem.W.Frag) (T : String) (r : V → List V → Hp → VK → Prop) (to : TE) (t : TA) : TE := fun σ H Q => to σ H fun x H1 => tyV K T x H1 ∧ t σ H1 fun xs H2 => r x xs H2 Q
variable {o e : Expr} {es : List Expr} {to : TE} {t : TA} {name : Str} {apos cpos : Pos} {T id : String} {r : V → List V → Hp → VK → Prop}
theorem pe_bm (pa : PlainAttrs T) (slot : Slot T name id) (hty : typeOf (.builtin id) = pure (.type "method_descriptor")) (hm : MtR X id r) (ho : PE X o to) (ha : PA X (e :: es) t)
    (hbase : attributeBase o name X.env (eval o X.env) = eval o X.env := by rfl)
    (hfew : ((backTo cpos (starEach (e :: es) X.env)).all (fun x => !x.1) && (backToKw cpos (keywordEach [] X.env)).all (fun x => x.1.isSome)
      && decide ((e :: es).length + ([] : List Keyword).length + (if ([] : List Keyword).isEmpty then 0 else 1) < 30)) = true := by rfl)
    (hline : (apos.endLine == cpos.line) = true := by rfl) (hs : starEach (e :: es) X.env = (false, eval e X.env) :: starEach es X.env := by rfl) (hplain : (backTo cpos (starEach es X.env)).any (·.1) = false := by rfl) :
    PE X (.Call (.Attribute o name apos) (e :: es) [] cpos) (tBM X.K T r to t) := by
  intro pins s σ H Q I h
  refine wpAny_Call_method_late hbase hfew hline rfl (thn (ho pins s σ H _ I h) fun v s1 ⟨x, H1, I1, r1, ty, q1⟩ => ?_)
  obtain ⟨h1, h2⟩ := tyV_is I1 r1 ty
  refine ⟨T, id, pa, slot, hty, h1, h2, ?_⟩
  have hA := ha cpos pins s1 σ H1 _ I1 q1
  rw [hs] at hA ⊢
  refine Calls.callWith_builtin (by show (false || (backTo cpos (starEach es X.env)).any (·.1)) = false; rw [hplain] <;> rfl) (Calls.evalArgs_plain ?_)
  exact thn hA fun us s2 ⟨vs, H2, I2, r2, q2⟩ => hm pins s2 σ H2 x vs v us Q I2 r1 r2 q2
end
end L2
namespace L2
open PySem PySem.Spec PyProof.Rows
def MtM (X : Cx) (id : String) (r : V → List V → Hp → VK → Prop) : Prop :=
  ∀ (pins : List (Addr × Obj)) (s : Shared) (σ : St) (H : Hp) (x : V) (xs : List V) (v : Value) (us : List Value) (Q : VK), Inv X pins σ H s → RelV x v → Vals xs us → r x xs H Q →
    wpAny (model X.prog X.w) X.A (call (.builtin id) (v :: us)) (EP X pins σ Q) X.xe s
theorem Vals.one : ∀ {x : V} {us : List Value}, Vals [x] us → ∃ u, us = [u] ∧ RelV x u
  | _, _, .cons r .nil => ⟨_, rfl, r⟩
theorem Vals.two : ∀ {x y : V} {us : List Value}, Vals [x, y] us → ∃ u v, us = [u, v] ∧ RelV x u ∧ RelV y v
  | _, _, _, .cons r (.cons q .nil) => ⟨_, _, rfl, r, q⟩
theorem Vals.zero : ∀ {us : List Value}, Vals [] us → us = []
  | _, .nil => rfl
theorem Vals.eraseIdx : ∀ {xs : List V} {us : List Value} (i : Nat), Vals xs us → Vals (xs.eraseIdx i) (us.eraseIdx i)
  | _, _, _, .nil => .nil
  | _, _, 0, .cons _ t => t
  | _, _, i + 1, .cons r t => .cons r (Vals.eraseIdx i t)
theorem len_erase {α : Type} : ∀ (l : List α) (i : Nat), (l.eraseIdx i).length ≤ l.length
  | [], _ => Nat.le_refl _
  | _ :: _, 0 => Nat.le_succ _
  | _ :: r, i + 1 => Nat.succ_le_succ (len_erase r i)
section
variable {X : Cx} {pins : List (Addr × Obj)} {σ : St} {H : Hp} {s : Shared} {l b : Addr} {xs ys zs : List V}
theorem Inv.lset {its its' : List Value} {n : Nat} {f : Array Value → Array Value} {t' : Nat} (I : Inv X pins σ H s) (hH : H l = some (.lst xs))
    (e : s.heap.get? l = some { cls := .type "list", data := .seq its.toArray n }) (hf : f its.toArray = its'.toArray) (hv : Vals ys its') (hz : ys.length ≤ sizeLine) :
    Inv X pins σ (upd H l (.lst ys)) { s with heap := s.heap.update l (Obj.mapSeq f), toks := t' } := by
  have q := PySem.IsL.update e f
  rw [hf] at q
  refine I.write (x := l) (e := l) (by rw [hH]; exact trivial) (.inl rfl) (fun b' u hb hu => (Heap.get?_update_other s.heap (Obj.mapSeq f) (Ne.symm hb)).trans hu) ⟨_, q⟩ ?_
  exact ⟨hz, its', _, hv, q⟩
theorem Inv.lnew {its : List Value} {t' : Nat} (I : Inv X pins σ H s) (hv : Vals ys its) (hz : ys.length ≤ sizeLine) :
    Inv X pins σ (upd H s.heap.objs.size (.lst ys)) { s with heap := s.heap.push { cls := .type "list", data := .seq its.toArray }, toks := t' } :=
  I.laid (fun _ _ q => Heap.get?_push_of_some _ q) (Nat.le_refl _) ⟨hz, its, 0, hv, Heap.get?_push_size _ rfl⟩
theorem Inv.fresh (I : Inv X pins σ H s) : H s.heap.objs.size = none := I.hok.fresh (Nat.le_refl _)
theorem Inv.lstM (I : Inv X pins σ H s) (hH : H l = some (.lst xs)) : xs.length ≤ sizeLine ∧ ∃ (its : List Value) (n : Nat), Vals xs its ∧ xs.length = its.length ∧ s.heap.get? l = some { cls := .type "list", data := .seq its.toArray n } := by
  obtain ⟨z, its, n, r, e⟩ := I.hok l _ hH
  exact ⟨z, its, n, r, r.length, e⟩
theorem notLongL {n : Nat} (h : n ≤ sizeLine) : Builtin.List.listTooLong n = false := by
  unfold Builtin.List.listTooLong
  exact decide_eq_false (by omega)
end
section
variable {X : Cx}
def rAppend : V → List V → Hp → VK → Prop := fun x vs H Q => ∃ l xs y, x = .ref l ∧ vs = [y] ∧ H l = some (.lst xs) ∧ xs.length < sizeLine ∧ Q .non (upd H l (.lst (xs ++ [y])))
theorem mt_append : MtM X "list.append" rAppend := by
  intro pins s σ H x vs v us Q I rx rv h
  obtain ⟨l, xs, y, rfl, rfl, hH, hz, q⟩ := h
  cases rx
  obtain ⟨u, rfl, ru⟩ := rv.one
  obtain ⟨z, its, n, r, hl, e⟩ := I.lstM hH
  refine call_meets F.slot_list_append ⟨_, e, rfl⟩ F.entry_list_append (F.args_list_append_2 _ _) (PySem.list_append l its.toArray n u (by rw [List.size_toArray]; omega)) ⟨e, ?_⟩
  refine ⟨.non, _, I.lset (its' := its ++ [u]) hH e (by simp) (r.append (.cons ru .nil)) ?_, rfl, q⟩
  rw [List.length_append, List.length_singleton]
  omega
def rExtend : V → List V → Hp → VK → Prop := fun x vs H Q => ∃ l b xs zs, x = .ref l ∧ vs = [.ref b] ∧ H l = some (.lst xs) ∧ H b = some (.lst zs) ∧ xs.length + zs.length ≤ sizeLine ∧ Q .non (upd H l (.lst (xs ++ zs)))
theorem mt_extend : MtM X "list.extend" rExtend := by
  intro pins s σ H x vs v us Q I rx rv h
  obtain ⟨l, b, xs, zs, rfl, rfl, hH, hB, hz, q⟩ := h
  cases rx
  obtain ⟨u, rfl, ru⟩ := rv.one
  cases ru
  obtain ⟨z, its, n, r, hl, e⟩ := I.lstM hH
  obtain ⟨z2, its2, n2, r2, hl2, e2⟩ := I.lstM hB
  have hsz : its.toArray.size + its2.toArray.size ≤ sizeLine := by rw [List.size_toArray, List.size_toArray]; omega
  have hlong : ¬ (!its.toArray.isEmpty && Builtin.List.listTooLong (its.toArray.size + its2.toArray.size)) = true := by
    rw [notLongL hsz, Bool.and_false]
    exact Bool.false_ne_true
  refine call_meets F.slot_list_extend ⟨_, e, rfl⟩ F.entry_list_extend (F.args_list_extend_2 _ _)
    (AutoSeq1.list_extend_list_list_0 l its.toArray n b its2.toArray n2 hlong (by rw [List.size_toArray]; omega) (by omega)) ⟨e, e2, ?_⟩
  refine ⟨.non, _, I.lset (its' := its ++ its2) hH e (by simp) (r.append r2) ?_, rfl, q⟩
  rw [List.length_append]
  omega
def rPopAt : V → List V → Hp → VK → Prop := fun x vs H Q => ∃ l xs i k y, x = .ref l ∧ vs = [.int i] ∧ H l = some (.lst xs) ∧ -(2 ^ 63) ≤ i ∧ i < 2 ^ 63 ∧ seqIndex? i xs.length = some k ∧ xs[k]? = some y ∧ Q y (upd H l (.lst (xs.eraseIdx k)))
theorem mt_popAt : MtM X "list.pop" rPopAt := by
  intro pins s σ H x vs v us Q I rx rv h
  obtain ⟨l, xs, i, k, y, rfl, rfl, hH, h1, h2, hk, hy, q⟩ := h
  cases rx
  obtain ⟨u, rfl, ru⟩ := rv.one
  obtain ⟨t, rfl⟩ := ru
  obtain ⟨z, its, n, r, hl, e⟩ := I.lstM hH
  obtain ⟨w, hw, rw'⟩ := r.get hy
  refine call_meets F.slot_list_pop ⟨_, e, rfl⟩ F.entry_list_pop (F.args_list_pop_2 _ _)
    (MeetsSeq.list_pop_at l its.toArray n i t k w (fitsIndex_both h1 h2) (by rw [List.size_toArray, ← hl]; exact hk) (by rw [← Array.getElem?_toList]; exact hw) (by rw [List.size_toArray]; omega)) ⟨e, ?_⟩
  refine ⟨y, _, I.lset (its' := its.eraseIdx k) hH e ?_ (r.eraseIdx k) ?_, rw', q⟩
  · show its.toArray.eraseIdxIfInBounds k = (its.eraseIdx k).toArray
    rw [List.eraseIdxIfInBounds_toArray]
  · have := len_erase xs k
    omega
def rCat : R2 := fun x y H Q => ∃ l b xs zs, x = .ref l ∧ y = .ref b ∧ H l = some (.lst xs) ∧ H b = some (.lst zs) ∧ xs.length + zs.length ≤ sizeLine ∧ ∀ p, H p = none → Q (.ref p) (upd H p (.lst (xs ++ zs)))
theorem op_cat : OpR X (binaryOp .Add) rCat := by
  intro pins s σ H x y v u Q I rx ry h
  obtain ⟨l, b, xs, zs, rfl, rfl, hH, hB, hz, q⟩ := h
  cases rx
  cases ry
  obtain ⟨z, its, n, r, hl, e⟩ := I.lstM hH
  obtain ⟨z2, its2, n2, r2, hl2, e2⟩ := I.lstM hB
  refine PySem.P.add_list e e2 ?_ (by rw [List.size_toArray, List.size_toArray]; omega)
  have ea : its.toArray ++ its2.toArray = (its ++ its2).toArray := by simp
  rw [ea]
  exact ⟨.ref _, _, I.lnew (t' := s.toks) (r.append r2) (by rw [List.length_append]; omega), rfl, q _ I.fresh⟩
end
section
variable {prog : Program} {w : World} {A : Around} {E : Value → Shared → Prop} {s : Shared}
set_option maxRecDepth 100000 in
end
section
variable {X : Cx}
end
end L2
namespace L2
open PySem PySem.Spec PyProof.Rows
theorem Vals.ints : ∀ {ns : List Int} {us : List Value}, Vals (ns.map V.int) us → IntsAre us ns
  | [], us, h => by
    rw [List.map_nil] at h
    cases h
    exact IntsAre.nil
  | n :: ns, us, h => by
    rw [List.map_cons] at h
    cases h with
    | cons r t =>
      obtain ⟨k, rfl⟩ := r
      exact IntsAre.cons n k (Vals.ints t)
theorem Vals.strs : ∀ {xs : List Str} {us : List Value}, Vals (xs.map V.str) us → StrsAre us xs
  | [], us, h => by
    rw [List.map_nil] at h
    cases h
    exact StrsAre.nil
  | x :: xs, us, h => by
    rw [List.map_cons] at h
    cases h with
    | cons r t =>
      obtain ⟨k, rfl⟩ := r
      exact StrsAre.cons x k (Vals.strs t)
theorem Vals.ref1 {a : Addr} {us : List Value} (r : Vals [V.ref a] us) : us = [Value.ref a] := by
  cases r with
  | cons r t =>
    cases t
    cases r
    rfl
section
variable {prog : Program} {w : World} {A : Around} {E : Value → Shared → Prop} {s : Shared} {l : Addr} {its : List Value} {ns : List Int} {Q : Value → Shared → Prop}
theorem sum_raw (hh : A.handled = none) (hl : s.heap.IsList l its.toArray) (hi : IntsAre its ns)
    (h : ∀ h' tk t', (∀ b o, s.heap.get? b = some o → h'.get? b = some o) → Q (.int ns.sum t') { s with heap := h', toks := tk }) : wpAny (model prog w) A (call (.builtin "sum") [.ref l]) Q E s := by
  obtain ⟨xs, e⟩ := hi.allInts.items
  have hn : numsOf (intItems xs).toList = ns := by rw [← e]; exact hi.numsOf
  rw [nums_intItems] at hn
  rw [e] at hl
  refine PySem.sum_intListG hh hl fun h' tk t' hk => ?_
  have := h h' tk t' hk
  rw [preSum_eq, List.take_of_length_le (by simp), hn]; exact this
theorem max_raw (hh : A.handled = none) (hl : s.heap.IsList l its.toArray) (hi : IntsAre its ns) (hne : 0 < ns.length)
    (h : ∀ h' tk M t', (∀ b o, s.heap.get? b = some o → h'.get? b = some o) → M ∈ ns → (∀ a, a ∈ ns → a ≤ M) → Q (.int M t') { s with heap := h', toks := tk }) : wpAny (model prog w) A (call (.builtin "max") [.ref l]) Q E s := by
  obtain ⟨xs, e⟩ := hi.allInts.items
  have hn : numsOf (intItems xs).toList = ns := by rw [← e]; exact hi.numsOf
  rw [nums_intItems] at hn
  subst hn
  rw [e] at hl
  have hsz : 0 < xs.size := by simpa using hne
  refine PySem.max_intList hh hl hsz fun v h' tk hv hk => ?_
  obtain ⟨t, rfl⟩ := intItems_at hv
  obtain ⟨h1, h2⟩ := argBest_gt (numAt xs) (xs.size - 1)
  refine h h' tk _ t hk ?_ fun a ha => ?_
  · rw [numAt_eq]; exact PySem.getD_mem (by rw [List.length_map, Array.length_toList]; omega)
  · obtain ⟨j, hj, rfl⟩ := mem_getD ha
    rw [List.length_map, Array.length_toList] at hj
    rw [← numAt_eq]; exact h2 j (by omega)
theorem min_raw (hh : A.handled = none) (hl : s.heap.IsList l its.toArray) (hi : IntsAre its ns) (hne : 0 < ns.length)
    (h : ∀ h' tk M t', (∀ b o, s.heap.get? b = some o → h'.get? b = some o) → M ∈ ns → (∀ a, a ∈ ns → M ≤ a) → Q (.int M t') { s with heap := h', toks := tk }) : wpAny (model prog w) A (call (.builtin "min") [.ref l]) Q E s := by
  obtain ⟨xs, e⟩ := hi.allInts.items
  have hn : numsOf (intItems xs).toList = ns := by rw [← e]; exact hi.numsOf
  rw [nums_intItems] at hn
  subst hn
  rw [e] at hl
  have hsz : 0 < xs.size := by simpa using hne
  refine PySem.min_intList hh hl hsz fun v h' tk hv hk => ?_
  obtain ⟨t, rfl⟩ := intItems_at hv
  obtain ⟨h1, h2⟩ := argBest_lt (numAt xs) (xs.size - 1)
  refine h h' tk _ t hk ?_ fun a ha => ?_
  · rw [numAt_eq]; exact PySem.getD_mem (by rw [List.length_map, Array.length_toList]; omega)
  · obtain ⟨j, hj, rfl⟩ := mem_getD ha
    rw [List.length_map, Array.length_toList] at hj
    rw [← numAt_eq]; exact h2 j (by omega)
end
section
variable {X : Cx}
def rSum (K : PySem.W.Frag) : List V → Hp → VK → Prop := fun vs H Q => ∃ (a : Addr) (ns : List Int), vs = [V.ref a] ∧ SqL K H a (ns.map V.int) ∧ Q (.int ns.sum) H
def rMax (K : PySem.W.Frag) : List V → Hp → VK → Prop := fun vs H Q => ∃ (a : Addr) (ns : List Int), vs = [V.ref a] ∧ SqL K H a (ns.map V.int) ∧ 0 < ns.length ∧ ∀ m, m ∈ ns → (∀ y, y ∈ ns → y ≤ m) → Q (.int m) H
def rMin (K : PySem.W.Frag) : List V → Hp → VK → Prop := fun vs H Q => ∃ (a : Addr) (ns : List Int), vs = [V.ref a] ∧ SqL K H a (ns.map V.int) ∧ 0 < ns.length ∧ ∀ m, m ∈ ns → (∀ y, y ∈ ns → m ≤ y) → Q (.int m) H
theorem cr_sum (hc : X.calm = true) : CallR X (.builtin "sum") (rSum X.K) := by
  intro pins s σ H vs us Q I r h
  obtain ⟨a, ns, rfl, hs, q⟩ := h
  obtain ⟨its, rv, hl, _⟩ := I.list hs
  rw [Vals.ref1 r]
  exact sum_raw (I.ok.hd hc) hl.isList rv.ints fun h' tk t' hk => ⟨.int _, H, I.kept hk, ⟨_, rfl⟩, q⟩
theorem cr_max (hc : X.calm = true) : CallR X (.builtin "max") (rMax X.K) := by
  intro pins s σ H vs us Q I r h
  obtain ⟨a, ns, rfl, hs, hne, q⟩ := h
  obtain ⟨its, rv, hl, _⟩ := I.list hs
  rw [Vals.ref1 r]
  exact max_raw (I.ok.hd hc) hl.isList rv.ints hne fun h' tk m t' hk h1 h2 => ⟨.int _, H, I.kept hk, ⟨_, rfl⟩, q m h1 h2⟩
theorem cr_min (hc : X.calm = true) : CallR X (.builtin "min") (rMin X.K) := by
  intro pins s σ H vs us Q I r h
  obtain ⟨a, ns, rfl, hs, hne, q⟩ := h
  obtain ⟨its, rv, hl, _⟩ := I.list hs
  rw [Vals.ref1 r]
  exact min_raw (I.ok.hd hc) hl.isList rv.ints hne fun h' tk m t' hk h1 h2 => ⟨.int _, H, I.kept hk, ⟨_, rfl⟩, q m h1 h2⟩
end
section
variable {X : Cx}
end
section
variable {X : Cx}
end
section
variable {X : Cx}
end
mutual
inductive Dp (K : PySem.W.Frag) (H : Hp) : V → PyData → Prop
  | non : Dp K H .non .none
  | bl (b : Bool) : Dp K H (.bl b) (.bool b)
  | int (i : Int) : Dp K H (.int i) (.int i)
  | str (x : Str) : Dp K H (.str x) (.str x)
  | lst {a : Addr} {xs : List V} {ds : List PyData} : SqL K H a xs → DpAll K H xs ds → Dp K H (.ref a) (.list ds)
  | tup {a : Addr} {xs : List V} {ds : List PyData} : SqT K H a xs → DpAll K H xs ds → Dp K H (.ref a) (.tuple ds)
inductive DpAll (K : PySem.W.Frag) (H : Hp) : List V → List PyData → Prop
  | nil : DpAll K H [] []
  | cons {v : V} {vs : List V} {d : PyData} {ds : List PyData} : Dp K H v d → DpAll K H vs ds → DpAll K H (v :: vs) (d :: ds)
end
section
variable {X : Cx} {pins : List (Addr × Obj)} {σ : St} {H : Hp} {s : Shared}
mutual
theorem Dp.reads (I : Inv X pins σ H s) : ∀ (d : PyData) (v : V) (u : Value), Dp X.K H v d → RelV v u → ∃ as, Reads s.heap u d as
  | .none, _, _, h, r => by
    cases h
    cases r
    exact ⟨_, Reads.none⟩
  | .bool b, _, _, h, r => by
    cases h
    cases r
    exact ⟨_, Reads.bool b⟩
  | .int i, _, _, h, r => by
    cases h
    obtain ⟨t, rfl⟩ := r
    exact ⟨_, Reads.int i t⟩
  | .str x, _, _, h, r => by
    cases h
    obtain ⟨t, rfl⟩ := r
    exact ⟨_, Reads.str x t⟩
  | .list ds, _, _, h, r => by
    cases h with
    | lst hs ha =>
      cases r
      obtain ⟨its, rv, ⟨o, n, ho, hc, _, hd⟩, _⟩ := I.list hs
      obtain ⟨as, hr⟩ := Dp.readsAll I ds _ its ha rv
      exact ⟨_, Reads.list ho hc hd hr⟩
  | .tuple ds, _, _, h, r => by
    cases h with
    | tup hs ha =>
      cases r
      obtain ⟨its, rv, ⟨o, ho, hc, n, hd⟩, _⟩ := I.tuple hs
      obtain ⟨as, hr⟩ := Dp.readsAll I ds _ its ha rv
      exact ⟨_, Reads.tuple ho hc hd hr⟩
  | .dict _, _, _, h, _ => by cases h
theorem Dp.readsAll (I : Inv X pins σ H s) : ∀ (ds : List PyData) (vs : List V) (us : List Value), DpAll X.K H vs ds → Vals vs us → ∃ as, ReadsAll s.heap us ds as
  | [], _, _, h, r => by
    cases h
    cases r
    exact ⟨_, ReadsAll.nil⟩
  | d :: ds, _, _, h, r => by
    cases h with
    | cons h1 h2 =>
      cases r with
      | cons r1 r2 =>
        obtain ⟨as, q1⟩ := Dp.reads I d _ _ h1 r1
        obtain ⟨bs, q2⟩ := Dp.readsAll I ds _ _ h2 r2
        exact ⟨_, ReadsAll.cons q1 q2⟩
end
end
section
variable {X : Cx}
end
end L2
namespace L2
open PySem PySem.Spec PyProof.Rows
abbrev CellAt (h : Heap) (c : Addr) (v : Option Value) : Prop := h.IsCell c v
def relS (scope sc : Scope) : Scope :=
  { scope with names := scope.names.map fun (n, k) => if (k == .free && sc.kind == .function && sc.names.lookup n == some .cell) then (n, .cell) else (n, k) }
def cloFrom (cells : List (Str × Addr)) : List (Str × NameKind) → List (Str × Addr) → List (Str × Addr)
  | [], acc => acc
  | (n, k) :: r, acc => if k == .free then cloFrom cells r ((n, (cells.lookup n).getD 0) :: acc) else cloFrom cells r acc
theorem closure_loop (env : Env) (f : Str × NameKind → List (Str × Addr) → Sem (ForInStep (List (Str × Addr))))
    (hf : ∀ n k c, f (n, k) c = if k == .free then (do let a ← cellOf env n; pure (.yield ((n, a) :: c))) else pure (.yield c)) :
    ∀ (names : List (Str × NameKind)) (acc : List (Str × Addr)), (∀ y ∈ names, y.2 = .free → ∃ c, env.cells.lookup y.1 = some c) → forIn names acc f = pure (cloFrom env.cells names acc)
  | [], acc, _ => by rw [List.forIn_nil]; rfl
  | (n, k) :: r, acc, h => by
    rw [List.forIn_cons, hf]
    have ih := fun acc => closure_loop env f hf r acc fun y hy => h y (List.mem_cons_of_mem _ hy)
    unfold cloFrom
    by_cases hk : (k == NameKind.free) = true
    · rw [if_pos hk, if_pos hk]
      obtain ⟨c, hc⟩ := h (n, k) List.mem_cons_self (by simpa using hk)
      have e : cellOf env n = pure c := by unfold cellOf; rw [hc]
      rw [e]
      have e2 : (env.cells.lookup n).getD 0 = c := by rw [hc]; rfl
      rw [e2]
      exact ih _
    · rw [if_neg hk, if_neg hk]
      exact ih _
theorem closure_ok {scope : Scope} {env : Env} (h : ∀ y ∈ scope.names, y.2 = .free → ∃ c, env.cells.lookup y.1 = some c) : closureFor scope env = pure (cloFrom env.cells scope.names []) := by
  simp only [closureFor]
  rw [closure_loop env _ (fun n k c => rfl) scope.names [] h]
  rfl
theorem mem_lookup {α : Type} : ∀ {l : List (Str × α)} {n : Str} {c : α}, (n, c) ∈ l → ∃ c', l.lookup n = some c'
  | (k, v) :: r, n, c, h => by
    rw [List.lookup_cons]
    cases hb : n == k with
    | true => exact ⟨_, rfl⟩
    | false =>
      rcases List.mem_cons.mp h with e | h
      · cases e; simp at hb
      · exact mem_lookup h
theorem cloFrom_mem {cells : List (Str × Addr)} : ∀ {names : List (Str × NameKind)} {acc : List (Str × Addr)} {n : Str} {c : Addr}, (n, c) ∈ cloFrom cells names acc → (n, c) ∈ acc ∨ ((n, .free) ∈ names ∧ c = (cells.lookup n).getD 0)
  | [], _, _, _, h => .inl h
  | (m, k) :: r, acc, n, c, h => by
    unfold cloFrom at h
    split at h
    · rename_i hk
      have hk : k = .free := by simpa using hk
      rcases cloFrom_mem h with h | ⟨h1, h2⟩
      · rcases List.mem_cons.mp h with e | h
        · cases e; exact .inr ⟨hk ▸ List.mem_cons_self, rfl⟩
        · exact .inl h
      · exact .inr ⟨List.mem_cons_of_mem _ h1, h2⟩
    · rcases cloFrom_mem h with h | ⟨h1, h2⟩
      · exact .inl h
      · exact .inr ⟨List.mem_cons_of_mem _ h1, h2⟩
theorem cloFrom_acc {cells : List (Str × Addr)} : ∀ {names : List (Str × NameKind)} {acc : List (Str × Addr)} {p : Str × Addr}, p ∈ acc → p ∈ cloFrom cells names acc
  | [], _, _, h => h
  | (m, k) :: r, acc, p, h => by
    unfold cloFrom
    split
    · exact cloFrom_acc (List.mem_cons_of_mem _ h)
    · exact cloFrom_acc h
theorem cloFrom_has {cells : List (Str × Addr)} : ∀ {names : List (Str × NameKind)} {acc : List (Str × Addr)} {n : Str}, (n, .free) ∈ names → (n, (cells.lookup n).getD 0) ∈ cloFrom cells names acc
  | (m, k) :: r, acc, n, h => by
    unfold cloFrom
    rcases List.mem_cons.mp h with e | h
    · cases e
      exact cloFrom_acc List.mem_cons_self
    · split
      · exact cloFrom_has h
      · exact cloFrom_has h
theorem cells_mem : ∀ {names : List (Str × NameKind)} {h : Heap} {acc : List (Str × Addr)} {x : Str} {c : Addr}, (x, c) ∈ cellsFrom h.objs.size names acc →
    (x, c) ∈ acc ∨ ((x, .cell) ∈ names ∧ h.objs.size ≤ c ∧ CellAt (pushCells h names) c none)
  | [], _, _, _, _, h => .inl h
  | (n, k) :: r, h, acc, x, c, hm => by
    unfold cellsFrom at hm
    unfold pushCells
    split at hm
    · rename_i hk
      rw [if_pos hk]
      have hk : k = .cell := by simpa using hk
      rw [← Heap.size_push h { cls := .type "cell", data := .cell none }] at hm
      rcases cells_mem hm with hm | ⟨h1, h2, h3⟩
      · rcases List.mem_cons.mp hm with e | hm
        · cases e
          exact .inr ⟨hk ▸ List.mem_cons_self, Nat.le_refl _, _, pushCells_keeps r _ _ _ (Heap.get?_push_size _ rfl), rfl⟩
        · exact .inl hm
      · rw [Heap.size_push] at h2
        exact .inr ⟨List.mem_cons_of_mem _ h1, Nat.le_of_succ_le h2, h3⟩
    · rename_i hk
      rw [if_neg hk]
      rcases cells_mem hm with hm | ⟨h1, h2, h3⟩
      · exact .inl hm
      · exact .inr ⟨List.mem_cons_of_mem _ h1, h2, h3⟩
theorem cells_acc : ∀ {names : List (Str × NameKind)} {n : Nat} {acc : List (Str × Addr)} {p : Str × Addr}, p ∈ acc → p ∈ cellsFrom n names acc
  | [], _, _, _, h => h
  | (m, k) :: r, n, acc, p, h => by
    unfold cellsFrom
    split
    · exact cells_acc (List.mem_cons_of_mem _ h)
    · exact cells_acc h
theorem cells_has : ∀ {names : List (Str × NameKind)} {n : Nat} {acc : List (Str × Addr)} {x : Str}, (x, .cell) ∈ names → ∃ c, (x, c) ∈ cellsFrom n names acc
  | (m, k) :: r, n, acc, x, h => by
    unfold cellsFrom
    rcases List.mem_cons.mp h with e | h
    · cases e
      exact ⟨n, cells_acc List.mem_cons_self⟩
    · split
      · exact cells_has h
      · exact cells_has h
theorem cells_inj : ∀ {names : List (Str × NameKind)} {h : Heap} {acc : List (Str × Addr)} {x y : Str} {c : Addr}, (∀ p ∈ acc, p.2 < h.objs.size) → (∀ x y c, (x, c) ∈ acc → (y, c) ∈ acc → x = y) →
    (x, c) ∈ cellsFrom h.objs.size names acc → (y, c) ∈ cellsFrom h.objs.size names acc → x = y
  | [], _, _, _, _, _, _, hi, h1, h2 => hi _ _ _ h1 h2
  | (n, k) :: r, h, acc, x, y, c, hl, hi, h1, h2 => by
    unfold cellsFrom at h1 h2
    split at h1
    · rename_i hk
      rw [if_pos hk] at h2
      rw [← Heap.size_push h { cls := .type "cell", data := .cell none }] at h1 h2
      refine cells_inj (h := h.push _) (fun p hp => ?_) (fun x y c a b => ?_) h1 h2
      · rw [Heap.size_push]
        rcases List.mem_cons.mp hp with rfl | hp
        · exact Nat.lt_succ_self _
        · exact Nat.lt_succ_of_lt (hl p hp)
      · rcases List.mem_cons.mp a with e | a <;> rcases List.mem_cons.mp b with e' | b
        · cases e; cases e'; rfl
        · cases e; exact absurd (hl _ b) (Nat.lt_irrefl _)
        · cases e'; exact absurd (hl _ a) (Nat.lt_irrefl _)
        · exact hi _ _ _ a b
    · rename_i hk
      rw [if_neg hk] at h2
      exact cells_inj hl hi h1 h2
theorem newEnv_comp {M : Model} {A : Around} {E : Value → Shared → Prop} {s : Shared} {scope : Scope} {globals : Addr} {closure : List (Str × Addr)} {qual : Str} {func : Option Addr} {code : Value} {around : Env} {builtins : Addr} {Q : Env → Shared → Prop}
    (h : Q (newEnv scope s.heap.objs.size globals (cellsFrom (s.heap.objs.size + 1) scope.names closure) qual func code (some around) builtins)
      { s with heap := pushCells (s.heap.push { cls := .type "dict", data := .dict #[] }) scope.names }) :
    wpAny M A (newFunctionEnv scope globals closure [] qual func code (some around) builtins) Q E s := by
  simp only [newFunctionEnv, Option.isSome_some, if_true]
  refine wpAny_bind (wpAny_alloc ?_)
  refine wpAny_bind (wpAny_layCells _ (fun n k c => rfl) scope.names closure _ _ ?_)
  rw [show ({ s with heap := s.heap.push { cls := .type "dict", data := .dict #[] } } : Shared).heap.objs.size = s.heap.objs.size + 1 from Heap.size_push ..]
  rw [List.forIn_nil]
  exact wpAny_bind (wpAny_pure (wpAny_pure h))
theorem lookup_relS {sc : Scope} : ∀ {names : List (Str × NameKind)} {x : Str} {k : NameKind},
    (names.map fun (n, k) => if (k == NameKind.free && sc.kind == .function && sc.names.lookup n == some .cell) then (n, NameKind.cell) else (n, k)).lookup x = some k →
    ∃ k', names.lookup x = some k' ∧ (k = k' ∨ (k' = .free ∧ k = .cell))
  | [], _, _, h => by simp at h
  | (n, k₀) :: r, x, k, h => by
    have ih := @lookup_relS sc r x k
    have h' : List.lookup x ((if (k₀ == NameKind.free && sc.kind == .function && sc.names.lookup n == some .cell) = true then (n, NameKind.cell) else (n, k₀)) :: (r.map _)) = some k := h
    cases hx : x == n with
    | true =>
      simp only [List.lookup_cons, hx]
      by_cases hc : (k₀ == NameKind.free && sc.kind == .function && sc.names.lookup n == some .cell) = true
      · rw [if_pos hc] at h'
        simp only [List.lookup_cons, hx] at h'
        cases h'
        simp only [Bool.and_eq_true, beq_iff_eq] at hc
        exact ⟨k₀, rfl, .inr ⟨hc.1.1, rfl⟩⟩
      · rw [if_neg hc] at h'
        simp only [List.lookup_cons, hx] at h'
        cases h'
        exact ⟨_, rfl, .inl rfl⟩
    | false =>
      simp only [List.lookup_cons, hx]
      by_cases hc : (k₀ == NameKind.free && sc.kind == .function && sc.names.lookup n == some .cell) = true
      · rw [if_pos hc] at h'
        simp only [List.lookup_cons, hx] at h'
        exact ih h'
      · rw [if_neg hc] at h'
        simp only [List.lookup_cons, hx] at h'
        exact ih h'
structure BlkOk (N : List Str) (sc scope : Scope) (own : List (Str × Nat)) : Prop where
  kind : scope.kind = .function
  uniq : ∀ y ∈ scope.names, scope.names.lookup y.1 = some y.2
  ix : ∀ p ∈ own, N[p.2]? = some p.1
  free : ∀ y ∈ scope.names, y.2 = .free → sc.names.lookup y.1 = some .cell ∨ sc.names.lookup y.1 = some .free
  own : ∀ y ∈ scope.names, y.2 = .local ∨ y.2 = .cell → y.1 ∈ own.map (·.1) ∨ y.1 ∉ N
def wipe (σ : St) : List Nat → St
  | [] => σ
  | v :: vs => (wipe σ vs).set v none
theorem wipe_length (σ : St) : ∀ vs : List Nat, (wipe σ vs).length = σ.length
  | [] => rfl
  | v :: vs => by unfold wipe; rw [List.length_set, wipe_length σ vs]
theorem wipe_some {σ : St} {i : Nat} {x : V} : ∀ {vs : List Nat}, (wipe σ vs)[i]? = some (some x) → σ[i]? = some (some x) ∧ i ∉ vs
  | [], h => ⟨h, by simp⟩
  | v :: vs, h => by
    unfold wipe at h
    by_cases hi : v = i
    · subst hi
      by_cases hv : v < (wipe σ vs).length
      · rw [List.getElem?_set_self hv] at h; cases h
      · rw [List.getElem?_eq_none (by simpa using hv)] at h; cases h
    · rw [List.getElem?_set_ne hi] at h
      obtain ⟨h1, h2⟩ := wipe_some h
      exact ⟨h1, by simp only [List.mem_cons, not_or]; exact ⟨fun e => hi e.symm, h2⟩⟩
abbrev Cx.blk (X : Cx) (s : Shared) (H : Hp) (scope : Scope) (cenv : Env) (fp : List Addr) : Cx := { X with s_0 := s, H_0 := H, env := cenv, outer := X.stack, ex := fp, fn := fun x => scope.names.lookup x == some .cell, pn := [], xe := fun _ _ => False }
section
variable {X : Cx} {pins : List (Addr × Obj)} {σ : St} {H : Hp} {s : Shared}
theorem block_start {scope : Scope} {own : List (Str × Nat)} {fp : List Addr} (I : Inv X pins σ H s) (ok : BlkOk X.N X.env.scope scope own) (hN : X.N.Nodup) (hfp : ∀ b ∈ fp, FpOk X pins H b ∧ b < s.heap.objs.size) :
    Inv (X.blk s H scope (compEnvC scope (cellsFrom (s.heap.objs.size + 1) scope.names (cloFrom X.env.cells scope.names [])) s.heap.objs.size X.env) fp) [] (wipe σ (own.map (·.2))) H { s with heap := pushCells (s.heap.push { cls := .type "dict", data := .dict #[] }) scope.names } := by
  have hfree : ∀ y ∈ scope.names, y.2 = .free → ∃ c, X.env.cells.lookup y.1 = some c := fun y hy e => by
    rcases ok.free y hy e with k | k
    · exact I.ok.has _ (.inl k)
    · exact I.ok.has _ (.inr k)
  generalize hcenv : compEnvC scope (cellsFrom (s.heap.objs.size + 1) scope.names (cloFrom X.env.cells scope.names [])) s.heap.objs.size X.env = cenv
  have kp : ∀ b o, s.heap.get? b = some o → (pushCells (s.heap.push { cls := .type "dict", data := .dict #[] }) scope.names).get? b = some o := fun b o e => pushCells_keeps _ _ _ _ (Heap.get?_push_of_some _ e)
  have hL : cenv.locals = s.heap.objs.size := by rw [← hcenv]; rfl
  have hcl : cenv.cells = cellsFrom (s.heap.objs.size + 1) scope.names (cloFrom X.env.cells scope.names []) := by rw [← hcenv]; rfl
  have hsc : cenv.scope = relS scope X.env.scope := by rw [← hcenv]; rfl
  rw [← Heap.size_push s.heap { cls := .type "dict", data := .dict #[] }] at hcl
  have cm : ∀ {y c}, (y, c) ∈ cloFrom X.env.cells scope.names [] → X.env.cells.lookup y = some c ∧ c < s.heap.objs.size := fun {y c} hm => by
    rcases cloFrom_mem hm with hm | ⟨h1, rfl⟩
    · cases hm
    · obtain ⟨c, hc⟩ := hfree _ h1 rfl
      rw [hc]
      obtain ⟨w, z⟩ := I.cell _ _ hc
      exact ⟨rfl, z.lt⟩
  have mem : ∀ {y c}, cenv.cells.lookup y = some c → (X.env.cells.lookup y = some c ∧ c < s.heap.objs.size) ∨ (s.heap.objs.size + 1 ≤ c ∧ CellAt (pushCells (s.heap.push { cls := .type "dict", data := .dict #[] }) scope.names) c none) := fun {y c} e => by
    rw [hcl] at e
    rcases cells_mem (PySem.mem_of_lookup e) with hm | ⟨_, h2, h3⟩
    · exact .inl (cm hm)
    · rw [Heap.size_push] at h2; exact .inr ⟨h2, h3⟩
  have look : ∀ {y}, scope.names.lookup y = some .free → ∃ c, cenv.cells.lookup y = some c ∧ X.env.cells.lookup y = some c := fun {y} hl => by
    have hy : (y, NameKind.free) ∈ scope.names := PySem.mem_of_lookup hl
    obtain ⟨c', e'⟩ := mem_lookup (cells_acc (names := scope.names) (n := (s.heap.push { cls := .type "dict", data := .dict #[] }).objs.size) (cloFrom_has (cells := X.env.cells) (acc := []) hy))
    rw [← hcl] at e'
    refine ⟨c', e', ?_⟩
    rw [hcl] at e'
    rcases cells_mem (PySem.mem_of_lookup e') with hm | ⟨h1, _, _⟩
    · exact (cm hm).1
    · have := ok.uniq _ h1
      rw [hl] at this; cases this
  have okB : (X.blk s H scope cenv fp).Ok := by
    refine ⟨I.ok.mod, by show cenv.scope.kind = _; rw [hsc]; exact ok.kind, by show cenv.globals = _; rw [← hcenv]; exact I.ok.glob, by show cenv.builtins = _; rw [← hcenv]; exact I.ok.blt, by show s.heap.objs.size ≤ cenv.locals; rw [hL]; exact Nat.le_refl _,
      fun y z c e1 e2 => ?_, fun y hy => ?_, fun y c z e => ?_, I.ok.hd, I.ok.frames, .inl rfl, fun b hb => ⟨?_, fun y c e z => ?_⟩, I.bs, Nat.le_trans I.ok.bsz I.sz, fun b o e hb => ?_, fun b hb z => ?_, I.stack, I.stkFree⟩
    · have e1 : cenv.cells.lookup y = some c := e1
      have e2 : cenv.cells.lookup z = some c := e2
      rw [hcl] at e1 e2
      refine cells_inj (fun p hp => ?_) (fun y z c a b => I.ok.inj y z c (cm a).1 (cm b).1) (PySem.mem_of_lookup e1) (PySem.mem_of_lookup e2)
      rw [Heap.size_push]
      exact Nat.lt_succ_of_lt (cm (y := p.1) (c := p.2) hp).2
    · show ∃ c, cenv.cells.lookup y = some c
      have key : ∀ k, cenv.kindOf y = some k → (k = .cell ∨ k = .free) → ∃ c, cenv.cells.lookup y = some c := fun k hk hk' => by
        unfold Env.kindOf at hk
        rw [hsc] at hk
        obtain ⟨k', e, r⟩ := lookup_relS hk
        have : k' = .cell ∨ k' = .free := by
          rcases r with rfl | ⟨rfl, _⟩
          · exact hk'
          · exact .inr rfl
        rcases this with rfl | rfl
        · obtain ⟨c, hm⟩ := cells_has (n := (s.heap.push { cls := .type "dict", data := .dict #[] }).objs.size) (acc := cloFrom X.env.cells scope.names []) (PySem.mem_of_lookup e)
          obtain ⟨c', e'⟩ := mem_lookup hm
          exact ⟨c', by rw [hcl]; exact e'⟩
        · obtain ⟨c, h1, _⟩ := look e
          exact ⟨c, h1⟩
      rcases hy with hy | hy
      · exact key _ hy (.inl rfl)
      · exact key _ hy (.inr rfl)
    · have z : (scope.names.lookup y == some NameKind.cell) = true := z
      have z : scope.names.lookup y = some .cell := by simpa using z
      have e : cenv.cells.lookup y = some c := e
      rw [hcl] at e
      rcases cells_mem (PySem.mem_of_lookup e) with hm | ⟨_, h2, _⟩
      · rcases cloFrom_mem hm with hm | ⟨h1, _⟩
        · cases hm
        · have q := ok.uniq _ h1
          rw [z] at q; cases q
      · rw [Heap.size_push] at h2
        exact Nat.le_of_succ_le h2
    · show b ≠ cenv.locals
      rw [hL]; exact Nat.ne_of_lt (hfp b hb).2
    · have e : cenv.cells.lookup y = some c := e
      rcases mem e with ⟨h1, _⟩ | ⟨h1, _⟩
      · exact (hfp b hb).1.2.2.2.2.1 y c h1 z
      · have h2 : s.heap.objs.size + 1 ≤ b := by rw [← z]; exact h1
        exact absurd (Nat.lt_of_lt_of_le (hfp b hb).2 (Nat.le_of_succ_le h2)) (Nat.lt_irrefl _)
    · rcases (hfp b hb).1.2.2.2.1 with z | z
      · exact I.ok.noex b o e z
      · exact absurd (Nat.lt_of_lt_of_le (Heap.lt_size e) (Nat.le_trans I.ok.bsz z)) (Nat.lt_irrefl _)
    · rcases List.mem_cons.mp (I.stkSub b z) with z | z
      · exact (hfp b hb).1.2.1 z
      · exact (hfp b hb).1.2.2.1 z
  refine ⟨okB, rfl, I.bare, Un.kept kp, ⟨fun _ => none, ?_, fun i y av e1 e2 e3 => ?_⟩, fun y c e => ?_, ?_, fun y c e => ?_, fun p hp => ?_, I.hok.kept kp, by rw [wipe_length]; exact I.len⟩
  · show Heap.Ns _ cenv.locals _
    rw [hL]
    exact Heap.Ns.keeps (Heap.Ns.new ..) fun b o e => pushCells_keeps _ _ _ _ e
  · obtain ⟨e2, hne⟩ := wipe_some e2
    have hfr : scope.names.lookup y = some .free ∧ (cenv.kindOf y = some .cell ∨ cenv.kindOf y = some .free) := by
      have key : ∀ k, cenv.scope.names.lookup y = some k → k = .local ∨ k = .cell ∨ k = .free → scope.names.lookup y = some .free ∧ (cenv.kindOf y = some .cell ∨ cenv.kindOf y = some .free) := fun k hk hk' => by
        have hk0 := hk
        rw [hsc] at hk
        obtain ⟨k', e, r⟩ := lookup_relS hk
        have no : ¬ (k' = .local ∨ k' = .cell) := fun hh => by
          rcases ok.own _ (PySem.mem_of_lookup e) hh with e' | e'
          · obtain ⟨p, hp, hpy⟩ := List.mem_map.mp e'
            have e3 := ok.ix p hp
            have : p.1 = y := hpy
            rw [this] at e3
            exact hne (List.mem_map.mpr ⟨p, hp, nodup_ix hN e3 e1⟩)
          · exact e' (List.mem_of_getElem? e1)
        rcases r with rfl | ⟨rfl, rfl⟩
        · rcases hk' with rfl | rfl | rfl
          · exact absurd (.inl rfl) no
          · exact absurd (.inr rfl) no
          · exact ⟨e, .inr hk0⟩
        · exact ⟨e, .inl hk0⟩
      have e3 : Vis cenv.scope y := e3
      rcases e3 with e3 | e3 | e3
      · exact key _ e3 (.inl rfl)
      · exact key _ e3 (.inr (.inl rfl))
      · exact key _ e3 (.inr (.inr rfl))
    obtain ⟨m, hn, hl⟩ := I.loc
    have hvis : Vis X.env.scope y := (ok.free _ (PySem.mem_of_lookup hfr.1) rfl).elim (fun k => .inr (.inl k)) (fun k => .inr (.inr k))
    obtain ⟨w, r, q⟩ := hl i y av e1 e2 hvis
    refine ⟨w, r, .inr ⟨hfr.2, ?_⟩⟩
    obtain ⟨c, h1, h2⟩ := look hfr.1
    rcases q with ⟨k, _⟩ | ⟨_, c', e', z⟩
    · have k : X.env.scope.names.lookup y = some .local := k
      rcases ok.free _ (PySem.mem_of_lookup hfr.1) rfl with k' | k' <;> rw [show X.env.scope.names.lookup y = _ from k'] at k <;> cases k
    · rw [h2] at e'; cases e'
      exact ⟨c, h1, z.keeps kp⟩
  · have e : cenv.cells.lookup y = some c := e
    rcases mem e with ⟨h1, _⟩ | ⟨_, z⟩
    · obtain ⟨w, z⟩ := I.cell y c h1
      exact ⟨w, z.keeps kp⟩
    · exact ⟨_, z⟩
  · show H cenv.locals = none
    rw [hL]; exact I.hok.fresh (Nat.le_refl _)
  · have e : cenv.cells.lookup y = some c := e
    rcases mem e with ⟨h1, _⟩ | ⟨h1, _⟩
    · exact I.freeC y c h1
    · exact I.hok.fresh (Nat.le_of_succ_le h1)
  · exact absurd (show p ∈ ([] : List (Addr × Obj)) ++ [] from hp) (by simp)
theorem app_ok {E : Value → Shared → Prop} {D : Addr} {xs : List V} {y : V} {v : Value} {Q : Value → Shared → Prop} (I : Inv X pins σ H s) (hD : H D = some (.lst xs)) (hz : xs.length < sizeLine) (r : RelV y v)
    (h : ∀ s', Inv X pins σ (upd H D (.lst (xs ++ [y]))) s' → Q .none s') : wpAny (model X.prog X.w) X.A (call (.builtin "list.append") [.ref D, v]) Q E s := by
  obtain ⟨hz', its, n, ri, e⟩ := I.hok D _ hD
  have hl := ri.length
  refine append_at (hsz := by rw [List.size_toArray]; omega) e fun h' sb ho' => ?_
  refine h { s with heap := h' } (I.write (t' := s.toks) (by rw [hD]; trivial) (.inl rfl) (fun b u hb q => (sb.2 b hb).trans q) ⟨_, ho'⟩ ⟨by rw [List.length_append]; exact hz, its ++ [v], n + 1, ri.append (.cons r .nil), ?_⟩)
  rw [ho']
  simp
def PTs (X : Cx) (ifs : List Expr) (t : TT) : Prop :=
  ∀ (pins : List (Addr × Obj)) (s : Shared) (σ : St) (H : Hp) (Q : Bool → Hp → Prop), Inv X pins σ H s → t σ H Q →
    wpAny (model X.prog X.w) X.A (forIn ifs true fun c r => if r = true then do let ok ← isTrue c X.env (eval c X.env); pure (ForInStep.yield ok) else pure (ForInStep.yield r)) (TP X pins σ Q) X.xe s
def tYes : TT := fun _ H Q => Q true H
theorem pts_nil : PTs X [] tYes := fun _ _ _ H _ I h => wpAny_tests_nil ⟨H, I, h⟩
theorem pts_one {c : Expr} {t : TT} (h : PT X c t) : PTs X [c] t := fun pins s σ H Q I hw => wpAny_tests_one (h pins s σ H Q I hw)
end
theorem thnF {α : Type} {t : Sem α} {Q Q' : α → Shared → Prop} {M : Model} {A : Around} {E : Value → Shared → Prop} {s : Shared} (h : wpAny M A t Q (fun _ _ => False) s) (hQ : ∀ a s, Q a s → Q' a s) : wpAny M A t Q' E s := wpAny_mono h hQ fun _ _ z => False.elim z
theorem compLoop_any {prog : Program} {w : World} {A : Around} {R : Result → Shared → Prop} {s : Shared} {elt target iter : Expr} {ifs : List Expr} {scope : Scope} {pos : Pos} {it acc : Value} {env : Env} (I : Nat → Shared → Prop)
    (turn : ∀ n s, I n s → wpAny (model prog w) A (pyNext it) (fun r s₁ => match r with
      | none => R (.ok .next) s₁
      | some v => wpAny (model prog w) A (letOwnedTupleGo target it v) (fun _ s₁' => wpAny (model prog w) A (assign target env v) (fun _ s₂ =>
          wpAny (model prog w) A (forIn ifs true fun c r => if r = true then do let ok ← isTrue c env (eval c env); pure (ForInStep.yield ok) else pure (ForInStep.yield r)) (fun ok s₃ =>
            if ok = true then wpAny (model prog w) A (eval elt env) (fun x s₄ =>
              wpAny (model prog w) A (call (.builtin "list.append") [acc, x]) (fun _ s₅ => ∃ m, m < n ∧ I m s₅) (notedBy (model prog w) A env fun e s' => R (.error e) s') s₄) (notedBy (model prog w) A env fun e s' => R (.error e) s') s₃
            else ∃ m, m < n ∧ I m s₃) (notedBy (model prog w) A env fun e s' => R (.error e) s') s₂) (notedBy (model prog w) A env fun e s' => R (.error e) s') s₁') (notedBy (model prog w) A env fun e s' => R (.error e) s') s₁) (notedBy (model prog w) A env fun e s' => R (.error e) s') s)
    (n : Nat) (h : I n s) :
    codeAny (model prog w) A (.compLoop (.ListComp elt [⟨target, iter, ifs, 0⟩] scope pos) 0 it acc env) R s := by
  refine codeAny_loop rfl I (fun n s hI => ?_) n h
  show wpAny _ A ((compTurn (.ListComp elt [⟨target, iter, ifs, 0⟩] scope pos) 0 it acc env).onRaise (fun x => do noteFrame x env; theTreesLotGoes x)) _ _ s
  refine wpAny_noted ?_
  rw [compTurn_list]
  refine wpAny_bind (wpAny_standAt (wpAny_bind (wpAny_mono (turn n s hI) (fun r s₁ h₁ => ?_) fun _ _ h' => h')))
  cases r with
  | none => exact wpAny_pure h₁
  | some v =>
    refine wpAny_bind (wpAny_mono h₁ (fun _ s₁' h₁' => ?_) fun _ _ h' => h')
    refine wpAny_bind (wpAny_mono h₁' (fun _ s₂ h₂ => wpAny_bind (wpAny_mono h₂ (fun ok s₃ h₃ => ?_) fun _ _ h' => h')) fun _ _ h' => h')
    cases ok with
    | false => exact wpAny_pure ⟨rfl, h₃⟩
    | true =>
      exact wpAny_bind (wpAny_bind (wpAny_mono h₃ (fun x s₄ h₄ => wpAny_bind (wpAny_mono h₄ (fun _ s₅ h₅ => wpAny_pure (wpAny_pure ⟨rfl, h₅⟩)) fun _ _ h' => h')) fun _ _ h' => h'))
section
variable {X : Cx}
def tLc (wi : TI) (g : TG) (tt : TT) (te : TE) (vs : List Nat) : TE := fun σ H Q => wi σ H fun J H1 => ∀ D, H1 D = none → ∃ W : Nat → Nat → Hp → Prop, (∃ m, W 0 m (upd H1 D (.lst []))) ∧ ∀ i m H, W i m H →
  (J.stop i H ∧ Q (.ref D) H) ∨ (J.go i H ∧ ∃ Nx : Hp → Prop, (∀ H', Nx H' → ∃ m', m' < m ∧ W (i + 1) m' H') ∧ ∀ x H', J.yld i H x H' → g x (wipe σ vs) H' fun σ2 H2 => wipe σ2 vs = wipe σ vs ∧ tt σ2 H2 fun b H3 =>
    if b = true then te σ2 H3 fun y H4 => ∃ acc, H4 D = some (.lst acc) ∧ acc.length < sizeLine ∧ Nx (upd H4 D (.lst (acc ++ [y]))) else Nx H3)
theorem lc_core {pins : List (Addr × Obj)} {s : Shared} {σ : St} {H : Hp} {Q : VK} {elt tg iter : Expr} {ifs : List Expr} {scope : Scope} {own : List (Str × Nat)} {pos pos' : Pos} {wi : TI} {g : TG} {tt : TT} {te : TE} {use : Option (Value → Sem Unit)} {Qf : Value → Shared → Prop}
    (hc : X.calm = true) (hN : X.N.Nodup) (I : Inv X pins σ H s) (hi : PI X tg iter wi) (ok : BlkOk X.N X.env.scope scope own)
    (hg : ∀ (s : Shared) (H : Hp) (C : Addr) (cl : List (Str × Addr)) (fp : List Addr), PG (X.blk s H scope (compEnvC scope cl C X.env) fp) tg g) (ht : ∀ (s : Shared) (H : Hp) (C : Addr) (cl : List (Str × Addr)) (fp : List Addr), PTs (X.blk s H scope (compEnvC scope cl C X.env) fp) ifs tt)
    (he : ∀ (s : Shared) (H : Hp) (C : Addr) (cl : List (Str × Addr)) (fp : List Addr), PE (X.blk s H scope (compEnvC scope cl C X.env) fp) elt te) (hs : ∀ x, foldedSetIterable iter X.env x = pure x)
    (h : tLc wi g tt te (own.map (·.2)) σ H Q)
    (hRR : ∀ D C s' m H', Inv X pins σ H' s' → Q (.ref D) H' → s'.heap.Ns C m → FpOk X pins H' C → compPost (model X.prog X.w) X.A X.xe use Qf (.ref D) C (.ok .next) s') :
    wpAny (model X.prog X.w) X.A (comprehension (.ListComp elt [⟨tg, iter, ifs, 0⟩] scope pos) scope X.env pos' (newList []) false (eval iter X.env) use) Qf X.xe s := by
  have hfree : ∀ y ∈ scope.names, y.2 = .free → ∃ c, X.env.cells.lookup y.1 = some c := fun y hy e => by
    rcases ok.free y hy e with k | k
    · exact I.ok.has _ (.inl k)
    · exact I.ok.has _ (.inr k)
  refine wpAny_comprehension_free (use := use) rfl hs (closure_ok hfree) ok.kind (fun y hy e => by rw [ok.uniq y hy, e])
    (thn (hi pins s σ H _ I h) fun xv s1 hx => thn hx fun itv s2 h2 => ?_)
  obtain ⟨it, fp, tn, J, H2, e, I2, T, st2, f2, q⟩ := h2
  subst e
  refine wpAny_newObj_type (newEnv_comp ?_) (by show 0 ≤ sizeLine; decide)
  generalize hD : s2.heap.objs.size = D
  have hDn : H2 D = none := I2.hok.fresh (Nat.le_of_eq hD)
  obtain ⟨W, ⟨m0, w0⟩, turn⟩ := q D hDn
  generalize hs3 : ({ s2 with heap := s2.heap.push { cls := .type "list", data := .seq ([] : List Value).toArray } } : Shared) = s3
  have I3 : Inv X pins σ (upd H2 D (.lst [])) s3 := by
    rw [← hs3]
    refine I2.laid (t' := s2.toks) (fun b o e => Heap.get?_push_of_some _ e) (Nat.le_of_eq hD) ⟨Nat.zero_le _, [], 0, .nil, ?_⟩
    rw [← hD]
    exact Heap.get?_push_size _ rfl
  have h3 : s3.heap = s2.heap.push { cls := .type "list", data := .seq ([] : List Value).toArray } := by rw [← hs3]
  have sz : ∀ b ∈ fp, b < s2.heap.objs.size := fun b hb => by
    obtain ⟨o, e, _⟩ := T.obj _ _ st2 b hb
    exact Heap.lt_size e
  have f3 : ∀ b ∈ fp, FpOk X pins (upd H2 D (.lst [])) b ∧ b < s3.heap.objs.size := fun b hb => by
    have hlt := sz b hb
    refine ⟨⟨?_, (f2 b hb).2⟩, by rw [h3, Heap.size_push]; exact Nat.lt_succ_of_lt hlt⟩
    rw [upd_ne (by rw [← hD]; exact Nat.ne_of_lt hlt)]
    exact (f2 b hb).1
  have st3 : tn 0 s3.heap := T.keep _ _ _ st2 fun b _ o e => by rw [h3]; exact Heap.get?_push_of_some _ e
  have I4 := block_start I3 ok hN f3
  have pg := hg s3 (upd H2 D (.lst [])) s3.heap.objs.size (cellsFrom (s3.heap.objs.size + 1) scope.names (cloFrom X.env.cells scope.names [])) fp
  have pt := ht s3 (upd H2 D (.lst [])) s3.heap.objs.size (cellsFrom (s3.heap.objs.size + 1) scope.names (cloFrom X.env.cells scope.names [])) fp
  have pe := he s3 (upd H2 D (.lst [])) s3.heap.objs.size (cellsFrom (s3.heap.objs.size + 1) scope.names (cloFrom X.env.cells scope.names [])) fp
  show codeAny _ _ (.compStart (.ListComp elt [⟨tg, iter, ifs, 0⟩] scope pos) 0 (.ref it) (.ref D) (compEnvC scope (cellsFrom (s3.heap.objs.size + 1) scope.names (cloFrom X.env.cells scope.names [])) s3.heap.objs.size X.env)) (compPost (model X.prog X.w) X.A X.xe use Qf (.ref D) s3.heap.objs.size) { s3 with heap := pushCells (s3.heap.push { cls := .type "dict", data := .dict #[] }) scope.names }
  have nfp : ∀ b ∈ fp, (upd H2 D (.lst [])) b = none := fun b hb => (f3 b hb).1.1
  generalize hce : compEnvC scope (cellsFrom (s3.heap.objs.size + 1) scope.names (cloFrom X.env.cells scope.names [])) s3.heap.objs.size X.env = ce at I4 pg pt pe ⊢
  have cL : ce.locals = s3.heap.objs.size := by subst hce; rfl
  generalize hH3 : upd H2 D (.lst []) = H3 at I3 I4 pg pt pe w0 nfp f3
  generalize hs4 : ({ s3 with heap := pushCells (s3.heap.push { cls := .type "dict", data := .dict #[] }) scope.names } : Shared) = s4 at I4 ⊢
  have st4 : tn 0 s4.heap := T.keep _ _ _ st3 fun b _ o e => by rw [← hs4]; exact pushCells_keeps _ _ _ _ (Heap.get?_push_of_some _ e)
  have stat : ∀ {σ' : St} {H' : Hp} {s' : Shared}, Inv (X.blk s3 H3 scope ce fp) [] σ' H' s' → (∀ b ∈ fp, H' b = none) → ∀ b ∈ fp, FpOk (X.blk s3 H3 scope ce fp) [] H' b := fun {σ' H' s'} I' hn b hb =>
    ⟨hn b hb, (I'.ok.exf b hb).1, I'.ok.exfs b hb, .inl hb, fun x c e => (I'.ok.exf b hb).2 x c e, fun p hp => absurd (show p ∈ ([] : List (Addr × Obj)) ++ [] from hp) (by simp)⟩
  have loop : codeAny (model X.prog X.w) X.A (.compLoop (.ListComp elt [⟨tg, iter, ifs, 0⟩] scope pos) 0 (.ref it) (.ref D) ce) (compPost (model X.prog X.w) X.A X.xe use Qf (.ref D) s3.heap.objs.size) s4 := by
    refine compLoop_any (fun n s' => ∃ i H', Inv (X.blk s3 H3 scope ce fp) [] (wipe σ (own.map (·.2))) H' s' ∧ tn i s'.heap ∧ (∀ b ∈ fp, H' b = none) ∧ W i n H') ?_ m0 ⟨0, H3, I4, st4, nfp, w0⟩
    rintro n s5 ⟨i, H5, I5, st5, n5, w5⟩
    rcases turn i n H5 w5 with ⟨stop, qq⟩ | ⟨go, Nx, hNx, step⟩
    · have td := T.done (X.blk s3 H3 scope ce fp) rfl rfl rfl hc i [] s5 _ H5 (fun _ _ => False) I5 (stat I5 n5) st5 stop
      refine thnF td fun r s6 ⟨hr, I6⟩ => ?_
      subst hr
      have I7 : Inv X pins σ H5 s6 := I3.call' (ch := fp) I6.os I6.base I6.hok I6.bare fun b hb => ⟨(f3 b hb).1.2.2.2.1, (f3 b hb).1.2.1, (f3 b hb).1.2.2.2.2.1, (f3 b hb).1.2.2.2.2.2⟩
      have nC : H5 s3.heap.objs.size = none := by
        have z : H5 ce.locals = none := I6.free
        rw [cL] at z
        exact z
      obtain ⟨m, hn, _⟩ := I6.loc
      have hn : s6.heap.Ns ce.locals m := hn
      rw [cL] at hn
      exact hRR D s3.heap.objs.size s6 m H5 I7 qq hn (I3.fpOk (Nat.le_refl _) nC)
    · have ti := T.item (X.blk s3 H3 scope ce fp) rfl rfl rfl hc i [] s5 _ H5 (fun _ _ => False) I5 (stat I5 n5) st5 go
      refine thnF ti fun r s6 ⟨u, hr, h6⟩ => ?_
      subst hr
      refine thnF h6 fun _ s7 ⟨x, H7, I7, r7, y7, st7, n7⟩ => ?_
      have I7' := I7.pinned (stat I7 n7) (T.obj _ _ st7)
      refine thnF (pg _ s7 _ H7 x u _ I7' r7 (step x H7 y7)) fun _ s8 ⟨σ8, H8, I8, hw8, q8⟩ => ?_
      refine thnF (pt _ s8 σ8 H8 _ I8 q8) fun b s9 ⟨H9, I9, q9⟩ => ?_
      have fin : ∀ {s' : Shared} {H' : Hp}, Inv (X.blk s3 H3 scope ce fp) ([] ++ pinsAt fp s7.heap) σ8 H' s' → Nx H' → ∃ m, m < n ∧ ∃ i H', Inv (X.blk s3 H3 scope ce fp) [] (wipe σ (own.map (·.2))) H' s' ∧ tn i s'.heap ∧ (∀ b ∈ fp, H' b = none) ∧ W i m H' := fun {s' H'} I' nx => by
        obtain ⟨m', hm, w'⟩ := hNx H' nx
        have pin' : ∀ b ∈ fp, ∀ o, s7.heap.get? b = some o → s'.heap.get? b = some o ∧ H' b = none := fun b hb o e =>
          let z := I'.pin (b, o) (List.mem_append_right _ (List.mem_append_right _ (mem_pinsAt hb e)))
          ⟨z.1, z.2.1⟩
        have hl : (wipe σ (own.map (·.2))).length = σ8.length := by rw [← hw8, wipe_length]
        refine ⟨m', hm, i + 1, H', (I'.unpinned (pins := [])).weak hl (fun j v e => ?_), T.keep _ _ _ st7 fun b hb o e => (pin' b hb o e).1, fun b hb => ?_, w'⟩
        · rw [← hw8] at e
          exact (wipe_some e).1
        · obtain ⟨o, e, _⟩ := T.obj _ _ st7 b hb
          exact (pin' b hb o e).2
      cases b with
      | false =>
        simp only [Bool.false_eq_true, if_false] at q9 ⊢
        exact fin I9 q9
      | true =>
        simp only [if_true] at q9 ⊢
        refine thnF (pe _ s9 σ8 H9 _ I9 q9) fun z s10 ⟨yv, H10, I10, r10, acc, hD10, hz10, nx⟩ => ?_
        exact app_ok (X := X.blk s3 H3 scope ce fp) I10 hD10 hz10 r10 fun s11 I11 => fin I11 nx
  exact codeAny_compStart_list loop (T.self X.A 0 _ _ _ st4 loop)
theorem pe_lc {elt tg iter : Expr} {ifs : List Expr} {scope : Scope} {own : List (Str × Nat)} {pos : Pos} {wi : TI} {g : TG} {tt : TT} {te : TE} (hc : X.calm = true) (hN : X.N.Nodup) (hi : PI X tg iter wi) (ok : BlkOk X.N X.env.scope scope own)
    (hg : ∀ (s : Shared) (H : Hp) (C : Addr) (cl : List (Str × Addr)) (fp : List Addr), PG (X.blk s H scope (compEnvC scope cl C X.env) fp) tg g) (ht : ∀ (s : Shared) (H : Hp) (C : Addr) (cl : List (Str × Addr)) (fp : List Addr), PTs (X.blk s H scope (compEnvC scope cl C X.env) fp) ifs tt)
    (he : ∀ (s : Shared) (H : Hp) (C : Addr) (cl : List (Str × Addr)) (fp : List Addr), PE (X.blk s H scope (compEnvC scope cl C X.env) fp) elt te) (hs : ∀ x, foldedSetIterable iter X.env x = pure x := by intro _; rfl) :
    PE X (.ListComp elt [⟨tg, iter, ifs, 0⟩] scope pos) (tLc wi g tt te (own.map (·.2))) := by
  intro pins s σ H Q I h
  rw [eval_ListComp]
  refine lc_core hc hN I hi ok hg ht he hs h fun D C s' m H' I' q hn f => ⟨m, hn, fun h'' sb => ?_⟩
  obtain ⟨f0, f1, f2, f3, f4, f5⟩ := f
  exact ⟨.ref D, H', I'.turned (t' := s'.toks) (fun b o hb e => (sb.2 b hb).trans e) f0 f1 f3 f4 f5, rfl, q⟩
theorem ps_setLc {i : Nat} {y : Str} {py : Pos} {elt tg iter : Expr} {ifs : List Expr} {scope : Scope} {own : List (Str × Nat)} {pos spos : Pos} {wi : TI} {g : TG} {tt : TT} {te : TE} (hc : X.calm = true) (hN : X.N.Nodup) (hy : X.N[i]? = some y) (hyl : X.env.scope.names.lookup y = some .local)
    (hsw : swapsWith (.ListComp elt [⟨tg, iter, ifs, 0⟩] scope pos) (some (.Name y py)) spos.line X.env = pure true) (hi : PI X tg iter wi) (ok : BlkOk X.N X.env.scope scope own)
    (hg : ∀ (s : Shared) (H : Hp) (C : Addr) (cl : List (Str × Addr)) (fp : List Addr), PG (X.blk s H scope (compEnvC scope cl C X.env) fp) tg g) (ht : ∀ (s : Shared) (H : Hp) (C : Addr) (cl : List (Str × Addr)) (fp : List Addr), PTs (X.blk s H scope (compEnvC scope cl C X.env) fp) ifs tt)
    (he : ∀ (s : Shared) (H : Hp) (C : Addr) (cl : List (Str × Addr)) (fp : List Addr), PE (X.blk s H scope (compEnvC scope cl C X.env) fp) elt te) (hs : ∀ x, foldedSetIterable iter X.env x = pure x := by intro _; rfl) :
    PS X (.Assign [.Name y py] (.ListComp elt [⟨tg, iter, ifs, 0⟩] scope pos) spos) (tAsg (tLc wi g tt te (own.map (·.2))) (gName i)) := by
  intro pins s σ H D I h
  rw [exec_Assign_Name_used _ _ _ _ hsw]
  refine wpAny_bind (wpAny_standAt (wpAny_bind ?_))
  show wpAny _ X.A (do let _ ← comprehension (.ListComp elt [⟨tg, iter, ifs, 0⟩] scope pos) scope X.env (firstIterPos [⟨tg, iter, ifs, 0⟩] pos) (newList []) false (eval iter X.env) (some (assign (.Name y py) X.env))) _ _ s
  have h : tLc wi g tt te (own.map (·.2)) σ H (fun x H1 => gName i x σ H1 D.nx) := h
  refine wpAny_bind (thn (lc_core (Qf := fun _ s' => SP X pins D .next s') hc hN I hi ok hg ht he hs h fun L C s' m H' I' q hn f => ?_) fun _ s' hq => wpAny_pure (wpAny_pure hq))
  show wpAny _ _ (assign (.Name y py) X.env (.ref L)) _ _ _
  refine wpAny_assign_Name (store_ok2 (v := V.ref L) I' hN hy (.inl hyl) rfl (fun s2 I2 ⟨a, sb, ha⟩ => ?_) (.inr hyl))
  obtain ⟨f0, f1, f2, f3, f4, f5⟩ := f
  have haC : C ≠ a := by
    rcases ha with z | z
    · rw [z]; exact f1
    · exact fun e => f4 y a z e.symm
  refine ⟨m, hn.sameBut sb haC, fun h3 sb3 => ?_⟩
  exact ⟨_, H', I2.turned (t' := s2.toks) (fun b o hb e => (sb3.2 b hb).trans e) f0 f1 f3 f4 f5, q⟩
theorem sw_true {elt : Expr} {gs : List Comprehension} {scope : Scope} {pos py : Pos} {y : Str} {l : Nat} {env : Env} (hk : env.scope.kind = .function) (hy : env.scope.names.lookup y = some .local) (hl : (py.line == pos.line) = true)
    (ha : (scope.names.any fun (n, k) => n == y && (k == .local || k == .cell)) = false) : swapsWith (.ListComp elt gs scope pos) (some (.Name y py)) l env = pure true := by
  have ky : env.kindOf y = some .local := hy
  have hb : env.blockKind = .function := by unfold Env.blockKind; rw [hk]; rfl
  unfold swapsWith
  simp only [hb, ky, ha, Expr.pos, hl]
  rfl
end
theorem lc_range {lo : Int} {n : Nat} {g : TG} {tt : TT} {te : TE} {vs : List Nat} {σ : St} {H1 : Hp} {D : Addr} {Qd : Hp → Prop} (Pv : Nat → Hp → Prop) (h0 : Pv 0 (upd H1 D (.lst [])))
    (hs : ∀ i H, i < n → Pv i H → g (.int (lo + i)) (wipe σ vs) H fun σ2 H2 => wipe σ2 vs = wipe σ vs ∧ tt σ2 H2 fun b H3 =>
      if b = true then te σ2 H3 fun y H4 => ∃ acc, H4 D = some (.lst acc) ∧ acc.length < sizeLine ∧ Pv (i + 1) (upd H4 D (.lst (acc ++ [y]))) else Pv (i + 1) H3) (hd : ∀ H, Pv n H → Qd H) :
    ∃ W : Nat → Nat → Hp → Prop, (∃ m, W 0 m (upd H1 D (.lst []))) ∧ ∀ i m H, W i m H →
      ((Itr lo n).stop i H ∧ Qd H) ∨ ((Itr lo n).go i H ∧ ∃ Nx : Hp → Prop, (∀ H', Nx H' → ∃ m', m' < m ∧ W (i + 1) m' H') ∧ ∀ x H', (Itr lo n).yld i H x H' → g x (wipe σ vs) H' fun σ2 H2 => wipe σ2 vs = wipe σ vs ∧ tt σ2 H2 fun b H3 =>
        if b = true then te σ2 H3 fun y H4 => ∃ acc, H4 D = some (.lst acc) ∧ acc.length < sizeLine ∧ Nx (upd H4 D (.lst (acc ++ [y]))) else Nx H3) := by
  refine ⟨fun i m H => m = n - i ∧ i ≤ n ∧ Pv i H, ⟨n, by simp, Nat.zero_le _, h0⟩, ?_⟩
  rintro i m H ⟨rfl, hi, p⟩
  by_cases hlt : i < n
  · refine .inr ⟨hlt, Pv (i + 1), fun H' p' => ⟨n - (i + 1), by omega, rfl, hlt, p'⟩, fun x H' y => ?_⟩
    obtain ⟨e, y⟩ := y
    subst e y
    exact hs i _ hlt p
  · have e : i = n := by omega
    subst e
    exact .inl ⟨Nat.le_refl _, hd H p⟩
theorem lc_list {K : PySem.W.Frag} {a : Addr} {xs : List V} {g : TG} {tt : TT} {te : TE} {vs : List Nat} {σ : St} {H1 : Hp} {D : Addr} {Qd : Hp → Prop} (Pv : Nat → Hp → Prop) (h0 : Pv 0 (upd H1 D (.lst []))) (hl : ∀ i H, i ≤ xs.length → Pv i H → SqL K H a xs)
    (hs : ∀ i x H, xs[i]? = some x → Pv i H → g x (wipe σ vs) H fun σ2 H2 => wipe σ2 vs = wipe σ vs ∧ tt σ2 H2 fun b H3 =>
      if b = true then te σ2 H3 fun y H4 => ∃ acc, H4 D = some (.lst acc) ∧ acc.length < sizeLine ∧ Pv (i + 1) (upd H4 D (.lst (acc ++ [y]))) else Pv (i + 1) H3) (hd : ∀ H, Pv xs.length H → Qd H) :
    ∃ W : Nat → Nat → Hp → Prop, (∃ m, W 0 m (upd H1 D (.lst []))) ∧ ∀ i m H, W i m H →
      ((Itl K a).stop i H ∧ Qd H) ∨ ((Itl K a).go i H ∧ ∃ Nx : Hp → Prop, (∀ H', Nx H' → ∃ m', m' < m ∧ W (i + 1) m' H') ∧ ∀ x H', (Itl K a).yld i H x H' → g x (wipe σ vs) H' fun σ2 H2 => wipe σ2 vs = wipe σ vs ∧ tt σ2 H2 fun b H3 =>
        if b = true then te σ2 H3 fun y H4 => ∃ acc, H4 D = some (.lst acc) ∧ acc.length < sizeLine ∧ Nx (upd H4 D (.lst (acc ++ [y]))) else Nx H3) := by
  refine ⟨fun i m H => m = xs.length - i ∧ i ≤ xs.length ∧ Pv i H, ⟨xs.length, by simp, Nat.zero_le _, h0⟩, ?_⟩
  rintro i m H ⟨rfl, hi, p⟩
  have q := hl i H hi p
  by_cases hlt : i < xs.length
  · refine .inr ⟨⟨xs, xs[i], q, by simp [hlt]⟩, Pv (i + 1), fun H' p' => ⟨xs.length - (i + 1), by omega, rfl, hlt, p'⟩, fun x H' y => ?_⟩
    obtain ⟨e, y⟩ := y
    subst e
    exact hs i x _ (y xs q) p
  · have e : i = xs.length := by omega
    subst e
    exact .inl ⟨⟨xs, q, Nat.le_refl _⟩, hd H p⟩
theorem lc_tup {K : PySem.W.Frag} {a : Addr} {xs : List V} {g : TG} {tt : TT} {te : TE} {vs : List Nat} {σ : St} {H1 : Hp} {D : Addr} {Qd : Hp → Prop} (Pv : Nat → Hp → Prop) (h0 : Pv 0 (upd H1 D (.lst []))) (hl : ∀ i H, i ≤ xs.length → Pv i H → SqT K H a xs)
    (hs : ∀ i x H, xs[i]? = some x → Pv i H → g x (wipe σ vs) H fun σ2 H2 => wipe σ2 vs = wipe σ vs ∧ tt σ2 H2 fun b H3 =>
      if b = true then te σ2 H3 fun y H4 => ∃ acc, H4 D = some (.lst acc) ∧ acc.length < sizeLine ∧ Pv (i + 1) (upd H4 D (.lst (acc ++ [y]))) else Pv (i + 1) H3) (hd : ∀ H, Pv xs.length H → Qd H) :
    ∃ W : Nat → Nat → Hp → Prop, (∃ m, W 0 m (upd H1 D (.lst []))) ∧ ∀ i m H, W i m H →
      ((Itt K a).stop i H ∧ Qd H) ∨ ((Itt K a).go i H ∧ ∃ Nx : Hp → Prop, (∀ H', Nx H' → ∃ m', m' < m ∧ W (i + 1) m' H') ∧ ∀ x H', (Itt K a).yld i H x H' → g x (wipe σ vs) H' fun σ2 H2 => wipe σ2 vs = wipe σ vs ∧ tt σ2 H2 fun b H3 =>
        if b = true then te σ2 H3 fun y H4 => ∃ acc, H4 D = some (.lst acc) ∧ acc.length < sizeLine ∧ Nx (upd H4 D (.lst (acc ++ [y]))) else Nx H3) := by
  refine ⟨fun i m H => m = xs.length - i ∧ i ≤ xs.length ∧ Pv i H, ⟨xs.length, by simp, Nat.zero_le _, h0⟩, ?_⟩
  rintro i m H ⟨rfl, hi, p⟩
  have q := hl i H hi p
  by_cases hlt : i < xs.length
  · refine .inr ⟨⟨xs, xs[i], q, by simp [hlt]⟩, Pv (i + 1), fun H' p' => ⟨xs.length - (i + 1), by omega, rfl, hlt, p'⟩, fun x H' y => ?_⟩
    obtain ⟨e, y⟩ := y
    subst e
    exact hs i x _ (y xs q) p
  · have e : i = xs.length := by omega
    subst e
    exact .inl ⟨⟨xs, q, Nat.le_refl _⟩, hd H p⟩
def blkC (N : List Str) (sc scope : Scope) (own : List (Str × Nat)) : Bool :=
  (match scope.kind with | .function => true | _ => false) && (scope.names.all fun y => decide (scope.names.lookup y.1 = some y.2)) && (own.all fun p => decide (N[p.2]? = some p.1)) &&
    (scope.names.all fun y => match y.2 with
      | .free => (match sc.names.lookup y.1 with | some .cell => true | some .free => true | _ => false)
      | .local => decide (y.1 ∈ own.map (·.1)) || decide (y.1 ∉ N)
      | .cell => decide (y.1 ∈ own.map (·.1)) || decide (y.1 ∉ N)
      | _ => true)
theorem blkOk_by {N : List Str} {sc scope : Scope} {own : List (Str × Nat)} (h : blkC N sc scope own = true) : BlkOk N sc scope own := by
  unfold blkC at h
  simp only [Bool.and_eq_true, List.all_eq_true, decide_eq_true_eq] at h
  obtain ⟨⟨⟨h1, h2⟩, h3⟩, h4⟩ := h
  refine ⟨?_, h2, h3, fun y hy e => ?_, fun y hy e => ?_⟩
  · split at h1
    · assumption
    · cases h1
  · have q := h4 y hy
    simp only [e] at q
    split at q <;> first | exact .inl (by assumption) | exact .inr (by assumption) | cases q
  · have q := h4 y hy
    rcases e with e | e <;> (simp only [e, Bool.or_eq_true, decide_eq_true_eq] at q; exact q)
end L2
namespace L2
open PySem PySem.Spec PyProof.Rows
section
variable {prog : Program} {w : World} {A : Around} {R : Result → Shared → Prop} {s : Shared} {elt t0 i0 t1 i1 : Expr} {ifs0 ifs1 : List Expr} {scope : Scope} {pos : Pos} {it acc : Value} {env : Env}
end
section
variable {X : Cx}
end
end L2
namespace L2
open PySem PySem.Spec PyProof.Rows
section
variable {κ : Type} [DecidableEq κ]
def valV (kvs : List (κ × V)) (k : κ) : Option V := (kvs.find? fun kv => decide (kv.1 = k)).map (·.2)
def putK (kvs : List (κ × V)) (k : κ) (v : V) : List (κ × V) :=
  if (kvs.any fun kv => decide (kv.1 = k)) = true then kvs.map (fun kv => if kv.1 = k then (kv.1, v) else kv) else kvs ++ [(k, v)]
def dropK (kvs : List (κ × V)) (k : κ) : List (κ × V) := kvs.filter fun kv => decide (kv.1 ≠ k)
theorem valV_nil {k : κ} : valV ([] : List (κ × V)) k = none := rfl
theorem valV_pos {p : κ × V} {r : List (κ × V)} {k : κ} (e : p.1 = k) : valV (p :: r) k = some p.2 := by simp [valV, List.find?_cons, e]
theorem valV_neg {p : κ × V} {r : List (κ × V)} {k : κ} (e : ¬ p.1 = k) : valV (p :: r) k = valV r k := by simp [valV, List.find?_cons, e]
theorem valV_any (k : κ) : ∀ kvs : List (κ × V), (kvs.any fun kv => decide (kv.1 = k)) = (valV kvs k).isSome
  | [] => rfl
  | p :: r => by
    rw [List.any_cons]
    by_cases e : p.1 = k
    · simp only [valV_pos e, decide_eq_true e, Bool.true_or, Option.isSome_some]
    · rw [valV_neg e, decide_eq_false e, Bool.false_or]; exact valV_any k r
theorem valV_map (k j : κ) (y : V) : ∀ kvs : List (κ × V), valV (kvs.map fun kv => if kv.1 = k then (kv.1, y) else kv) j = (valV kvs j).map fun x => if j = k then y else x
  | [] => rfl
  | p :: r => by
    have ih := valV_map k j y r
    rw [List.map_cons]
    by_cases h : p.1 = k
    · rw [if_pos h]
      by_cases e : p.1 = j
      · rw [valV_pos (p := (p.1, y)) e, valV_pos e, Option.map_some, if_pos (e.symm.trans h)]
      · rw [valV_neg (p := (p.1, y)) e, valV_neg e, ih]
    · rw [if_neg h]
      by_cases e : p.1 = j
      · rw [valV_pos (p := p) e, valV_pos e, Option.map_some, if_neg (fun z => h (e.trans z))]
      · rw [valV_neg (p := p) e, valV_neg e, ih]
theorem valV_snoc (k j : κ) (y : V) : ∀ kvs : List (κ × V), valV kvs k = none → valV (kvs ++ [(k, y)]) j = if j = k then some y else valV kvs j
  | [], _ => by
    by_cases e : k = j
    · rw [if_pos e.symm]; exact valV_pos (p := (k, y)) e
    · rw [if_neg (fun z => e z.symm)]; exact valV_neg (p := (k, y)) e
  | p :: r, hn => by
    rw [List.cons_append]
    have hk : ¬ p.1 = k := fun z => by rw [valV_pos z] at hn; cases hn
    rw [valV_neg hk] at hn
    have ih := valV_snoc k j y r hn
    by_cases e : p.1 = j
    · rw [valV_pos e, valV_pos e, if_neg (fun z => hk (e.trans z))]
    · rw [valV_neg e, valV_neg e, ih]
theorem valV_put (kvs : List (κ × V)) (k j : κ) (y : V) : valV (putK kvs k y) j = if j = k then some y else valV kvs j := by
  unfold putK
  by_cases a : (kvs.any fun kv => decide (kv.1 = k)) = true
  · rw [if_pos a, valV_map]
    rw [valV_any] at a
    by_cases e : j = k
    · obtain ⟨x, hx⟩ := Option.isSome_iff_exists.mp a
      rw [if_pos e, e, hx, Option.map_some, if_pos rfl]
    · rw [if_neg e]
      cases valV kvs j with
      | none => rfl
      | some x => rw [Option.map_some, if_neg e]
  · rw [if_neg a]
    refine valV_snoc k j y kvs ?_
    rw [valV_any] at a
    cases q : valV kvs k with
    | none => rfl
    | some x => rw [q] at a; exact (a rfl).elim
theorem length_putK (kvs : List (κ × V)) (k : κ) (v : V) : (putK kvs k v).length ≤ kvs.length + 1 := by
  unfold putK
  split
  · rw [List.length_map]; omega
  · rw [List.length_append, List.length_cons, List.length_nil]; omega
theorem putK_new {kvs : List (κ × V)} {k : κ} (v : V) (h : valV kvs k = none) : putK kvs k v = kvs ++ [(k, v)] := by
  unfold putK
  rw [valV_any, h]
  exact if_neg (by decide)
theorem RelO.isSome_eq {o : Option V} {u : Option Value} (r : RelO o u) : o.isSome = u.isSome := by
  cases o with
  | none => cases u with
    | none => rfl
    | some _ => exact (show False from r).elim
  | some _ => cases u with
    | none => exact (show False from r).elim
    | some _ => rfl
theorem RelO.getD {o : Option V} {u : Option Value} {d : V} {d' : Value} (r : RelO o u) (rd : RelV d d') : RelV (o.getD d) (u.getD d') := by
  cases o with
  | none => cases u with
    | none => exact rd
    | some _ => exact (show False from r).elim
  | some _ => cases u with
    | none => exact (show False from r).elim
    | some _ => exact r
theorem KV.val {kvs : List (κ × V)} {vs : List (κ × Value)} (r : KV kvs vs) (k : κ) : RelO (valV kvs k) (valueAt vs k) := by
  unfold KV at r
  induction r with
  | nil => exact True.intro
  | @cons p q ps qs h t ih =>
    obtain ⟨h1, h2⟩ := h
    by_cases e : p.1 = k
    · have e' : q.1 = k := h1.symm.trans e
      have b : valueAt (q :: qs) k = some q.2 := by simp [valueAt, List.find?_cons, e']
      rw [valV_pos e, b]; exact h2
    · have e' : ¬ q.1 = k := fun z => e (h1.trans z)
      have b : valueAt (q :: qs) k = valueAt qs k := by simp [valueAt, List.find?_cons, e']
      rw [valV_neg e, b]; exact ih
theorem KV.any {kvs : List (κ × V)} {vs : List (κ × Value)} (r : KV kvs vs) (k : κ) : (kvs.any fun kv => decide (kv.1 = k)) = vs.any fun kv => decide (kv.1 = k) := by
  unfold KV at r
  induction r with
  | nil => rfl
  | cons h t ih => rw [List.any_cons, List.any_cons, ih, h.1]
theorem KV.repl {kvs : List (κ × V)} {vs : List (κ × Value)} (r : KV kvs vs) (k : κ) {y : V} {u : Value} (ry : RelV y u) :
    KV (kvs.map fun kv => if kv.1 = k then (kv.1, y) else kv) (vs.map fun kv => if kv.1 = k then (kv.1, u) else kv) := by
  unfold KV at r ⊢
  induction r with
  | nil => exact .nil
  | @cons p q ps qs h t ih =>
    rw [List.map_cons, List.map_cons]
    refine .cons ?_ ih
    obtain ⟨h1, h2⟩ := h
    by_cases e : p.1 = k
    · rw [if_pos e, if_pos (h1.symm.trans e)]; exact ⟨h1, ry⟩
    · rw [if_neg e, if_neg (fun z => e (h1.trans z))]; exact ⟨h1, h2⟩
theorem KV.put {kvs : List (κ × V)} {vs : List (κ × Value)} (r : KV kvs vs) (k : κ) {y : V} {u : Value} (ry : RelV y u) : KV (putK kvs k y) (stored vs k u) := by
  unfold putK stored
  rw [r.any k]
  by_cases e : (vs.any fun kv => decide (kv.1 = k)) = true
  · rw [if_pos e, if_pos e]; exact r.repl k ry
  · rw [if_neg e, if_neg e]; exact Paired.snoc r ⟨rfl, ry⟩
theorem KV.drop {kvs : List (κ × V)} {vs : List (κ × Value)} (r : KV kvs vs) (k : κ) : KV (dropK kvs k) (without vs k) := by
  unfold KV at r ⊢
  unfold dropK without
  induction r with
  | nil => exact .nil
  | @cons p q ps qs h t ih =>
    obtain ⟨h1, h2⟩ := h
    rw [List.filter_cons, List.filter_cons]
    by_cases e : p.1 = k
    · have a : ¬ decide (p.1 ≠ k) = true := by simp [e]
      have b : ¬ decide (q.1 ≠ k) = true := by simp [h1.symm.trans e]
      rw [if_neg a, if_neg b]; exact ih
    · have e' : ¬ q.1 = k := fun z => e (h1.trans z)
      have a : decide (p.1 ≠ k) = true := by simp [e]
      have b : decide (q.1 ≠ k) = true := by simp [e']
      rw [if_pos a, if_pos b]; exact .cons ⟨h1, h2⟩ ih
theorem KV.keys {kvs : List (κ × V)} {vs : List (κ × Value)} (r : KV kvs vs) : kvs.map (·.1) = vs.map (·.1) := by
  unfold KV at r
  induction r with
  | nil => rfl
  | cons h t ih => rw [List.map_cons, List.map_cons, ih, h.1]
theorem KV.length {kvs : List (κ × V)} {vs : List (κ × Value)} (r : KV kvs vs) : kvs.length = vs.length := Paired.length r
theorem dropK_le (kvs : List (κ × V)) (k : κ) : (dropK kvs k).length ≤ kvs.length := List.length_filter_le _ _
end
theorem kV_is {P : Program} {w : World} {k : Key} {u : Value} (r : RelV (kV k) u) : (mixKind P w).is k u = true := by
  cases k with
  | inl i => obtain ⟨t, e⟩ := (show ∃ t, u = Value.int i t from r); subst e; exact mixKind_int P w i t
  | inr x => obtain ⟨t, e⟩ := (show ∃ t, u = Value.str x t from r); subst e; exact mixKind_str P w x t
theorem items_are {P : Program} {w : World} : ∀ {ks : List Key} {us : List Value}, Vals (ks.map kV) us → ItemsAre (mixKind P w) ks us
  | [], _, r => by rw [List.map_nil] at r; cases r; exact .nil
  | k :: ks, _, r => by
    rw [List.map_cons] at r
    cases r with
    | cons h t => exact .cons (kV_is h) (items_are t)
abbrev KT (H : Hp) : List (List Key × V) → List (List Key × Addr × Value) → Prop := Paired fun p q => p.1 = q.1 ∧ H q.2.1 = some (.tup (p.1.map kV)) ∧ RelV p.2 q.2.2
theorem KT.val {H : Hp} {kvs : List (List Key × V)} {xs : List (List Key × Addr × Value)} (r : KT H kvs xs) (k : List Key) : RelO (valV kvs k) ((atKey xs k).map (·.2)) := by
  induction r with
  | nil => exact True.intro
  | @cons p q ps qs h t ih =>
    obtain ⟨h1, _, h2⟩ := h
    by_cases e : p.1 = k
    · have e' : q.1 = k := h1.symm.trans e
      have b : atKey (q :: qs) k = some q.2 := by simp [atKey, List.find?_cons, e']
      rw [valV_pos e, b]; exact h2
    · have e' : ¬ q.1 = k := fun z => e (h1.trans z)
      have b : atKey (q :: qs) k = atKey qs k := by simp [atKey, List.find?_cons, e']
      rw [valV_neg e, b]; exact ih
theorem KT.repl {H : Hp} {kvs : List (List Key × V)} {xs : List (List Key × Addr × Value)} (r : KT H kvs xs) (k : List Key) {y : V} {u : Value} (ry : RelV y u) :
    KT H (kvs.map fun kv => if kv.1 = k then (kv.1, y) else kv) (xs.map (putAt k u)) := by
  induction r with
  | nil => exact .nil
  | @cons p q ps qs h t ih =>
    rw [List.map_cons, List.map_cons]
    refine .cons ?_ ih
    obtain ⟨h1, h2, h3⟩ := h
    unfold putAt
    by_cases e : p.1 = k
    · rw [if_pos e, if_pos (h1.symm.trans e)]; exact ⟨h1, h2, ry⟩
    · rw [if_neg e, if_neg (fun z => e (h1.trans z))]; exact ⟨h1, h2, h3⟩
theorem KT.put {H : Hp} {kvs : List (List Key × V)} {xs : List (List Key × Addr × Value)} (r : KT H kvs xs) (k : List Key) {b : Addr} {y : V} {u : Value} (hb : H b = some (.tup (k.map kV))) (ry : RelV y u) :
    KT H (putK kvs k y) (storedH xs k b u) := by
  have e : (kvs.any fun kv => decide (kv.1 = k)) = (atKey xs k).isSome := by
    rw [valV_any, (r.val k).isSome_eq, Option.isSome_map]
  unfold putK storedH
  rw [e]
  by_cases q : (atKey xs k).isSome = true
  · rw [if_pos q, if_pos q]; exact r.repl k ry
  · rw [if_neg q, if_neg q]; exact Paired.snoc r ⟨rfl, hb, ry⟩
theorem KT.keeps {H H' : Hp} {kvs : List (List Key × V)} {xs : List (List Key × Addr × Value)} (r : KT H kvs xs) (ht : ∀ b ys, H b = some (.tup ys) → H' b = some (.tup ys)) : KT H' kvs xs :=
  Paired.mapP r fun _ _ z => ⟨z.1, ht _ _ z.2.1, z.2.2⟩
section
variable {P : Program} {w : World} {H : Hp} {h : Heap} {a : Addr}
theorem rd_of {u : HO} (ok : HOk P w H h) (e : Rd H a u) : ObjOk P w H h a u := e.ok ok
theorem dk_rd {kvs : List (Key × V)} (ok : HOk P w H h) (e : Rd H a (.dK kvs)) : kvs.length ≤ sizeLine ∧ (a == sysModules) = false ∧ ∃ vs, KV kvs vs ∧ h.DictOf (mixKind P w) a vs :=
  show ObjOk P w H h a (.dK kvs) from rd_of ok e
theorem dk_of {kvs : List (Key × V)} (ok : HOk P w H h) (e : H a = some (.dK kvs)) : kvs.length ≤ sizeLine ∧ (a == sysModules) = false ∧ ∃ vs, KV kvs vs ∧ h.DictOf (mixKind P w) a vs := dk_rd ok (.inl e)
theorem key_of {ks : List Key} (ok : HOk P w H h) (e : H a = some (.tup (ks.map kV))) : (tupleKind (mixKind P w)).is h ks a := by
  obtain ⟨_, its, r, o, h1, h2, n, h3⟩ := (show ObjOk P w H h a (.tup (ks.map kV)) from ok a _ e)
  exact ⟨o, its.toArray, n, h1, h2, h3, by simpa using items_are r⟩
theorem dt_rd {kvs : List (List Key × V)} (ok : HOk P w H h) (e : Rd H a (.dT kvs)) : kvs.length ≤ sizeLine ∧ (a == sysModules) = false ∧
    ∃ xs, KT H kvs xs ∧ h.DictOfH (tupleKind (mixKind P w)) a xs := by
  obtain ⟨z, y, xs, r, o, es, ep, h1, h2, h3, h4, h5⟩ := (show ObjOk P w H h a (.dT kvs) from rd_of ok e)
  refine ⟨z, y, xs, r, o, es, ep, h1, h2, h3, h4, fun x hx => ?_, h5⟩
  have all : ∀ {l : List (List Key × V)} {m : List (List Key × Addr × Value)}, KT H l m → ∀ x ∈ m, (tupleKind (mixKind P w)).is h x.1 x.2.1 := by
    intro l m q
    induction q with
    | nil => intro x hx; exact nomatch hx
    | @cons p q ps qs hq t ih =>
      intro x hx
      rcases List.mem_cons.mp hx with e | hx
      · subst e
        exact key_of ok (by rw [← hq.1]; exact hq.2.1)
      · exact ih x hx
  exact all r x hx
theorem dt_of {kvs : List (List Key × V)} (ok : HOk P w H h) (e : H a = some (.dT kvs)) : kvs.length ≤ sizeLine ∧ (a == sysModules) = false ∧
    ∃ xs, KT H kvs xs ∧ h.DictOfH (tupleKind (mixKind P w)) a xs := dt_rd ok (.inl e)
end
def DGet (H : Hp) (a : Addr) (y : V) (r : Option V) : Prop :=
  (∃ kvs k, Rd H a (.dK kvs) ∧ y = kV k ∧ r = valV kvs k) ∨ ∃ kvs k b, Rd H a (.dT kvs) ∧ y = .ref b ∧ H b = some (.tup (k.map kV)) ∧ r = valV kvs k
def DPut (H : Hp) (a : Addr) (y v : V) (H' : Hp) : Prop :=
  (∃ kvs k, H a = some (.dK kvs) ∧ y = kV k ∧ kvs.length < sizeLine ∧ H' = upd H a (.dK (putK kvs k v))) ∨
  ∃ kvs k b, H a = some (.dT kvs) ∧ y = .ref b ∧ H b = some (.tup (k.map kV)) ∧ kvs.length < sizeLine ∧ H' = upd H a (.dT (putK kvs k v))
theorem DGet.k {H : Hp} {a : Addr} {kvs : List (Key × V)} {k : Key} (e : H a = some (.dK kvs)) : DGet H a (kV k) (valV kvs k) := .inl ⟨kvs, k, .inl e, rfl, rfl⟩
theorem DGet.t {H : Hp} {a b : Addr} {kvs : List (List Key × V)} {k : List Key} (e : H a = some (.dT kvs)) (eb : H b = some (.tup (k.map kV))) : DGet H a (.ref b) (valV kvs k) := .inr ⟨kvs, k, b, .inl e, rfl, eb, rfl⟩
theorem DPut.k {H : Hp} {a : Addr} {kvs : List (Key × V)} {k : Key} {v : V} (e : H a = some (.dK kvs)) (hl : kvs.length < sizeLine) : DPut H a (kV k) v (upd H a (.dK (putK kvs k v))) := .inl ⟨kvs, k, e, rfl, hl, rfl⟩
theorem DPut.t {H : Hp} {a b : Addr} {kvs : List (List Key × V)} {k : List Key} {v : V} (e : H a = some (.dT kvs)) (eb : H b = some (.tup (k.map kV))) (hl : kvs.length < sizeLine) :
    DPut H a (.ref b) v (upd H a (.dT (putK kvs k v))) := .inr ⟨kvs, k, b, e, rfl, eb, hl, rfl⟩
section
variable {X : Cx} {pins : List (Addr × Obj)} {σ : St} {H : Hp} {s : Shared} {a : Addr} {y v : V} {u r : Value} {o : Option V} {A : Around} {E : Value → Shared → Prop}
theorem Inv.big (I : Inv X pins σ H s) : sysModules < s.heap.objs.size := by
  have h : mainGlobals < s.heap.objs.size := (I.mod.glob.keeps I.bk).lt
  exact Nat.lt_trans (by decide) h
theorem d_getItem {Q : Value → Shared → Prop} (hu : A.units + 1 < cLine) (I : Inv X pins σ H s) (g : DGet H a y (some v)) (ry : RelV y u) (h : ∀ w' s', Inv X pins σ H s' → RelV v w' → Q w' s') :
    wpAny (model X.prog X.w) A (getItem (.ref a) u) Q E s := by
  rcases g with ⟨kvs, k, e, ey, l⟩ | ⟨kvs, k, b, e, ey, eb, l⟩
  · subst ey
    obtain ⟨z, hd, vs, rel, dd⟩ := dk_rd I.hok e
    obtain ⟨w', hw, rw'⟩ := RelO.some_of (v := v) (o := valueAt vs k) (by rw [l]; exact rel.val k)
    exact wpAny_getItem_of (kV_is ry) dd.mapOf hw (h w' _ (I.tok _) rw')
  · subst ey
    cases (show u = Value.ref b from ry)
    obtain ⟨z, hd, xs, rel, dd⟩ := dt_rd I.hok e
    obtain ⟨w', hw, rw'⟩ := RelO.some_of (v := v) (o := (atKey xs k).map (·.2)) (by rw [l]; exact rel.val k)
    obtain ⟨p, hp, hp2⟩ := Option.map_eq_some_iff.mp hw
    refine wpAny_getItem_heap (tupleKind_room_in1 hu) (key_of I.hok eb) dd hp ?_
    rw [hp2]
    exact h w' _ (I.tok _) rw'
theorem d_in {Q : Value → Shared → Prop} (hu : A.units + 1 < cLine) (I : Inv X pins σ H s) (g : DGet H a y o) (ry : RelV y u) (h : ∀ s', Inv X pins σ H s' → Q (.bool o.isSome) s') :
    wpAny (model X.prog X.w) A (compareOp .In u (.ref a)) Q E s := by
  rcases g with ⟨kvs, k, e, ey, l⟩ | ⟨kvs, k, b, e, ey, eb, l⟩
  · subst ey
    obtain ⟨z, hd, vs, rel, dd⟩ := dk_rd I.hok e
    refine wpAny_in_of (kV_is ry) hd dd.mapOf ?_
    rw [← (rel.val k).isSome_eq, ← l]
    exact h _ (I.tok _)
  · subst ey
    cases (show u = Value.ref b from ry)
    obtain ⟨z, hd, xs, rel, dd⟩ := dt_rd I.hok e
    refine wpAny_in_heap (tupleKind_room_in1 hu) (key_of I.hok eb) hd dd ?_
    have q := (rel.val k).isSome_eq
    rw [Option.isSome_map] at q
    rw [← q, ← l]
    exact h _ (I.tok _)
theorem d_write {h' : Heap} {t' : Nat} {ob : HO} (I : Inv X pins σ H s) (mu : Mut (H a)) (hs : Heap.SameBut a s.heap h') (he : ∃ q, h'.get? a = some q) (new : ObjOk X.prog X.w (upd H a ob) h' a ob) :
    Inv X pins σ (upd H a ob) { s with heap := h', toks := t' } :=
  I.write (x := a) (e := a) mu (.inl rfl) (fun b q hb z => (hs.2 b hb).trans z) he new
theorem dk_new {P : Program} {w : World} {H' : Hp} {h' : Heap} {kvs : List (Key × V)} {vs : List (Key × Value)} (z : kvs.length ≤ sizeLine) (hd : (a == sysModules) = false) (rel : KV kvs vs) (dd : h'.DictOf (mixKind P w) a vs) :
    ObjOk P w H' h' a (.dK kvs) := ⟨z, hd, vs, rel, dd⟩
theorem d_setItem {H' : Hp} {Q : Unit → Shared → Prop} (hu : A.units + 1 < cLine) (I : Inv X pins σ H s) (g : DPut H a y v H') (ry : RelV y u) (rv : RelV v r) (h : ∀ s', Inv X pins σ H' s' → Q () s') :
    wpAny (model X.prog X.w) A (setItem (.ref a) u r) Q E s := by
  rcases g with ⟨kvs, k, e, ey, l, eH⟩ | ⟨kvs, k, b, e, ey, eb, l, eH⟩
  · subst ey eH
    obtain ⟨z, hd, vs, rel, dd⟩ := dk_of I.hok e
    have hz : vs.length ≤ sizeLine := by rw [← rel.length]; exact z
    have hl : (putK kvs k v).length ≤ sizeLine := by have := length_putK kvs k v; omega
    refine wpAny_setItem_pairs (hsz := hz) (kV_is ry) dd fun h' dd' hs => h _ ?_
    have he : ∃ q, h'.get? a = some q := let ⟨q, _, _, hq, _⟩ := dd'; ⟨q, hq⟩
    exact d_write I (by rw [e]; exact True.intro) hs he (dk_new hl hd (rel.put k rv) dd')
  · subst ey eH
    cases (show u = Value.ref b from ry)
    obtain ⟨z, hd, xs, rel, dd⟩ := dt_of I.hok e
    have hz : xs.length ≤ sizeLine := by rw [← Paired.length rel]; exact z
    have hl : (putK kvs k v).length ≤ sizeLine := by have := length_putK kvs k v; omega
    refine wpAny_setItem_heap (hsz := hz) (tupleKind_room_in1 hu) (key_of I.hok eb) dd fun h' dd' hs => h _ ?_
    obtain ⟨q, es, ep, hq, h2, h3, h4, _, h5⟩ := dd'
    refine d_write I (by rw [e]; exact True.intro) hs ⟨q, hq⟩ ⟨hl, hd, _, (rel.put k eb rv).keeps fun c ys ec => ?_, q, es, ep, hq, h2, h3, h4, h5⟩
    rw [upd_ne (ne_of ec e (fun z => nomatch z))]
    exact ec
end
section
variable {X : Cx} {pins : List (Addr × Obj)} {σ : St} {H : Hp} {s : Shared} {a : Addr} {kvs : List (Key × V)} {k : Key} {u : Value} {A : Around} {E : Value → Shared → Prop}
theorem d_pop {v : V} {more : List Value} {Q : Value → Shared → Prop} (I : Inv X pins σ H s) (e : H a = some (.dK kvs)) (ry : RelV (kV k) u) (l : valV kvs k = some v) (hm : more = [] ∨ ∃ x, more = [x])
    (h : ∀ w' s', Inv X pins σ (upd H a (.dK (dropK kvs k))) s' → RelV v w' → Q w' s') : wpAny (model X.prog X.w) A (call (.builtin "dict.pop") (.ref a :: u :: more)) Q E s := by
  obtain ⟨z, hd, vs, rel, dd⟩ := dk_of I.hok e
  obtain ⟨w', hw, rw'⟩ := RelO.some_of (v := v) (o := valueAt vs k) (by rw [← l]; exact rel.val k)
  have hp : (keyPart u).isSome = true := by
    cases k with
    | inl i => obtain ⟨t, q⟩ := (show ∃ t, u = Value.int i t from ry); subst q; rfl
    | inr x => obtain ⟨t, q⟩ := (show ∃ t, u = Value.str x t from ry); subst q; rfl
  have ha : argsOk "dict.pop" ⟨.ref a :: u :: more, []⟩ := by
    rcases hm with q | ⟨x, q⟩
    · subst q; exact PySem.F.args_dict_pop_2 _ _
    · subst q; exact PySem.F.args_dict_pop_3 _ _ _
  refine call_meetsIn PySem.F.slot_dict_pop dd.typeIs PySem.F.entry_dict_pop ha (meets_dict_pop_there (mixKind X.prog X.w) a (kV_is ry) more hm hp)
    ⟨vs, w', dd, by rw [← rel.length]; exact z, hw, fun h' dd' hs => h w' _ ?_ rw'⟩
  have he : ∃ q, h'.get? a = some q := let ⟨q, _, _, hq, _⟩ := dd'; ⟨q, hq⟩
  exact d_write I (by rw [e]; exact True.intro) hs he (dk_new (Nat.le_trans (dropK_le kvs k) z) hd (rel.drop k) dd')
theorem d_len {Q : Value → Shared → Prop} (I : Inv X pins σ H s) (e : Rd H a (.dK kvs)) (h : ∀ t s', Inv X pins σ H s' → Q (.int kvs.length t) s') : wpAny (model X.prog X.w) A (call (.builtin "len") [.ref a]) Q E s := by
  obtain ⟨z, hd, vs, rel, dd⟩ := dk_rd I.hok e
  refine call_len_dict hd dd (by rw [← rel.length]; rw [sizeLine_eq] at z; omega) ?_
  rw [← rel.length]
  exact h _ _ (I.tok _)
end
def NoSl (i : Expr) : Prop := ∀ ov iv, subscripted i false ov iv = operate [ov, iv] (getItem ov iv)
theorem subD_of {prog : Program} {w : World} {A : Around} {E : Value → Shared → Prop} {s : Shared} {env : Env} {value slice : Expr} {pos : Pos} {T id : String} {Q : Value → Shared → Prop}
    (hl : typeLookup (.type T) "__getitem__" = pure (some (.builtin id))) (hs : NoSl slice)
    (h : wpAny (model prog w) A (eval value env) (fun o s₁ => wpAny (model prog w) A (eval slice env) (fun i s₂ => s₂.TypeIs o T ∧ wpAny (model prog w) A (getItem o i) Q E s₂) E s₁) E s) :
    wpAny (model prog w) A (eval (.Subscript value slice pos) env) Q E s := by
  refine Subscript_ (wpAny_mono h (fun o s₁ h₁ => wpAny_mono h₁ (fun i s₂ h₂ => ?_) fun _ _ x => x) fun _ _ x => x)
  obtain ⟨hT, h₂⟩ := h₂
  unfold subscriptTail
  refine wpAny_bind ?_
  rw [getitemInPython_of_ne hT.not_modules]
  refine wpAny_bind (wpAny_specialOf hT hl ?_)
  have fin : wpAny (model prog w) A (subscripted slice false o i) (fun r s₃ => wpAny (model prog w) A (letTemporaryGo value o r >>= fun _ => pure r) Q E s₃) E s₂ := by
    rw [hs o i]
    exact wpAny_operating (wpAny_mono h₂ (fun r s₃ h₃ => wpAny_bind (wpAny_letTemporaryGo (wpAny_pure h₃))) fun _ _ x => x)
  first
    | exact wpAny_pure (wpAny_bind fin)
    | exact wpAny_bind (wpAny_pure (wpAny_bind fin))
    | exact wpAny_bind fin
theorem dict_typeIs {X : Cx} {pins : List (Addr × Obj)} {σ : St} {H : Hp} {s : Shared} {a : Addr} {y : V} {o : Option V} (I : Inv X pins σ H s) (g : DGet H a y o) : s.TypeIs (.ref a) "dict" := by
  rcases g with ⟨kvs, k, e, _, _⟩ | ⟨kvs, k, b, e, _, _, _⟩
  · obtain ⟨_, _, vs, _, dd⟩ := dk_rd I.hok e
    exact dd.typeIs
  · obtain ⟨_, _, xs, _, dd⟩ := dt_rd I.hok e
    exact dd.typeIs
def tDGet (td ty : TE) : TE := fun σ H Q => td σ H fun x H1 => ty σ H1 fun y H2 => ∃ a v, x = .ref a ∧ DGet H2 a y (some v) ∧ Q v H2
def tDIn (ty td : TE) : TE := fun σ H Q => ty σ H fun y H1 => td σ H1 fun x H2 => ∃ a o, x = .ref a ∧ DGet H2 a y o ∧ Q (.bl o.isSome) H2
def sDPut (td ty tv : TE) : TS := fun D σ H => tv σ H fun v H1 => td σ H1 fun x H2 => ty σ H2 fun y H3 => ∃ a H4, x = .ref a ∧ DPut H3 a y v H4 ∧ D.nx σ H4
section
variable {X : Cx} {o i e value : Expr} {pos pos' tpos : Pos} {td ty tv : TE}
theorem pe_dget (hu : X.A.units + 1 < cLine) (ho : PE X o td) (hi : PE X i ty) (hs : NoSl i) : PE X (.Subscript o i pos) (tDGet td ty) := by
  intro pins s σ H Q I h
  refine subD_of PySem.F.slot_dict_getitem.lookup hs (thn (ho pins s σ H _ I h) fun u s1 ⟨x, H1, I1, rx, q1⟩ => thn (hi pins s1 σ H1 _ I1 q1) fun iv s2 ⟨y, H2, I2, ry, a, v, ex, g, q2⟩ => ?_)
  subst ex
  obtain rfl : u = Value.ref a := rx
  exact ⟨dict_typeIs I2 g, d_getItem hu I2 g ry fun w' s3 I3 rw' => ⟨v, H2, I3, rw', q2⟩⟩
theorem pc_din (hu : X.A.units + 1 < cLine) (hi : PE X i ty) (ho : PE X o td) : PC X .In i o (tDIn ty td) := by
  intro pins s σ H Q I h
  refine thn (hi pins s σ H _ I h) fun iv s1 ⟨y, H1, I1, ry, q1⟩ => thn (ho pins s1 σ H1 _ I1 q1) fun u s2 ⟨x, H2, I2, rx, a, ov, ex, g, q2⟩ => ?_
  subst ex
  obtain rfl : u = Value.ref a := rx
  exact d_in hu I2 g ry fun s3 I3 => ⟨.bl ov.isSome, H2, I3, rfl, q2⟩
theorem ps_dput (hu : X.A.units + 1 < cLine) (ho : PE X o td) (hi : PE X i ty) (hv : PE X value tv) (hs : swapsWith value (some (.Subscript o i pos')) pos.line X.env = pure false) :
    PS X (.Assign [.Subscript o i pos'] value pos) (sDPut td ty tv) := by
  intro pins s σ H D I h
  refine wpAny_Assign_Subscript (thn (hv pins s σ H _ I h) fun r s1 ⟨v, H1, I1, rv, q1⟩ => thn (ho pins s1 σ H1 _ I1 q1) fun u s2 ⟨x, H2, I2, rx, q2⟩ => thn (hi pins s2 σ H2 _ I2 q2) fun iv s3 ⟨y, H3, I3, ry, a, H4, ex, g, q3⟩ => ?_) hs
  subst ex
  obtain rfl : u = Value.ref a := rx
  exact d_setItem hu I3 g ry rv fun s4 I4 => ⟨σ, H4, I4, q3⟩
end
theorem dk_empty {P : Program} {w : World} {H : Hp} (h : Heap) (hb : sysModules < h.objs.size) : ObjOk P w H (h.push { cls := .type "dict", data := .dict #[] }) h.objs.size (.dK []) :=
  ⟨Nat.zero_le _, beq_eq_false_iff_ne.mpr (Ne.symm (Nat.ne_of_lt hb)), [], .nil, Heap.DictOf.new h⟩
def tDNewK : TE := fun _ H Q => ∀ p, H p = none → Q (.ref p) (upd H p (.dK []))
section
variable {X : Cx} {pos : Pos}
theorem pe_dnewK : PE X (.Dict [] [] pos) tDNewK := fun pins s σ H Q I h =>
  wpAny_Dict_empty ⟨.ref s.heap.objs.size, _, I.laid (a := s.heap.objs.size) (o := .dK []) (t' := s.toks) (fun _ _ q => Heap.get?_push_of_some _ q) (Nat.le_refl _) (dk_empty s.heap I.big), rfl, h _ (I.hok.fresh (Nat.le_refl _))⟩
end
structure M1 (X : Cx) (o : Expr) (m : Str) (apos : Pos) (e : Expr) (cpos : Pos) : Prop where
  base : attributeBase o m X.env (eval o X.env) = eval o X.env
  few : ((backTo cpos (starEach [e] X.env)).all (fun x => !x.1) && (backToKw cpos (keywordEach [] X.env)).all (fun x => x.1.isSome)
    && decide (([e] : List Expr).length + ([] : List Keyword).length + (if ([] : List Keyword).isEmpty then 0 else 1) < 30)) = true
  line : (apos.endLine == cpos.line) = true
  trees : backTo cpos (starEach [e] X.env) = [(false, eval e X.env)]
def IsD (H : Hp) (a : Addr) : Prop := (∃ kvs, Rd H a (.dK kvs)) ∨ ∃ kvs, Rd H a (.dT kvs)
theorem isD_at {X : Cx} {pins : List (Addr × Obj)} {σ : St} {H : Hp} {s : Shared} {a : Addr} (I : Inv X pins σ H s) (d : IsD H a) :
    s.TypeIs (.ref a) "dict" ∧ (∀ b, Value.ref a = .ref b → ∃ ob, s.heap.get? b = some ob ∧ ob.dict = none) ∧ (a == sysModules) = false := by
  rcases d with ⟨kvs, e⟩ | ⟨kvs, e⟩
  · obtain ⟨_, hd, vs, _, dd⟩ := dk_rd I.hok e
    refine ⟨dd.typeIs, fun b q => ?_, hd⟩
    cases q
    obtain ⟨ob, _, _, h1, h2, _⟩ := dd
    exact ⟨ob, h1, h2.2.1⟩
  · obtain ⟨_, hd, xs, _, dd⟩ := dt_rd I.hok e
    refine ⟨dd.typeIs, fun b q => ?_, hd⟩
    cases q
    obtain ⟨ob, _, _, h1, h2, _⟩ := dd
    exact ⟨ob, h1, h2.2.1⟩
section
variable {X : Cx} {pins : List (Addr × Obj)} {σ : St} {H : Hp} {s : Shared} {a : Addr} {y d : V} {u r : Value} {o : Option V} {A : Around} {E : Value → Shared → Prop}
end
def tDPop1 (td ty : TE) : TE := fun σ H Q => td σ H fun x H1 => ∃ a, x = .ref a ∧ IsD H1 a ∧ ty σ H1 fun y H2 => ∃ kvs k v, H2 a = some (.dK kvs) ∧ y = kV k ∧ valV kvs k = some v ∧ Q v (upd H2 a (.dK (dropK kvs k)))
section
variable {X : Cx} {o e f : Expr} {apos cpos : Pos} {td ty tx : TE}
theorem pe_dpop1 (ho : PE X o td) (he : PE X e ty) (m : M1 X o "pop" apos e cpos) : PE X (.Call (.Attribute o "pop" apos) [e] [] cpos) (tDPop1 td ty) := by
  intro pins s σ H Q I h
  refine wpAny_Call_method m.base m.few m.line PySem.F.plainAttrs_dict PySem.F.slot_dict_pop PySem.F.type_dict_pop (thn (ho pins s σ H _ I h) fun u s1 ⟨x, H1, I1, rx, a, ex, d, q1⟩ => ?_)
  subst ex
  obtain rfl : u = Value.ref a := rx
  obtain ⟨t1, t2, _⟩ := isD_at I1 d
  refine ⟨t1, t2, ?_⟩
  rw [m.trees]
  refine Calls.callWith_builtin rfl (Calls.evalArgs_plain (Calls.spliced_cons (thn (he pins s1 σ H1 _ I1 q1) fun iv s2 ⟨y, H2, I2, ry, kvs, k, v, ea, ey, l, q2⟩ => Calls.spliced_nil ?_)))
  subst ey
  exact d_pop I2 ea ry l (.inl rfl) fun w' s3 I3 rw' => ⟨v, _, I3, rw', q2⟩
end
section
variable {X : Cx} {pins : List (Addr × Obj)} {σ : St} {H : Hp} {s : Shared} {a : Addr} {kvs : List (Key × V)} {A : Around} {E : Value → Shared → Prop}
end
section
variable {X : Cx} {pins : List (Addr × Obj)} {σ : St} {H : Hp} {s : Shared} {a : Addr} {y : V} {u : Value} {A : Around} {E : Value → Shared → Prop}
end
end L2
namespace L2
open PySem PySem.Spec PyProof.Rows
section
variable {prog : Program} {w : World} {A : Around} {E : Value → Shared → Prop}
end
section
variable {X : Cx}
end
end L2
namespace L2
open PySem PySem.Spec PyProof.Rows
section
variable {X : Cx} {pins : List (Addr × Obj)} {σ : St} {H : Hp} {s : Shared} {h' : Heap}
theorem Inv.lock {d : Addr} {u : HO} (I : Inv X pins σ H s) (h : H d = some u) (mu : Mut (some u)) : ∃ od, Inv X pins σ (upd H d (.frz od u)) s := by
  have x := I.hok d u h
  have ex : ∃ od, s.heap.get? d = some od := by
    cases u with
    | lst xs => obtain ⟨_, _, _, _, e⟩ := x; exact ⟨_, e⟩
    | dK kvs => obtain ⟨_, _, _, _, o, _, _, e, _⟩ := x; exact ⟨o, e⟩
    | dT kvs => obtain ⟨_, _, _, _, o, _, _, e, _⟩ := x; exact ⟨o, e⟩
    | set S n => obtain ⟨o, _, _, _, e, _⟩ := x; exact ⟨o, e⟩
    | ins C dx fs => obtain ⟨_, _, _, e, _⟩ := x; exact ⟨_, e⟩
    | ext φ => obtain ⟨_, ⟨_, e⟩, _⟩ := x; exact ⟨_, e⟩
    | _ => exact False.elim mu
  obtain ⟨od, e⟩ := ex
  have new : ObjOk X.prog X.w (upd H d (.frz od u)) s.heap d (.frz od u) := by
    refine ⟨e, x.stay (fun b v _ q => q) (fun b q => ?_) fun b xs q => ?_⟩
    · rw [upd_ne (fun z => by rw [z, h] at q; cases q; exact mu)]; exact q
    · rw [upd_ne (fun z => by rw [z, h] at q; cases q; exact mu)]; exact q
  exact ⟨od, I.write (x := d) (e := d) (t' := s.toks) (h' := s.heap) (by rw [h]; exact mu) (.inl rfl) (fun b v _ q => q) ⟨od, e⟩ new⟩
theorem Inv.nofrz {d : Addr} {u : HO} (I : Inv X pins σ H s) (h : H d = some u) (mu : Mut (some u)) : ∀ o' u', X.H_0 d ≠ some (.frz o' u') := fun o' u' e => by
  have q := I.base.frzs d o' u' e
  rw [h] at q
  cases q
  exact mu
theorem Inv.unlock {d : Addr} {od : Obj} {u : HO} (I : Inv X pins σ H s) (h : H d = some (.frz od u)) (hn : ∀ o' u', X.H_0 d ≠ some (.frz o' u')) : Inv X pins σ (upd H d u) s := by
  have neH : ∀ b o, H b = some o → (∀ o' u', o ≠ .frz o' u') → b ≠ d := fun b o e hne z => by
    rw [z, h] at e
    cases e
    exact hne _ _ rfl
  have neN : ∀ b, H b = none → b ≠ d := fun b e z => by rw [z, h] at e; cases e
  refine ⟨I.ok, I.os, I.bare, ⟨I.base.keep, I.base.slot, fun b o e n hx => ?_, I.base.there, fun b xs e => ?_, fun b o x e => ?_, fun b ps e => ?_⟩, I.loc, I.cell, ?_, fun x c e => ?_, fun p hp => ?_, fun b o e => ?_, I.len⟩
  · rw [upd_ne (neN b (I.base.free b o e n hx))]; exact I.base.free b o e n hx
  · have q := I.base.tups b xs e
    rw [upd_ne (neH b _ q (fun _ _ z => nomatch z))]; exact q
  · have q := I.base.frzs b o x e
    rw [upd_ne (fun z => by rw [z] at e; exact hn _ _ e)]; exact q
  · obtain ⟨m, q⟩ := I.base.tbls b ps e
    exact ⟨m, by rw [upd_ne (neH b _ q (fun _ _ z => nomatch z))]; exact q⟩
  · rw [upd_ne (neN _ I.free)]; exact I.free
  · rw [upd_ne (neN c (I.freeC x c e))]; exact I.freeC x c e
  · obtain ⟨e, n, r⟩ := I.pin p hp
    exact ⟨e, by rw [upd_ne (neN _ n)]; exact n, r⟩
  · by_cases hb : b = d
    · rw [hb, upd_same] at e
      cases e
      rw [hb]
      obtain ⟨_, x⟩ := I.hok d _ h
      exact x.stay (fun c v _ q => q) (fun c q => by rw [upd_ne (neH c _ q (fun _ _ z => nomatch z))]; exact q) fun c xs q => by rw [upd_ne (neH c _ q (fun _ _ z => nomatch z))]; exact q
    · rw [upd_ne hb] at e
      exact (I.hok b o e).stay (fun c v _ q => q) (fun c q => by rw [upd_ne (neH c _ q (fun _ _ z => nomatch z))]; exact q) fun c xs q => by rw [upd_ne (neH c _ q (fun _ _ z => nomatch z))]; exact q
end
def tLock (t : TS) : TS := fun D σ H => ∃ d u, H d = some u ∧ Mut (some u) ∧ ∀ od, t ⟨fun σ' H' => H' d = some (.frz od u) ∧ D.nx σ' (upd H' d u), fun v H' => H' d = some (.frz od u) ∧ D.rt v (upd H' d u), fun σ' H' => H' d = some (.frz od u) ∧ D.bk σ' (upd H' d u), fun σ' H' => H' d = some (.frz od u) ∧ D.ct σ' (upd H' d u)⟩ σ (upd H d (.frz od u))
def tLockE (t : TE) : TE := fun σ H Q => ∃ d u, H d = some u ∧ Mut (some u) ∧ ∀ od, t σ (upd H d (.frz od u)) fun v H' => H' d = some (.frz od u) ∧ Q v (upd H' d u)
section
variable {X : Cx}
theorem ps_lock {st : Stmt} {t : TS} (h : PS X st t) : PS X st (tLock t) := by
  intro pins s σ H D I hw
  obtain ⟨d, u, hd, mu, hw⟩ := hw
  obtain ⟨od, I1⟩ := I.lock hd mu
  refine thn (h pins s σ _ _ I1 (hw od)) fun f s1 q => ?_
  cases f with
  | next => obtain ⟨σ', H', I2, e, q⟩ := q; exact ⟨σ', _, I2.unlock e (I.nofrz hd mu), q⟩
  | brk => obtain ⟨σ', H', I2, e, q⟩ := q; exact ⟨σ', _, I2.unlock e (I.nofrz hd mu), q⟩
  | cont => obtain ⟨σ', H', I2, e, q⟩ := q; exact ⟨σ', _, I2.unlock e (I.nofrz hd mu), q⟩
  | ret v => obtain ⟨x, σ', H', I2, r, e, q⟩ := q; exact ⟨x, σ', _, I2.unlock e (I.nofrz hd mu), r, q⟩
theorem pe_lock {e : Expr} {t : TE} (h : PE X e t) : PE X e (tLockE t) := by
  intro pins s σ H Q I hw
  obtain ⟨d, u, hd, mu, hw⟩ := hw
  obtain ⟨od, I1⟩ := I.lock hd mu
  refine thn (h pins s σ _ _ I1 (hw od)) fun v s1 ⟨x, H1, I2, r, e2, q⟩ => ?_
  exact ⟨x, _, I2.unlock e2 (I.nofrz hd mu), r, q⟩
theorem pi_one {tg : Expr} {pins : List (Addr × Obj)} {σ : St} {H : Hp} {s : Shared} {R : It → Hp → Prop} {J : It} {tn : Nat → Heap → Prop} {tk : Nat} (I : Inv X pins σ H s) (o : Obj)
    (T : Turn X.prog X.w X.K tg J [s.heap.objs.size] s.heap.objs.size tn) (st : tn 0 (s.heap.push o)) (q : R J H) : PIE X pins σ tg R (.ref s.heap.objs.size) { s with heap := s.heap.push o, toks := tk } := by
  refine ⟨s.heap.objs.size, [s.heap.objs.size], tn, J, H, rfl, I.kept fun b ob e => Heap.get?_push_of_some _ e, T, st, fun b hb => ?_, q⟩
  have e : b = s.heap.objs.size := by simpa using hb
  subst e
  exact I.fpOk (Nat.le_refl _) (I.hok.fresh (Nat.le_refl _))
end
def Itc (lo c : Int) (n : Nat) : It := ⟨fun i _ => i < n, fun i H x H' => H' = H ∧ x = .int (lo + (i : Nat) * c), fun i _ => n ≤ i⟩
theorem turn_rangeC {P : Program} {w : World} {K : PySem.W.Frag} {tg : Expr} (it : Addr) (lo c : Int) (n : Nat) : Turn P w K tg (Itc lo c n) [it] it (fun i h => IsRangeIter h it (lo + (i : Nat) * c) ((n : Int) - (i : Nat)) c) where
  mem := by simp
  obj := fun i h st b hb => by
    have e : b = it := by simpa using hb
    subst e
    exact ⟨_, st, fun v z => nomatch z⟩
  keep := fun i h h' st k => k it (by simp) _ st
  item := by
    intro X hP hw hK hc i pins s σ H E I hf st hg
    subst hP hw hK
    obtain ⟨f0, f1, f2, f3, f4, f5⟩ := hf it (by simp)
    have W := Walks.range (prog := X.prog) (w := X.w) (I.ok.hd hc) it lo c n
    refine W.item i s _ _ hg st fun v h' tk hv st' kk => ?_
    obtain ⟨t, rfl⟩ := hv
    have I1 : Inv X pins σ H { s with heap := h', toks := tk } := I.turned (fun b o hb e => kk b o (by simpa using hb) e) f0 f1 f3 f4 f5
    exact ⟨_, rfl, go_of (s := { s with heap := h', toks := tk }) (n := "range_iterator") st' rfl rfl (by decide) ⟨.int (lo + (i : Nat) * c), H, I1, ⟨t, rfl⟩, ⟨rfl, rfl⟩, st', fun b hb => (hf b hb).1⟩⟩
  done := by
    intro X hP hw hK hc i pins s σ H E I hf st hg
    subst hP hw hK
    obtain ⟨f0, f1, f2, f3, f4, f5⟩ := hf it (by simp)
    exact wpAny_pyNext_range_end (I.ok.hd hc) st (by have : n ≤ i := hg; omega) fun h' eb => ⟨rfl, I.turned (t' := s.toks) (fun b o hb e => eb b o hb e) f0 f1 f3 f4 f5⟩
  self := fun A i s Q E st h => wpAny_pyIter_rangeiter st h
def RgC (i j c : Int) (n : Nat) : Prop := c ≠ 0 ∧ c.natAbs < 1073741824 ∧ Builtin.Range.small i j c = true ∧ Builtin.Range.rangeSize i j c = n
def iRng3 (ta : TA) : TI := fun σ H R => ta σ H fun vs H1 => ∃ (i j c : Int) (n : Nat), vs = [.int i, .int j, .int c] ∧ RgC i j c n ∧ R (Itc i c n) H1
section
variable {X : Cx} {tg : Expr}
theorem pi_range3 {a b c : Expr} {ta : TA} {p pos : Pos} (hg : Gl X "range") (hm : X.mg "range" = none) (ha : PA X [a, b, c] ta)
    (hs : starEach [a, b, c] X.env = (false, eval a X.env) :: starEach [b, c] X.env := by rfl) (hpl : (backTo pos (starEach [b, c] X.env)).any (·.1) = false := by rfl) :
    PI X tg (.Call (.Name "range" p) [a, b, c] [] pos) (iRng3 ta) := by
  intro pins s σ H R I h
  refine Call_ (ld_blt I hg hm boot_range (PyProof.Rows.callWith_type1 (thn (ha pos pins s σ H _ I h) fun us s1 ⟨vs, H1, I1, r1, q1⟩ => ?_) hs hpl))
  obtain ⟨i, j, k, n, e, ⟨c0, c1, c2, c3⟩, q⟩ := q1
  subst e
  cases r1 with
  | cons r rr =>
    cases rr with
    | cons r' rr =>
      cases rr with
      | cons r'' rr =>
        cases rr
        obtain ⟨t, rfl⟩ := r
        obtain ⟨t', rfl⟩ := r'
        obtain ⟨t'', rfl⟩ := r''
        refine call_range_3 c0 ?_ (.inl (PyProof.noPylong_small c1))
        refine wpAny_pyIter_range (IsRange.new ..) c2 ?_
        have I2 : Inv X pins σ H1 { s1 with heap := s1.heap.push { cls := .type "range", data := .fields #[.int i t, .int j t', .int k t''] } } := I1.kept (t' := s1.toks) fun b o e => Heap.get?_push_of_some _ e
        refine pi_one (tk := s1.toks) I2 _ (turn_rangeC _ i k n) ?_ q
        have e1 : i + ((0 : Nat) : Int) * k = i := by simp
        have e2 : (n : Int) - ((0 : Nat) : Int) = Builtin.Range.rangeSize i j k := by rw [c3]; simp
        show IsRangeIter _ _ (i + ((0 : Nat) : Int) * k) ((n : Int) - ((0 : Nat) : Int)) k
        rw [e1, e2]
        exact Heap.get?_push_size _ rfl
end
section
variable {X : Cx} {tg : Expr}
end
section
variable {prog : Program} {w : World} {A : Around} {E : Value → Shared → Prop} {s : Shared}
theorem iter_keys {d : Addr} {o : Obj} {es : Array DictEntry} {ep : Nat} {Q : Value → Shared → Prop} (hd : (d == sysModules) = false) (ho : s.heap.get? d = some o) (hc : o.ExactDict) (hdat : o.data = .dict es ep)
    (hQ : Q (.ref s.heap.objs.size) { s with heap := s.heap.push { cls := .type "dict_keyiterator", data := .fields #[.ref d, .int 0 0, .int es.size 0, .int ep 0] } }) :
    wpAny (model prog w) A (pyIter (.ref d)) Q E s := by
  have hT : s.TypeIs (.ref d) "dict" := ⟨o, ho, hc.1⟩
  refine wpAny_pyIter_slot hT F.slot_dict_iter (wpAny_call_entry F.slot_dict_iter hT F.entry_dict_iter ?_ (F.args_dict_iter_1 _))
  unfold Builtin.«dict.__iter__»
  refine wpAny_bind ?_
  unfold Builtin.Dict.dictSlotNone
  refine wpAny_bind (wpAny_notOrdered_dict hT ?_)
  show wpAny _ _ (pure (Value.ref d)) _ _ s
  refine wpAny_pure ?_
  show wpAny _ _ (Builtin.Dict.showsAll d >>= _) _ _ s
  unfold Builtin.Dict.showsAll
  rw [if_neg (by rw [hd]; exact Bool.false_ne_true)]
  refine wpAny_bind (wpAny_pure ?_)
  refine wpAny_bind (wpAny_dictEntries ho hdat ?_)
  refine wpAny_bind (wpAny_dictEpoch ho hdat ?_)
  refine wpAny_bind (wpAny_newObj_type (wpAny_pure ⟨_, rfl, "dict_keyiterator", _, ⟨_, Heap.get?_push_size _ rfl, rfl⟩, F.slot_dict_keyiterator_next.lookup, ?_⟩))
  simpa [rawInt] using hQ
theorem next_key_item {it d : Addr} {i n ep : Nat} {od : Obj} {es : Array DictEntry} {en : DictEntry} {Q : Option Value → Shared → Prop} (hit : s.heap.IsKeyIter it d i n ep) (hod : s.heap.get? d = some od) (hdd : od.data = .dict es ep)
    (hsz : es.size = n) (hx : es[i]? = some en) (hQ : ∀ h', h'.IsKeyIter it d (i + 1) n ep → Heap.SameBut it s.heap h' → Q (some en.key) { s with heap := h' }) : wpAny (model prog w) A (pyNext (.ref it)) Q E s := by
  obtain ⟨o, ho, hc, hd⟩ := id hit
  unfold pyNext
  refine wpAny_bind (wpAny_attempt (wpAny_callSpecial?_slot (name := Str.ofString "__next__") hit.typeIs F.slot_dict_keyiterator_next
    (wpAny_call_entry F.slot_dict_keyiterator_next hit.typeIs F.entry_dict_keyiterator_next ?_ (F.args_dict_keyiterator_next_1 _))))
  refine wpAny_bind (wpAny_pure ?_)
  refine wpAny_bind ?_
  refine wpAny_bind ?_
  first | refine wpAny_bind (wpAny_typeNameOfWhole_keyiter hit.typeIs (wpAny_pure ?_)) | refine wpAny_bind (wpAny_typeNameOf_keyiter hit.typeIs (wpAny_pure ?_))
  refine wpAny_bind (wpAny_fieldsOf ho hd ?_)
  have hown : Builtin.Dict_items.ownsTuple "dict_keyiterator" = false := by decide
  simp only [hown, Bool.false_eq_true, if_false]
  show wpAny _ _ (if (Value.ref d == Value.none) = true then _ else _) _ _ s
  rw [if_neg (show ¬ ((Value.ref d == Value.none) = true) from Bool.false_ne_true)]
  refine wpAny_bind (wpAny_pure ?_)
  refine wpAny_bind (wpAny_dictEntries hod hdd ?_)
  rw [if_neg (by rw [hsz]; simp)]
  refine wpAny_bind (wpAny_pure ?_)
  refine wpAny_bind (wpAny_dictEpoch hod hdd ?_)
  rw [if_neg (by simp)]
  refine wpAny_pure ?_
  obtain ⟨hlt', hen⟩ := Array.getElem?_eq_some_iff.mp hx
  simp only [show ¬ ((i : Int) < 0) from by omega, if_false, Int.toNat_natCast, Array.getElem?_eq_getElem hlt']
  refine wpAny_bind ?_
  first | refine wpAny_bind (wpAny_typeNameOfWhole_keyiter hit.typeIs (wpAny_pure ?_)) | refine wpAny_bind (wpAny_typeNameOf_keyiter hit.typeIs (wpAny_pure ?_))
  refine wpAny_bind (wpAny_isOneOf_keyiter hit.typeIs ?_)
  show wpAny _ _ (setField (.ref it) 1 (rawInt ((i : Int) + 1)) >>= _) _ _ s
  refine wpAny_bind (wpAny_setField ho hd (by simp) ?_)
  have hit' : (s.heap.update it (Obj.mapFields (·.setIfInBounds 1 (rawInt ((i : Int) + 1))))).IsKeyIter it d (i + 1) n ep :=
    ⟨_, Heap.get?_update_self _ ho (Obj.isFreed_of_fields (Obj.data_mapFields hd _)), (Obj.cls_mapFields ..).trans hc, by rw [Obj.data_mapFields hd]; simp [rawInt]⟩
  refine wpAny_bind (wpAny_holding ?_)
  refine wpAny_bind (wpAny_isOneOf_keyiter (s := { s with heap := s.heap.update it (Obj.mapFields (·.setIfInBounds 1 (rawInt ((i : Int) + 1)))) }) hit'.typeIs ?_)
  show wpAny _ _ (pure es[i].key) _ _ _
  rw [hen]
  exact wpAny_pure (wpAny_pure ⟨_, rfl, wpAny_pure (hQ _ hit' (Heap.SameBut.update ..))⟩)
theorem next_key_end {it d : Addr} {i n ep : Nat} {od : Obj} {es : Array DictEntry} {Q : Option Value → Shared → Prop} (hh : A.handled = none) (hit : s.heap.IsKeyIter it d i n ep) (hod : s.heap.get? d = some od) (hdd : od.data = .dict es ep)
    (hsz : es.size = n) (hge : n ≤ i) (hQ : ∀ h', Heap.ExtBut it s.heap h' → Q none { s with heap := h' }) : wpAny (model prog w) A (pyNext (.ref it)) Q E s := by
  obtain ⟨o, ho, hc, hd⟩ := id hit
  unfold pyNext
  refine wpAny_bind (wpAny_attempt (wpAny_callSpecial?_slot (name := Str.ofString "__next__") hit.typeIs F.slot_dict_keyiterator_next
    (wpAny_call_entry F.slot_dict_keyiterator_next hit.typeIs F.entry_dict_keyiterator_next ?_ (F.args_dict_keyiterator_next_1 _))))
  refine wpAny_bind (wpAny_pure ?_)
  refine wpAny_bind ?_
  refine wpAny_bind ?_
  first | refine wpAny_bind (wpAny_typeNameOfWhole_keyiter hit.typeIs (wpAny_pure ?_)) | refine wpAny_bind (wpAny_typeNameOf_keyiter hit.typeIs (wpAny_pure ?_))
  refine wpAny_bind (wpAny_fieldsOf ho hd ?_)
  have hown : Builtin.Dict_items.ownsTuple "dict_keyiterator" = false := by decide
  simp only [hown, Bool.false_eq_true, if_false]
  show wpAny _ _ (if (Value.ref d == Value.none) = true then _ else _) _ _ s
  rw [if_neg (show ¬ ((Value.ref d == Value.none) = true) from Bool.false_ne_true)]
  refine wpAny_bind (wpAny_pure ?_)
  refine wpAny_bind (wpAny_dictEntries hod hdd ?_)
  rw [if_neg (by rw [hsz]; simp)]
  refine wpAny_bind (wpAny_pure ?_)
  refine wpAny_bind (wpAny_dictEpoch hod hdd ?_)
  rw [if_neg (by simp)]
  refine wpAny_pure ?_
  have hge' : es.size ≤ i := by rw [hsz]; exact hge
  simp only [show ¬ ((i : Int) < 0) from by omega, if_false, Int.toNat_natCast, Array.getElem?_eq_none hge']
  refine wpAny_bind ?_
  first | refine wpAny_bind (wpAny_typeNameOfWhole_keyiter hit.typeIs (wpAny_pure ?_)) | refine wpAny_bind (wpAny_typeNameOf_keyiter hit.typeIs (wpAny_pure ?_))
  show wpAny _ _ (setField (.ref it) 0 .none >>= _) _ _ s
  refine wpAny_bind (wpAny_setField ho hd (by simp) ?_)
  show wpAny _ _ (newExc (.type "StopIteration") [] >>= _) _ _ _
  refine wpAny_bind ?_
  simp only [newExc, newTuple]
  refine wpAny_bind (wpAny_newObj_type ?_ (by size_fits))
  refine wpAny_bind (m := firstArgMember _ _) (wpAny_of_eq (a := Value.none) (by first | rfl | (simp only [firstArgMember]; rfl)) ?_)
  refine wpAny_newObj_type ?_ (by size_fits)
  simp only [raiseNew]
  refine wpAny_bind (wpAny_handled ?_)
  rw [show A.in1.handled = none from hh]
  refine wpAny_bind (wpAny_pure (wpAny_throw ?_))
  refine wpAny_bind (wpAny_isInstance (T := "StopIteration") (b := true) ⟨_, Heap.get?_push_size _ rfl, rfl⟩ isSubtype_stop ?_)
  exact wpAny_pure (hQ _ (((Heap.SameBut.update ..).extBut.push _).push _))
end
theorem kv_get {κ : Type} {kvs : List (κ × V)} {vs : List (κ × Value)} (h : KV kvs vs) : ∀ {i : Nat} {k : κ} {v : V}, kvs[i]? = some (k, v) → ∃ u, vs[i]? = some (k, u) ∧ RelV v u := by
  unfold KV at h
  induction h with
  | nil => intro i k v e; simp at e
  | @cons a b l₁ l₂ r t ih =>
    intro i k v e
    cases i with
    | zero =>
      simp only [List.getElem?_cons_zero, Option.some.injEq] at e
      subst e
      refine ⟨b.2, ?_, r.2⟩
      simp only [List.getElem?_cons_zero]
      exact congrArg some (Prod.ext r.1.symm rfl)
    | succ j =>
      simp only [List.getElem?_cons_succ] at e ⊢
      exact ih e
theorem paired_get {α β : Type} {G : α → β → Prop} {l₁ : List α} {l₂ : List β} (h : Paired G l₁ l₂) : ∀ {i : Nat} {a : α}, l₁[i]? = some a → ∃ b, l₂[i]? = some b ∧ G a b := by
  induction h with
  | nil => intro i a e; simp at e
  | @cons a b l₁ l₂ r t ih =>
    intro i a' e
    cases i with
    | zero =>
      simp only [List.getElem?_cons_zero, Option.some.injEq] at e
      subst e
      exact ⟨b, rfl, r⟩
    | succ j =>
      simp only [List.getElem?_cons_succ] at e ⊢
      exact ih e
theorem relV_key {k : Key} {u : Value} (h : keyIs k u = true) : RelV (kV k) u := by
  rcases keyIs_shape h with ⟨i, t, rfl, rfl⟩ | ⟨x, t, rfl, rfl⟩
  · exact ⟨t, rfl⟩
  · exact ⟨t, rfl⟩
section
variable {X : Cx} {pins : List (Addr × Obj)} {σ : St} {H : Hp} {s : Shared} {d : Addr} {o : Obj}
theorem Inv.frzK {kvs : List (Key × V)} (I : Inv X pins σ H s) (h : H d = some (.frz o (.dK kvs))) :
    (d == sysModules) = false ∧ s.heap.get? d = some o ∧ o.ExactDict ∧ ∃ (es : Array DictEntry) (ep : Nat) (vs : List (Key × Value)), o.data = .dict es ep ∧ es.size = kvs.length ∧ KV kvs vs ∧ s.heap.DictAt (mixKind X.prog X.w) d vs ep := by
  obtain ⟨hd, z, hs, vs, kv, o', es, ep, ho, hx, hdt, r⟩ := I.hok d _ h
  rw [hd] at ho
  cases ho
  refine ⟨hs, hd, hx, es, ep, vs, hdt, ?_, kv, o, es, hd, hx, hdt, r⟩
  have l1 := r.2.1.length
  have l2 : kvs.length = vs.length := Paired.length kv
  rw [Array.length_toList] at l1
  omega
theorem Inv.frzT {kvs : List (List Key × V)} (I : Inv X pins σ H s) (h : H d = some (.frz o (.dT kvs))) :
    (d == sysModules) = false ∧ s.heap.get? d = some o ∧ o.ExactDict ∧ ∃ (es : Array DictEntry) (ep : Nat), o.data = .dict es ep ∧ es.size = kvs.length ∧
      ∀ (i : Nat) (k : List Key) (v : V), kvs[i]? = some (k, v) → ∃ (en : DictEntry) (q : Addr), es[i]? = some en ∧ en.key = .ref q ∧ H q = some (.tup (k.map kV)) := by
  obtain ⟨hd, z, hs, xs, pr, o', es, ep, ho, hx, hdt, he, _⟩ := I.hok d _ h
  rw [hd] at ho
  cases ho
  refine ⟨hs, hd, hx, es, ep, hdt, ?_, fun i k v e => ?_⟩
  · have l1 : es.size = xs.length := size_of_entries he
    have l2 : kvs.length = xs.length := Paired.length pr
    omega
  · obtain ⟨b, hb, e1, e2, _⟩ := paired_get pr e
    have q := entry_at he i
    rw [hb] at q
    exact ⟨_, b.2.1, q, rfl, e2⟩
end
def Itk (d : Addr) (o : Obj) (kvs : List (Key × V)) : It :=
  ⟨fun i H => H d = some (.frz o (.dK kvs)) ∧ i < kvs.length, fun i H x H' => H' = H ∧ ∃ k v, kvs[i]? = some (k, v) ∧ x = kV k, fun i H => H d = some (.frz o (.dK kvs)) ∧ kvs.length ≤ i⟩
def Itkt (d : Addr) (o : Obj) (kvs : List (List Key × V)) : It :=
  ⟨fun i H => H d = some (.frz o (.dT kvs)) ∧ i < kvs.length, fun i H x H' => H' = H ∧ ∃ (k : List Key) (v : V) (q : Addr), kvs[i]? = some (k, v) ∧ x = .ref q ∧ H q = some (.tup (k.map kV)), fun i H => H d = some (.frz o (.dT kvs)) ∧ kvs.length ≤ i⟩
def Itd (d : Addr) (o : Obj) (kvs : List (Key × V)) : It :=
  ⟨fun i H => H d = some (.frz o (.dK kvs)) ∧ i < kvs.length, fun i H x H' => H' = H ∧ ∃ k, kvs[i]? = some (k, x), fun i H => H d = some (.frz o (.dK kvs)) ∧ kvs.length ≤ i⟩
theorem dict_ep {o : Obj} {es es' : Array DictEntry} {ep ep' : Nat} (h : o.data = .dict es ep) (h' : o.data = .dict es' ep') : es' = es ∧ ep' = ep := by
  rw [h] at h'
  cases h'
  exact ⟨rfl, rfl⟩
section
variable {P : Program} {w : World} {K : PySem.W.Frag} {tg : Expr} {d : Addr} {o : Obj} {es : Array DictEntry} {ep : Nat}
theorem turn_keys {kvs : List (Key × V)} (it : Addr) (hod : o.data = .dict es ep) : Turn P w K tg (Itk d o kvs) [it] it (fun i h => h.IsKeyIter it d i kvs.length ep) where
  mem := by simp
  obj := fun i h st b hb => by
    have e : b = it := by simpa using hb
    subst e
    obtain ⟨oi, e, c, dd⟩ := st
    exact ⟨oi, e, fun v z => by rw [dd] at z; cases z⟩
  keep := fun i h h' st k => st.at fun oi e => k it (by simp) oi e
  item := by
    intro X hP hw hK hc i pins s σ H E I hf st hg
    subst hP hw hK
    obtain ⟨hd, hi⟩ := hg
    obtain ⟨f0, f1, f2, f3, f4, f5⟩ := hf it (by simp)
    obtain ⟨hs, hgd, hx, es', ep', vs, hdt, hsz, kv, hm⟩ := I.frzK hd
    obtain ⟨rfl, rfl⟩ := dict_ep hod hdt
    obtain ⟨⟨k, v⟩, hkv⟩ : ∃ p, kvs[i]? = some p := ⟨kvs[i], List.getElem?_eq_getElem hi⟩
    obtain ⟨u, hu, ru⟩ := kv_get kv hkv
    have hl : kvs.length = vs.length := Paired.length kv
    rw [hl] at st
    refine wpAny_pyNext_dict_item st hm hu fun key h' hkey st' sb => ?_
    have I1 : Inv X pins σ H { s with heap := h' } := I.turned (t' := s.toks) (fun b ob hb e => (sb.2 b hb).trans e) f0 f1 f3 f4 f5
    obtain ⟨oi, e, c, dd⟩ := id st'
    refine ⟨key, rfl, go_of (s := { s with heap := h' }) e c dd (by decide) ⟨kV k, H, I1, relV_key (show keyIs k key = true from hkey), ⟨rfl, k, v, hkv, rfl⟩, ?_, fun b hb => (hf b hb).1⟩⟩
    show h'.IsKeyIter it d (i + 1) kvs.length _
    rw [hl]
    exact st'
  done := by
    intro X hP hw hK hc i pins s σ H E I hf st hg
    subst hP hw hK
    obtain ⟨hd, hi⟩ := hg
    obtain ⟨f0, f1, f2, f3, f4, f5⟩ := hf it (by simp)
    obtain ⟨hs, hgd, hx, es', ep', vs, hdt, hsz, kv, hm⟩ := I.frzK hd
    obtain ⟨rfl, rfl⟩ := dict_ep hod hdt
    exact next_key_end (I.ok.hd hc) st hgd hdt hsz hi fun h' eb => ⟨rfl, I.turned (t' := s.toks) (fun b ob hb e => eb b ob hb e) f0 f1 f3 f4 f5⟩
  self := fun A i s Q E st h => wpAny_pyIter_keyiter st h
theorem turn_keysT {kvs : List (List Key × V)} (it : Addr) (hod : o.data = .dict es ep) : Turn P w K tg (Itkt d o kvs) [it] it (fun i h => h.IsKeyIter it d i kvs.length ep) where
  mem := by simp
  obj := fun i h st b hb => by
    have e : b = it := by simpa using hb
    subst e
    obtain ⟨oi, e, c, dd⟩ := st
    exact ⟨oi, e, fun v z => by rw [dd] at z; cases z⟩
  keep := fun i h h' st k => st.at fun oi e => k it (by simp) oi e
  item := by
    intro X hP hw hK hc i pins s σ H E I hf st hg
    subst hP hw hK
    obtain ⟨hd, hi⟩ := hg
    obtain ⟨f0, f1, f2, f3, f4, f5⟩ := hf it (by simp)
    obtain ⟨hs, hgd, hx, es', ep', hdt, hsz, ent⟩ := I.frzT hd
    obtain ⟨rfl, rfl⟩ := dict_ep hod hdt
    obtain ⟨⟨k, v⟩, hkv⟩ : ∃ p, kvs[i]? = some p := ⟨kvs[i], List.getElem?_eq_getElem hi⟩
    obtain ⟨en, q, hen, hkey, hq⟩ := ent i k v hkv
    refine next_key_item st hgd hdt hsz hen fun h' st' sb => ?_
    have I1 : Inv X pins σ H { s with heap := h' } := I.turned (t' := s.toks) (fun b ob hb e => (sb.2 b hb).trans e) f0 f1 f3 f4 f5
    obtain ⟨oi, e, c, dd⟩ := id st'
    exact ⟨en.key, rfl, go_of (s := { s with heap := h' }) e c dd (by decide) ⟨.ref q, H, I1, hkey, ⟨rfl, k, v, q, hkv, rfl, hq⟩, st', fun b hb => (hf b hb).1⟩⟩
  done := by
    intro X hP hw hK hc i pins s σ H E I hf st hg
    subst hP hw hK
    obtain ⟨hd, hi⟩ := hg
    obtain ⟨f0, f1, f2, f3, f4, f5⟩ := hf it (by simp)
    obtain ⟨hs, hgd, hx, es', ep', hdt, hsz, ent⟩ := I.frzT hd
    obtain ⟨rfl, rfl⟩ := dict_ep hod hdt
    exact next_key_end (I.ok.hd hc) st hgd hdt hsz hi fun h' eb => ⟨rfl, I.turned (t' := s.toks) (fun b ob hb e => eb b ob hb e) f0 f1 f3 f4 f5⟩
  self := fun A i s Q E st h => by
    refine wpAny_pyIter_slot st.typeIs F.slot_dict_keyiterator_iter (wpAny_call_entry F.slot_dict_keyiterator_iter st.typeIs F.entry_dict_keyiterator_iter ?_ (F.args_dict_keyiterator_iter_1 _))
    show wpAny _ _ (ret (.ref it)) _ _ s
    exact wpAny_pure ⟨_, rfl, "dict_keyiterator", _, st.typeIs, F.slot_dict_keyiterator_next.lookup, h⟩
theorem turn_vals {kvs : List (Key × V)} (it : Addr) (hod : o.data = .dict es ep) : Turn P w K tg (Itd d o kvs) [it] it (fun i h => h.IsValIter it d i kvs.length ep) where
  mem := by simp
  obj := fun i h st b hb => by
    have e : b = it := by simpa using hb
    subst e
    obtain ⟨oi, e, c, dd⟩ := st
    exact ⟨oi, e, fun v z => by rw [dd] at z; cases z⟩
  keep := fun i h h' st k => st.at fun oi e => k it (by simp) oi e
  item := by
    intro X hP hw hK hc i pins s σ H E I hf st hg
    subst hP hw hK
    obtain ⟨hd, hi⟩ := hg
    obtain ⟨f0, f1, f2, f3, f4, f5⟩ := hf it (by simp)
    obtain ⟨hs, hgd, hx, es', ep', vs, hdt, hsz, kv, hm⟩ := I.frzK hd
    obtain ⟨rfl, rfl⟩ := dict_ep hod hdt
    obtain ⟨⟨k, v⟩, hkv⟩ : ∃ p, kvs[i]? = some p := ⟨kvs[i], List.getElem?_eq_getElem hi⟩
    obtain ⟨u, hu, ru⟩ := kv_get kv hkv
    have hl : kvs.length = vs.length := Paired.length kv
    rw [hl] at st
    refine wpAny_pyNext_values_item st hm hu fun h' st' sb => ?_
    have I1 : Inv X pins σ H { s with heap := h' } := I.turned (t' := s.toks) (fun b ob hb e => (sb.2 b hb).trans e) f0 f1 f3 f4 f5
    obtain ⟨oi, e, c, dd⟩ := id st'
    refine ⟨u, rfl, go_of (s := { s with heap := h' }) e c dd (by decide) ⟨v, H, I1, ru, ⟨rfl, k, hkv⟩, ?_, fun b hb => (hf b hb).1⟩⟩
    show h'.IsValIter it d (i + 1) kvs.length _
    rw [hl]
    exact st'
  done := by
    intro X hP hw hK hc i pins s σ H E I hf st hg
    subst hP hw hK
    obtain ⟨hd, hi⟩ := hg
    obtain ⟨f0, f1, f2, f3, f4, f5⟩ := hf it (by simp)
    obtain ⟨hs, hgd, hx, es', ep', vs, hdt, hsz, kv, hm⟩ := I.frzK hd
    obtain ⟨rfl, rfl⟩ := dict_ep hod hdt
    have hl : kvs.length = vs.length := Paired.length kv
    rw [hl] at st
    exact wpAny_pyNext_values_end (I.ok.hd hc) st hm (List.getElem?_eq_none (by omega)) fun h' eb => ⟨rfl, I.turned (t' := s.toks) (fun b ob hb e => eb b ob hb e) f0 f1 f3 f4 f5⟩
  self := fun A i s Q E st h => wpAny_pyIter_valiter st h
end
def iKeys (td : TE) : TI := fun σ H R => td σ H fun x H1 => ∃ d o, x = .ref d ∧ ((∃ kvs, H1 d = some (.frz o (.dK kvs)) ∧ R (Itk d o kvs) H1) ∨ ∃ kvs, H1 d = some (.frz o (.dT kvs)) ∧ R (Itkt d o kvs) H1)
def iVals (td : TE) : TI := fun σ H R => td σ H fun x H1 => ∃ d o kvs, x = .ref d ∧ H1 d = some (.frz o (.dK kvs)) ∧ R (Itd d o kvs) H1
section
variable {X : Cx} {tg e : Expr} {td : TE} {apos cpos : Pos}
theorem pi_keys (he : PE X e td) : PI X tg e (iKeys td) := by
  intro pins s σ H R I h
  refine thn (he pins s σ H _ I h) fun u s1 ⟨x, H1, I1, rx, d, o, ex, q⟩ => ?_
  subst ex
  obtain rfl : u = Value.ref d := rx
  rcases q with ⟨kvs, hd, q⟩ | ⟨kvs, hd, q⟩
  · obtain ⟨hs, hgd, hx, es, ep, vs, hdt, hsz, kv, hm⟩ := I1.frzK hd
    refine iter_keys hs hgd hx hdt (pi_one (tk := s1.toks) I1 _ (turn_keys _ hdt) ⟨_, Heap.get?_push_size _ rfl, rfl, ?_⟩ q)
    rw [hsz] <;> rfl
  · obtain ⟨hs, hgd, hx, es, ep, hdt, hsz, ent⟩ := I1.frzT hd
    refine iter_keys hs hgd hx hdt (pi_one (tk := s1.toks) I1 _ (turn_keysT _ hdt) ⟨_, Heap.get?_push_size _ rfl, rfl, ?_⟩ q)
    rw [hsz] <;> rfl
theorem pi_values (he : PE X e td) (hbase : attributeBase e "values" X.env (eval e X.env) = eval e X.env := by rfl) (hline : (apos.endLine == cpos.line) = true := by rfl) : PI X tg (.Call (.Attribute e "values" apos) [] [] cpos) (iVals td) := by
  intro pins s σ H R I h
  refine wpAny_Call_method (T := "dict") (id := "dict.values") hbase rfl hline F.plainAttrs_dict F.slot_dict_values F.type_dict_values (thn (he pins s σ H _ I h) fun u s1 ⟨x, H1, I1, rx, d, o, kvs, ex, hd, q⟩ => ?_)
  subst ex
  obtain rfl : u = Value.ref d := rx
  obtain ⟨hs, hgd, hx, es, ep, vs, hdt, hsz, kv, hm⟩ := I1.frzK hd
  have hl : kvs.length = vs.length := Paired.length kv
  refine ⟨hm.dictOf.typeIs, hm.dictOf.mapOf.noDict, ?_⟩
  have I2 : Inv X pins σ H1 { s1 with heap := s1.heap.push { cls := .type "dict_values", data := .fields #[.ref d] } } := I1.kept (t' := s1.toks) fun b ob q => Heap.get?_push_of_some _ q
  have fin : wpAny (model X.prog X.w) X.A (pyIter (.ref s1.heap.objs.size)) (PIE X pins σ tg R) X.xe { s1 with heap := s1.heap.push { cls := .type "dict_values", data := .fields #[.ref d] } } := by
    refine wpAny_pyIter_values (d := d) (knd := mixKind X.prog X.w) ⟨_, Heap.get?_push_size _ rfl, rfl, rfl⟩ (hm.push _) (pi_one (tk := s1.toks) I2 _ (turn_vals _ hdt) ⟨_, Heap.get?_push_size _ rfl, rfl, ?_⟩ q)
    rw [hl] <;> rfl
  show wpAny _ _ (callWith cpos (.builtin "dict.values") [.ref d] [] []) _ X.xe s1
  exact method_meetsIn F.slot_dict_values F.entry_dict_values rfl (PySem.evalArgs_none ⟨rfl, hm.dictOf.typeIs, F.args_dict_values_1 _, _, meets_dict_values (mixKind X.prog X.w) d hs, ⟨vs, hm.dictOf⟩, fin⟩)
end
end L2
section
namespace Bits
open PySem PyProof.Rows
end Bits
end
section
namespace TL
open PySem PySem.Builtin PySem.Builtin.Str PySem.StrLaws
abbrev tl (x : Str) : List Nat := x.cps.toList
def pre (S l : List Nat) : Bool := l.take S.length == S
def par (S : List Nat) : List Nat → List Nat → Option (List Nat × List Nat)
  | _, [] => none
  | acc, c :: r => if pre S (c :: r) = true then some (acc, (c :: r).drop S.length) else par S (acc ++ [c]) r
end TL
end
namespace L2
open PySem PySem.Spec PyProof.Rows
section
variable {X : Cx} {pins : List (Addr × Obj)} {σ : St} {H : Hp} {s : Shared} {Q : VK}
end
section
variable {X : Cx}
end
section
variable {X : Cx} {o e : Expr} {to te : TE}
end
end L2
namespace L2
open PySem PySem.Spec PyProof.Rows
section
variable {X : Cx}
end
theorem IsPart.raw {v : Value} {o : Option Int} (p : IsPart v o) : ∃ l : Option (Int × Tok), v = partValue l ∧ l.map (·.1) = o := by
  cases p with
  | none => exact ⟨none, rfl, rfl⟩
  | int i t => exact ⟨some (i, t), rfl, rfl⟩
end L2
namespace Att
open PySem PySem.W PySem.Calls PyProof.Rows
section
variable {prog : Program} {w : World} {A : Around} {E : Value → Shared → Prop} {s : Shared} {K : Frag}
end
end Att
namespace L2
open PySem PySem.Spec PyProof.Rows
end L2
namespace L2
open PySem PySem.Spec PyProof.Rows
end L2
namespace L2
open PySem PySem.Spec PyProof.Rows
def inClass (s : Stmt) (j : Nat) : Stmt := match s with
  | .ClassDef _ _ _ body _ _ _ _ _ _ _ => body.getD j (.Pass ⟨0, 0, 0, 0⟩)
  | _ => .Pass ⟨0, 0, 0, 0⟩
def defArgs (s : Stmt) : Arguments := match s with
  | .FunctionDef _ a _ _ _ _ _ _ _ _ => a
  | _ => { posonlyargs := [], args := [], vararg := none, kwonlyargs := [], kw_defaults := [], kwarg := none, defaults := [] }
def defBody (s : Stmt) : List Stmt := match s with
  | .FunctionDef _ _ b _ _ _ _ _ _ _ => b
  | _ => []
def defScope (s : Stmt) : Scope := match s with
  | .FunctionDef _ _ _ _ _ _ sc _ _ _ => sc
  | _ => { kind := .function, names := [], isGenerator := false, isCoroutine := false }
abbrev CX0 : CXT := fun _ _ _ _ _ _ => False
abbrev E0 : XK := fun _ _ _ => False
theorem pass0 {X : Cx} : Passes CX0 X E0 := fun _ _ _ _ _ _ _ h => h.elim
structure Fun (K : PySem.W.Frag) (x qual : Str) (st : Stmt) (f : Addr) (fd : FuncData) : Prop where
  ex : ∃ (oc : Value) (od : Option Addr) (kV doc pm : Value) (an : Option Addr) (cdv ct : Value) (osl : Array (Option Value)),
    fd = PySem.W.fnOf x qual (defArgs st) (defBody st) (defScope st) .none kV doc pm an cdv ct ∧ K.lookup f = some ⟨oc, od, .func fd, osl⟩ ∧ PySem.W.codeIn K cdv qual = true
  kp : PySem.W.keepIn K (.ref f) = true
section
variable {P : Program} {w : World} {K : PySem.W.Frag} {mg : Str → Option Value} {base : Heap}
theorem Fun.ok {x qual : Str} {st : Stmt} {f : Addr} {fd : FuncData} {N ps : List Str} {k : Nat} {sp : Sp} (F : Fun K x qual st f fd) (S : FnScope N ps (defScope st)) (len : ∀ vs H Q E, sp vs H Q E → vs.length = ps.length)
    (hbody : ∀ (cdv : Value) (A : Around) (outer : List Env) (s : Shared) (H : Hp) (vs : List V) (Q : VK) (E : XK), Room k (A.deeper (envOfC qual (defScope st) s.heap.objs.size f cdv)) → sp vs H Q E →
      ∃ t, PSs (cxOf CX0 P w K mg base N qual (defScope st) f cdv A outer s H E).nox (defBody st) t ∧ t { nx := fun _ H' => Q .non H', rt := Q } (start N vs) H) : FnOk P w K mg base CX0 (k + 1) f fd ps sp := by
  obtain ⟨oc, od, kV, doc, pm, an, cdv, ct, osl, rfl, lk, hcd⟩ := F.ex
  refine fn_of lk hcd S len fun A outer s H vs Q E hr hsp => ?_
  obtain ⟨t, h, q⟩ := hbody cdv A outer s H vs Q E hr hsp
  exact ⟨t, h.nox, q⟩
theorem Fun.binds {x qual : Str} {st : Stmt} {f : Addr} {fd : FuncData} {ps : List Str} (F : Fun K x qual st f fd)
    (h : ∀ (kV doc pm : Value) (an : Option Addr) (cdv ct : Value) (us : List Value), us.length = ps.length → bindArgs (PySem.W.fnOf x qual (defArgs st) (defBody st) (defScope st) .none kV doc pm an cdv ct) ⟨us, []⟩ = pure (ps.zip us)) : Binds K fd ps [] := by
  obtain ⟨oc, od, kV, doc, pm, an, cdv, ct, osl, rfl, lk, hcd⟩ := F.ex
  exact .all (h kV doc pm an cdv ct)
theorem fun_mk {x qual : Str} {st : Stmt} {f : Addr} {oc : Value} {od an : Option Addr} {osl : Array (Option Value)} {kV doc pm cdv ct : Value} (l : K.lookup f = some ⟨oc, od, .func (PySem.W.fnOf x qual (defArgs st) (defBody st) (defScope st) .none kV doc pm an cdv ct), osl⟩)
    (c : PySem.W.codeIn K cdv qual = true) (k : PySem.W.keepIn K (.ref f) = true) : Fun K x qual st f (PySem.W.fnOf x qual (defArgs st) (defBody st) (defScope st) .none kV doc pm an cdv ct) := ⟨⟨oc, od, kV, doc, pm, an, cdv, ct, osl, rfl, l, c⟩, k⟩
end
theorem hu_of {A : Around} {k : Nat} (hr : Room k A) : A.units + 1 < cLine := Nat.lt_of_le_of_lt (Nat.add_le_add_left (by decide : 1 ≤ 64) _) hr.units
section
variable {X : Cx}
theorem pv (i : Nat) {x : Str} {pos : Pos} (hN : X.N[i]? = some x := by rfl) (hv : Vis X.env.scope x := by first | exact Or.inl rfl | exact Or.inr (Or.inl rfl) | exact Or.inr (Or.inr rfl)) (hd : (x == ("__debug__" : Str)) = false := by decide)
    (hcd : (x == ("__classdict__" : Str)) = false := by decide) : PE X (.Name x pos) (tVar i) := pe_var hN hv hd hcd
theorem call_lenD : CallR X (.builtin "len") (fun xs H Q => ∃ a kvs, xs = [V.ref a] ∧ H a = some (.dK kvs) ∧ Q (.int kvs.length) H) := by
  intro pins s σ H xs us Q I r h
  obtain ⟨a, kvs, rfl, ha, q⟩ := h
  obtain ⟨u, rfl, ru⟩ := vals1 r
  cases ru
  exact d_len I (.inl ha) fun t s' I' => ⟨.int kvs.length, H, I', ⟨t, rfl⟩, q⟩
end
theorem iteF {A B : Prop} (h : B) : if false = true then A else B := by
  rw [if_neg Bool.false_ne_true]
  exact h
theorem iteT {A B : Prop} (h : A) : if true = true then A else B := by
  rw [if_pos rfl]
  exact h
theorem ite2 {c A B : Prop} [Decidable c] (h1 : c → A) (h2 : ¬ c → B) : if c then A else B := by
  by_cases h : c
  · rw [if_pos h]
    exact h1 h
  · rw [if_neg h]
    exact h2 h
def Same (H H' : Hp) : Prop := ∀ b o, H b = some o → H' b = some o
theorem Same.refl (H : Hp) : Same H H := fun _ _ h => h
theorem Same.trans {H H1 H2 : Hp} (a : Same H H1) (b : Same H1 H2) : Same H H2 := fun c o h => b c o (a c o h)
theorem Same.free {H H' : Hp} (e : Same H H') {l : Addr} (h : H' l = Option.none) : H l = Option.none := by
  cases q : H l with
  | none => rfl
  | some o =>
    rw [e l o q] at h
    cases h
theorem Same.seq {K : PySem.W.Frag} {H H' : Hp} {a : Addr} {xs : List V} (e : Same H H') (h : SqL K H a xs) : SqL K H' a xs := by
  rcases h with (h | ⟨o, h⟩) | h
  · exact .inl (.inl (e _ _ h))
  · exact .inl (.inr ⟨o, e _ _ h⟩)
  · exact .inr h
section
variable {κ : Type} [DecidableEq κ]
theorem nd_snoc : ∀ {l : List κ} {k : κ}, l.Nodup → ¬ k ∈ l → (l ++ [k]).Nodup
  | [], k, _, _ => by simp
  | a :: r, k, h, hk => by
    obtain ⟨h1, h2⟩ := List.nodup_cons.mp h
    show (a :: (r ++ [k])).Nodup
    refine List.nodup_cons.mpr ⟨fun m => ?_, nd_snoc h2 fun m => hk (List.mem_cons.mpr (Or.inr m))⟩
    rcases List.mem_append.mp m with q | q
    · exact h1 q
    · exact hk (List.mem_cons.mpr (Or.inl (List.mem_singleton.mp q).symm))
end
theorem at_of {xs : List V} {z : Int} {j : Nat} {v : V} (e : z = (j : Int)) (h : xs[j]? = some v) : atI xs z = some v := by
  rw [e]
  exact atI_nat h
theorem nd_ix {α : Type} {l : List α} (hN : l.Nodup) {i j : Nat} {x : α} (a : l[i]? = some x) (b : l[j]? = some x) : i = j := by
  obtain ⟨h1, e1⟩ := List.getElem?_eq_some_iff.mp a
  obtain ⟨h2, e2⟩ := List.getElem?_eq_some_iff.mp b
  exact (List.getElem_inj hN).mp (e1.trans e2.symm)
theorem Same.made {H H1 : Hp} {x dx C : Addr} (nx : H x = Option.none) (nd : H dx = Option.none) (k : ∀ b o, (upd (upd H dx (.own x)) x (.ins C dx [])) b = some o → b ≠ x → H1 b = some o) : Same H H1 := fun b o e =>
  k b o (by rw [upd_ne (ne_of_none e nx), upd_ne (ne_of_none e nd)]; exact e) (ne_of_none e nx)
end L2

set_option Elab.async false
set_option linter.all false
set_option maxRecDepth 100000
section
set_option Elab.async false
set_option linter.all false
set_option maxRecDepth 100000
set_option maxHeartbeats 2000000
namespace L2
open PySem PySem.Spec PyProof.Rows
open PySem.W (WData Codec OpenSpec Well WellAll ReadsW ReadsAllW)
mutual
inductive Dw (K : PySem.W.Frag) (H : Hp) : V → WData → Prop
  | non : Dw K H .non .none
  | bl (b : Bool) : Dw K H (.bl b) (.bool b)
  | int (i : Int) : Dw K H (.int i) (.int i)
  | str (x : Str) : Dw K H (.str x) (.str x)
  | byt (b : Array UInt8) : Dw K H (.byt b) (.bytes b.toList)
  | lst {a : Addr} {xs : List V} {ds : List WData} : SqL K H a xs → DwAll K H xs ds → Dw K H (.ref a) (.list ds)
  | tup {a : Addr} {xs : List V} {ds : List WData} : SqT K H a xs → DwAll K H xs ds → Dw K H (.ref a) (.tuple ds)
inductive DwAll (K : PySem.W.Frag) (H : Hp) : List V → List WData → Prop
  | nil : DwAll K H [] []
  | cons {v : V} {vs : List V} {d : WData} {ds : List WData} : Dw K H v d → DwAll K H vs ds → DwAll K H (v :: vs) (d :: ds)
end
theorem dw_ints {K : PySem.W.Frag} {H : Hp} : ∀ ns : List Int, DwAll K H (ns.map V.int) (ns.map WData.int)
  | [] => .nil
  | n :: r => .cons (.int n) (dw_ints r)
theorem ints_dw {K : PySem.W.Frag} {H : Hp} : ∀ (ns : List Int) (xs : List V), DwAll K H xs (ns.map WData.int) → xs = ns.map V.int
  | [], xs, h => by
    cases h
    rfl
  | n :: r, xs, h => by
    cases h with
    | cons h1 h2 =>
      cases h1
      rw [ints_dw r _ h2] <;> rfl
section
variable {P : Program} {w : World} {K : PySem.W.Frag} {H : Hp} {h : Heap} {R : PySem.W.WRecords} {cl : Str → Option Addr}
theorem sqL_at {a : Addr} {xs : List V} (hok : HOk P w H h) (KX : K.In h) (q : SqL K H a xs) : ∃ (its : List Value) (o : Obj) (n : Nat), Vals xs its ∧ h.get? a = some o ∧ o.cls = .type "list" ∧ o.data = .seq its.toArray n := by
  rcases q with q | ⟨o, its, n, e, hc, _, hd, _, hv⟩
  · obtain ⟨_, its, n, hv, e⟩ := (show ObjOk P w H h a (.lst xs) from q.ok hok)
    exact ⟨its, _, n, hv, e, rfl, rfl⟩
  · exact ⟨its.toList, o, n, hv, KX _ _ e, hc, by simp [hd]⟩
theorem sqT_at {a : Addr} {xs : List V} (hok : HOk P w H h) (KX : K.In h) (q : SqT K H a xs) : ∃ (its : List Value) (o : Obj) (n : Nat), Vals xs its ∧ h.get? a = some o ∧ o.cls = .type "tuple" ∧ o.data = .seq its.toArray n := by
  rcases q with q | ⟨o, its, n, e, hc, hd, _, hv⟩
  · obtain ⟨_, its, hv, o, e, hc, n, hd⟩ := (show ObjOk P w H h a (.tup xs) from q.ok hok)
    exact ⟨its, o, n, hv, e, hc, hd⟩
  · exact ⟨its.toList, o, n, hv, KX _ _ e, hc, by simp [hd]⟩
mutual
theorem Dw.reads (hok : HOk P w H h) (KX : K.In h) : ∀ (d : WData) (v : V) (u : Value), Dw K H v d → RelV v u → ∃ as, ReadsW R cl h u d as
  | .none, _, _, x, r => by
    cases x
    cases r
    exact ⟨_, ReadsW.none⟩
  | .bool b, _, _, x, r => by
    cases x
    cases r
    exact ⟨_, ReadsW.bool b⟩
  | .int i, _, _, x, r => by
    cases x
    obtain ⟨t, rfl⟩ := r
    exact ⟨_, ReadsW.int i t⟩
  | .str s, _, _, x, r => by
    cases x
    obtain ⟨t, rfl⟩ := r
    exact ⟨_, ReadsW.str s t⟩
  | .bytes b, _, _, x, r => by
    cases x
    obtain ⟨t, rfl⟩ := r
    exact ⟨_, ReadsW.bytes _ t⟩
  | .list ds, _, _, x, r => by
    cases x with
    | lst hs ha =>
      cases r
      obtain ⟨its, o, n, rv, ho, hc, hd⟩ := sqL_at hok KX hs
      obtain ⟨as, hr⟩ := Dw.readsAll hok KX ds _ its ha rv
      exact ⟨_, ReadsW.list ho hc hd hr⟩
  | .tuple ds, _, _, x, r => by
    cases x with
    | tup hs ha =>
      cases r
      obtain ⟨its, o, n, rv, ho, hc, hd⟩ := sqT_at hok KX hs
      obtain ⟨as, hr⟩ := Dw.readsAll hok KX ds _ its ha rv
      exact ⟨_, ReadsW.tuple ho hc hd hr⟩
  | .float _, _, _, x, _ => by cases x
  | .dict _, _, _, x, _ => by cases x
  | .bytearray _, _, _, x, _ => by cases x
  | .set _, _, _, x, _ => by cases x
  | .frozenset _, _, _, x, _ => by cases x
  | .obj _ _, _, _, x, _ => by cases x
theorem Dw.readsAll (hok : HOk P w H h) (KX : K.In h) : ∀ (ds : List WData) (vs : List V) (us : List Value), DwAll K H vs ds → Vals vs us → ∃ as, ReadsAllW R cl h us ds as
  | [], _, _, x, r => by
    cases x
    cases r
    exact ⟨_, ReadsAllW.nil⟩
  | d :: ds, _, _, x, r => by
    cases x with
    | cons h1 h2 =>
      cases r with
      | cons r1 r2 =>
        obtain ⟨as, q1⟩ := Dw.reads hok KX d _ _ h1 r1
        obtain ⟨bs, q2⟩ := Dw.readsAll hok KX ds _ _ h2 r2
        exact ⟨_, ReadsAllW.cons q1 q2⟩
end
end
mutual
def plW : WData → Bool
  | .none => true
  | .bool _ => true
  | .int _ => true
  | .str _ => true
  | .bytes _ => true
  | .list xs => plWs xs
  | .tuple xs => plWs xs
  | _ => false
def plWs : List WData → Bool
  | [] => true
  | x :: r => plW x && plWs r
end
theorem plWs_map {α : Type} {f : α → WData} (h : ∀ a, plW (f a) = true) : ∀ l : List α, plWs (l.map f) = true
  | [] => rfl
  | x :: r => by
    show (plW (f x) && plWs (r.map f)) = true
    rw [h x, plWs_map h r] <;> rfl
theorem pl_enc : ∀ (c : Codec) (a : c.denote), plW (c.enc a) = true
  | .unit, _ => rfl
  | .bool, _ => rfl
  | .int _ _, _ => rfl
  | .nat _ _, _ => rfl
  | .u8, _ => rfl
  | .bytes _ _, _ => rfl
  | .text _ _ _ _, _ => rfl
  | .list _ _ c, a => plWs_map (fun x => pl_enc c x) a
  | .pair c d, a => by
    show (plW (c.enc a.1) && (plW (d.enc a.2) && true)) = true
    rw [pl_enc c a.1, pl_enc d a.2] <;> rfl
  | .triple c d e, a => by
    show (plW (c.enc a.1) && (plW (d.enc a.2.1) && (plW (e.enc a.2.2) && true))) = true
    rw [pl_enc c a.1, pl_enc d a.2.1, pl_enc e a.2.2] <;> rfl
  | .option c, none => rfl
  | .option c, some x => pl_enc c x
theorem pl_encAll : ∀ (cs : List Codec) (a : Codec.denoteAll cs), plWs (Codec.encAll cs a) = true
  | [], _ => rfl
  | c :: cs, a => by
    show (plW (c.enc a.1) && plWs (Codec.encAll cs a.2)) = true
    rw [pl_enc c a.1, pl_encAll cs a.2] <;> rfl
theorem weight_mem : ∀ {xs : List WData} {d : WData}, d ∈ xs → d.weight ≤ WData.weightAll xs
  | [], d, h => absurd h (by simp)
  | x :: r, d, h => by
    show d.weight ≤ x.weight + 1 + WData.weightAll r
    rcases List.mem_cons.mp h with e | m
    · rw [e]
      omega
    · have z := weight_mem m
      omega
def toV : Value → V
  | .none => .non
  | .bool b => .bl b
  | .int i _ => .int i
  | .str x _ => .str x
  | .bytes b _ => .byt b
  | .ref a => .ref a
  | _ => .non
def OkU (A : List Addr) : Value → Prop
  | .none => True
  | .bool _ => True
  | .int _ _ => True
  | .str _ _ => True
  | .bytes _ _ => True
  | .ref a => a ∈ A
  | _ => False
theorem OkU.mono {A B : List Addr} (h : ∀ a ∈ A, a ∈ B) : ∀ {u : Value}, OkU A u → OkU B u := fun {u} x => by
  cases u with
  | ref a => exact h a x
  | none => trivial
  | bool b => trivial
  | int i t => trivial
  | str s t => trivial
  | bytes b t => trivial
  | _ => exact False.elim x
theorem relV_toV {A : List Addr} {u : Value} (x : OkU A u) : RelV (toV u) u := by
  cases u with
  | ref a => rfl
  | none => rfl
  | bool b => rfl
  | int i t => exact ⟨t, rfl⟩
  | str s t => exact ⟨t, rfl⟩
  | bytes b t => exact ⟨t, rfl⟩
  | _ => exact False.elim x
theorem vals_toV {A : List Addr} : ∀ {vs : List Value}, (∀ u ∈ vs, OkU A u) → Vals (vs.map toV) vs
  | [], _ => .nil
  | u :: r, h => .cons (relV_toV (h u (List.mem_cons_self ..))) (vals_toV fun x hx => h x (List.mem_cons_of_mem _ hx))
def ArgOb (h : Heap) (A : List Addr) (a : Addr) : Prop := ∃ vs : List Value, vs.length ≤ sizeLine ∧ (∀ u ∈ vs, OkU A u) ∧
  (h.get? a = some { cls := .type "list", data := .seq vs.toArray } ∨ h.get? a = some { cls := .type "tuple", data := .seq vs.toArray })
theorem ArgOb.mono {h : Heap} {A B : List Addr} {a : Addr} (k : ∀ a ∈ A, a ∈ B) (x : ArgOb h A a) : ArgOb h B a := by
  obtain ⟨vs, h1, h2, h3⟩ := x
  exact ⟨vs, h1, fun u hu => (h2 u hu).mono k, h3⟩
theorem wellAll_len {P : Params} {h : Heap} : ∀ {vs : List Value} {ds : List WData}, WellAll P h vs ds → vs.length = ds.length
  | _, _, .nil => rfl
  | _, _, .cons _ b => by
    show _ + 1 = _ + 1
    rw [wellAll_len b]
theorem well_list {P : Params} {h : Heap} {v : Value} {ds : List WData} (x : Well P h v (.list ds)) : ∃ (a : Addr) (vs : List Value), v = .ref a ∧ h.get? a = some { cls := .type "list", data := .seq vs.toArray } ∧ WellAll P h vs ds := by
  cases x with
  | list ho hall => exact ⟨_, _, rfl, ho, hall⟩
theorem well_tuple {P : Params} {h : Heap} {v : Value} {ds : List WData} (x : Well P h v (.tuple ds)) : ∃ (a : Addr) (vs : List Value), v = .ref a ∧ h.get? a = some { cls := .type "tuple", data := .seq vs.toArray } ∧ WellAll P h vs ds := by
  cases x with
  | tuple ho hall => exact ⟨_, _, rfl, ho, hall⟩
theorem well_cons {P : Params} {h : Heap} {us : List Value} {d : WData} {ds : List WData} (x : WellAll P h us (d :: ds)) : ∃ (v : Value) (vs : List Value), us = v :: vs ∧ Well P h v d ∧ WellAll P h vs ds := by
  cases x with
  | cons a b => exact ⟨_, _, rfl, a, b⟩
theorem line_of {n : Nat} (h : n ≤ 1048576) : n ≤ sizeLine := Nat.le_trans h (by decide)
section
variable {P : Params} {h : Heap}
mutual
theorem area_one : ∀ (d : WData) (v : Value), Well P h v d → plW d = true → d.weight ≤ 1048576 → ∃ A : List Addr, OkU A v ∧ ∀ a ∈ A, ArgOb h A a
  | .none, _, x, _, _ => by
    cases x
    exact ⟨[], trivial, fun a m => absurd m (by simp)⟩
  | .bool b, _, x, _, _ => by
    cases x
    exact ⟨[], trivial, fun a m => absurd m (by simp)⟩
  | .int i, _, x, _, _ => by
    cases x
    exact ⟨[], trivial, fun a m => absurd m (by simp)⟩
  | .str s, _, x, _, _ => by
    cases x
    exact ⟨[], trivial, fun a m => absurd m (by simp)⟩
  | .bytes b, _, x, _, _ => by
    cases x
    exact ⟨[], trivial, fun a m => absurd m (by simp)⟩
  | .list ds, _, x, p, z => by
    obtain ⟨a, vs, rfl, ho, hall⟩ := well_list x
    have z2 : WData.weightAll ds ≤ 1048576 := z
    obtain ⟨A, h1, h2⟩ := area_all ds _ hall p fun d hd => Nat.le_trans (weight_mem hd) z2
    have k : ∀ b ∈ A, b ∈ a :: A := fun b hb => List.mem_cons_of_mem _ hb
    refine ⟨a :: A, List.mem_cons_self .., fun b hb => ?_⟩
    rcases List.mem_cons.mp hb with e | m
    · rw [e]
      exact ⟨vs, line_of (by rw [wellAll_len hall]; exact Nat.le_trans (PySem.W.length_le_weightAllW ds) z2), fun u hu => (h1 u hu).mono k, .inl ho⟩
    · exact (h2 b m).mono k
  | .tuple ds, _, x, p, z => by
    obtain ⟨a, vs, rfl, ho, hall⟩ := well_tuple x
    have z2 : WData.weightAll ds ≤ 1048576 := z
    obtain ⟨A, h1, h2⟩ := area_all ds _ hall p fun d hd => Nat.le_trans (weight_mem hd) z2
    have k : ∀ b ∈ A, b ∈ a :: A := fun b hb => List.mem_cons_of_mem _ hb
    refine ⟨a :: A, List.mem_cons_self .., fun b hb => ?_⟩
    rcases List.mem_cons.mp hb with e | m
    · rw [e]
      exact ⟨vs, line_of (by rw [wellAll_len hall]; exact Nat.le_trans (PySem.W.length_le_weightAllW ds) z2), fun u hu => (h1 u hu).mono k, .inr ho⟩
    · exact (h2 b m).mono k
  | .float _, _, _, p, _ => Bool.noConfusion (show false = true from p)
  | .dict _, _, _, p, _ => Bool.noConfusion (show false = true from p)
  | .bytearray _, _, _, p, _ => Bool.noConfusion (show false = true from p)
  | .set _, _, _, p, _ => Bool.noConfusion (show false = true from p)
  | .frozenset _, _, _, p, _ => Bool.noConfusion (show false = true from p)
  | .obj _ _, _, _, p, _ => Bool.noConfusion (show false = true from p)
theorem area_all : ∀ (ds : List WData) (vs : List Value), WellAll P h vs ds → plWs ds = true → (∀ d ∈ ds, d.weight ≤ 1048576) → ∃ A : List Addr, (∀ u ∈ vs, OkU A u) ∧ ∀ a ∈ A, ArgOb h A a
  | [], _, x, _, _ => by
    cases x
    exact ⟨[], fun u m => absurd m (by simp), fun a m => absurd m (by simp)⟩
  | d :: ds, _, x, p, z => by
    obtain ⟨v, vs, rfl, x1, x2⟩ := well_cons x
    have q : plW d = true ∧ plWs ds = true := Bool.and_eq_true_iff.mp p
    obtain ⟨A, a1, a2⟩ := area_one d v x1 q.1 (z d (List.mem_cons_self ..))
    obtain ⟨B, b1, b2⟩ := area_all ds vs x2 q.2 fun e he => z e (List.mem_cons_of_mem _ he)
    have kA : ∀ b ∈ A, b ∈ A ++ B := fun b hb => List.mem_append.mpr (.inl hb)
    have kB : ∀ b ∈ B, b ∈ A ++ B := fun b hb => List.mem_append.mpr (.inr hb)
    refine ⟨A ++ B, fun u hu => ?_, fun b hb => ?_⟩
    · rcases List.mem_cons.mp hu with e | m
      · rw [e]
        exact a1.mono kA
      · exact (b1 u m).mono kB
    · rcases List.mem_append.mp hb with m | m
      · exact (a2 b m).mono kA
      · exact (b2 b m).mono kB
end
end
def hoOf (o : Obj) : Option HO := match o.data with
  | .seq vs _ => if (o.cls == Value.type "list") = true then some (.frz o (.lst (vs.toList.map toV))) else some (.frz o (.tup (vs.toList.map toV)))
  | _ => none
def argH (K : PySem.W.Frag) (h : Heap) (A : List Addr) : Hp := fun b => if b ∈ A then (if (K.lookup b).isNone = true then (h.get? b).bind hoOf else none) else none
def OnlyF (H : Hp) : Prop := ∀ b, H b = none ∨ ∃ o u, H b = some (.frz o u)
theorem hoOf_lst (vs : List Value) : hoOf { cls := .type "list", data := .seq vs.toArray } = some (.frz { cls := .type "list", data := .seq vs.toArray } (.lst (vs.map toV))) := by
  show (if (Value.type "list" == Value.type "list") = true then some (HO.frz { cls := .type "list", data := .seq vs.toArray } (.lst (vs.toArray.toList.map toV))) else some (HO.frz { cls := .type "list", data := .seq vs.toArray } (.tup (vs.toArray.toList.map toV)))) = _
  rw [if_pos (beq_self_eq_true _)]
theorem hoOf_tup (vs : List Value) : hoOf { cls := .type "tuple", data := .seq vs.toArray } = some (.frz { cls := .type "tuple", data := .seq vs.toArray } (.tup (vs.map toV))) := by
  show (if (Value.type "tuple" == Value.type "list") = true then some (HO.frz { cls := .type "tuple", data := .seq vs.toArray } (.lst (vs.toArray.toList.map toV))) else some (HO.frz { cls := .type "tuple", data := .seq vs.toArray } (.tup (vs.toArray.toList.map toV)))) = _
  rw [if_neg (by decide)]
section
variable {P : Program} {w : World} {K : PySem.W.Frag} {h : Heap} {A : List Addr}
theorem argH_at {b : Addr} {o : Obj} (hb : b ∈ A) (hk : K.lookup b = none) (e : h.get? b = some o) : argH K h A b = hoOf o := by
  unfold argH
  rw [if_pos hb, hk, if_pos (show (none : Option Obj).isNone = true from rfl), e] <;> rfl
theorem of_argH {b : Addr} {u : HO} (q : argH K h A b = some u) : b ∈ A ∧ K.lookup b = none := by
  unfold argH at q
  by_cases hb : b ∈ A
  · rw [if_pos hb] at q
    cases hk : K.lookup b with
    | none => exact ⟨hb, rfl⟩
    | some o =>
      rw [hk, if_neg (by simp)] at q
      cases q
  · rw [if_neg hb] at q
    cases q
theorem argH_is (ar : ∀ a ∈ A, ArgOb h A a) {b : Addr} {u : HO} (q : argH K h A b = some u) : K.lookup b = none ∧ ∃ vs : List Value, vs.length ≤ sizeLine ∧ (∀ u ∈ vs, OkU A u) ∧
    ((h.get? b = some { cls := .type "list", data := .seq vs.toArray } ∧ u = .frz { cls := .type "list", data := .seq vs.toArray } (.lst (vs.map toV))) ∨
     (h.get? b = some { cls := .type "tuple", data := .seq vs.toArray } ∧ u = .frz { cls := .type "tuple", data := .seq vs.toArray } (.tup (vs.map toV)))) := by
  obtain ⟨hb, hk⟩ := of_argH q
  obtain ⟨vs, h1, h2, h3⟩ := ar b hb
  refine ⟨hk, vs, h1, h2, ?_⟩
  rcases h3 with e | e
  · rw [argH_at hb hk e, hoOf_lst] at q
    exact .inl ⟨e, (Option.some.inj q).symm⟩
  · rw [argH_at hb hk e, hoOf_tup] at q
    exact .inr ⟨e, (Option.some.inj q).symm⟩
theorem argH_only (ar : ∀ a ∈ A, ArgOb h A a) : OnlyF (argH K h A) := fun b => by
  cases q : argH K h A b with
  | none => exact .inl rfl
  | some u =>
    obtain ⟨_, vs, _, _, ⟨_, e⟩ | ⟨_, e⟩⟩ := argH_is ar q
    · exact .inr ⟨_, _, by rw [e]⟩
    · exact .inr ⟨_, _, by rw [e]⟩
theorem argH_ok (ar : ∀ a ∈ A, ArgOb h A a) : HOk P w (argH K h A) h := fun b u q => by
  obtain ⟨_, vs, h1, h2, ⟨e, rfl⟩ | ⟨e, rfl⟩⟩ := argH_is ar q
  · exact ⟨e, by rw [List.length_map]; exact h1, vs, _, vals_toV h2, e⟩
  · exact ⟨e, by rw [List.length_map]; exact h1, vs, vals_toV h2, _, e, rfl, _, rfl⟩
theorem seq_inj {c c' : Value} {vs us : List Value} (e : (some { cls := c, data := .seq vs.toArray } : Option Obj) = some { cls := c', data := .seq us.toArray }) : c = c' ∧ vs = us := by
  have e1 := Option.some.inj e
  have e2 : c = c' := congrArg Obj.cls e1
  have e3 : Data.seq vs.toArray = Data.seq us.toArray := congrArg Obj.data e1
  injection e3 with e4
  refine ⟨e2, ?_⟩
  have e5 := congrArg Array.toList e4
  simpa using e5
theorem argL (KX : K.In h) (ar : ∀ a ∈ A, ArgOb h A a) {a : Addr} {vs : List Value} (ha : a ∈ A) (e : h.get? a = some { cls := .type "list", data := .seq vs.toArray }) : (∀ u ∈ vs, OkU A u) ∧ SqL K (argH K h A) a (vs.map toV) := by
  obtain ⟨us, h1, h2, h3⟩ := ar a ha
  have hu : us = vs := by
    rcases h3 with q | q
    · rw [e] at q
      exact (seq_inj q).2.symm
    · rw [e] at q
      exact absurd (Value.type.inj (seq_inj q).1) (by decide)
  subst hu
  refine ⟨h2, ?_⟩
  cases hk : K.lookup a with
  | none => exact .inl (.inr ⟨_, by rw [argH_at ha hk e, hoOf_lst]⟩)
  | some o =>
    have e2 := KX a o hk
    rw [e] at e2
    obtain rfl := Option.some.inj e2
    exact .inr ⟨_, us.toArray, _, hk, rfl, rfl, rfl, by rw [List.size_toArray]; exact h1, by simpa using vals_toV h2⟩
theorem argT (KX : K.In h) (ar : ∀ a ∈ A, ArgOb h A a) {a : Addr} {vs : List Value} (ha : a ∈ A) (e : h.get? a = some { cls := .type "tuple", data := .seq vs.toArray }) : (∀ u ∈ vs, OkU A u) ∧ SqT K (argH K h A) a (vs.map toV) := by
  obtain ⟨us, h1, h2, h3⟩ := ar a ha
  have hu : us = vs := by
    rcases h3 with q | q
    · rw [e] at q
      exact absurd (Value.type.inj (seq_inj q).1) (by decide)
    · rw [e] at q
      exact (seq_inj q).2.symm
  subst hu
  refine ⟨h2, ?_⟩
  cases hk : K.lookup a with
  | none => exact .inl (.inr ⟨_, by rw [argH_at ha hk e, hoOf_tup]⟩)
  | some o =>
    have e2 := KX a o hk
    rw [e] at e2
    obtain rfl := Option.some.inj e2
    exact .inr ⟨_, us.toArray, _, hk, rfl, rfl, by rw [List.size_toArray]; exact h1, by simpa using vals_toV h2⟩
mutual
theorem dw_one {Pm : Params} (KX : K.In h) (ar : ∀ a ∈ A, ArgOb h A a) : ∀ (d : WData) (v : Value), Well Pm h v d → plW d = true → OkU A v → Dw K (argH K h A) (toV v) d
  | .none, _, x, _, _ => by
    cases x
    exact .non
  | .bool b, _, x, _, _ => by
    cases x
    exact .bl b
  | .int i, _, x, _, _ => by
    cases x
    exact .int i
  | .str s, _, x, _, _ => by
    cases x
    exact .str s
  | .bytes b, _, x, _, _ => by
    cases x
    have z := Dw.byt (K := K) (H := argH K h A) b.toArray
    exact z
  | .list ds, _, x, p, hu => by
    obtain ⟨a, vs, rfl, ho, hall⟩ := well_list x
    obtain ⟨h2, hs⟩ := argL KX ar hu ho
    exact .lst hs (dw_all KX ar ds _ hall p h2)
  | .tuple ds, _, x, p, hu => by
    obtain ⟨a, vs, rfl, ho, hall⟩ := well_tuple x
    obtain ⟨h2, hs⟩ := argT KX ar hu ho
    exact .tup hs (dw_all KX ar ds _ hall p h2)
  | .float _, _, _, p, _ => Bool.noConfusion (show false = true from p)
  | .dict _, _, _, p, _ => Bool.noConfusion (show false = true from p)
  | .bytearray _, _, _, p, _ => Bool.noConfusion (show false = true from p)
  | .set _, _, _, p, _ => Bool.noConfusion (show false = true from p)
  | .frozenset _, _, _, p, _ => Bool.noConfusion (show false = true from p)
  | .obj _ _, _, _, p, _ => Bool.noConfusion (show false = true from p)
theorem dw_all {Pm : Params} (KX : K.In h) (ar : ∀ a ∈ A, ArgOb h A a) : ∀ (ds : List WData) (vs : List Value), WellAll Pm h vs ds → plWs ds = true → (∀ u ∈ vs, OkU A u) → DwAll K (argH K h A) (vs.map toV) ds
  | [], _, x, _, _ => by
    cases x
    exact .nil
  | d :: ds, _, x, p, hu => by
    obtain ⟨v, vs, rfl, x1, x2⟩ := well_cons x
    have q : plW d = true ∧ plWs ds = true := Bool.and_eq_true_iff.mp p
    exact .cons (dw_one KX ar d v x1 q.1 (hu _ (List.mem_cons_self ..))) (dw_all KX ar ds vs x2 q.2 fun u m => hu u (List.mem_cons_of_mem _ m))
end
end
theorem spec_call {P : Program} {w : World} {K : PySem.W.Frag} {mg mb : Str → Option Value} {CX : CXT} {k : Nat} {fa : Addr} {fd : FuncData} {ps : List Str} {sp : Sp} {s₁ : Shared} {vals : List Value} {ds : List WData} {R : PySem.W.WRecords} {cl : Str → Option Addr} {d0 : WData}
    (KX : K.In s₁.heap) (hns : s₁.heap.Ns mainGlobals mg) (hb : s₁.heap.Ns builtinsNs mb) (hbb : ∀ x : Str, x ≠ "__name__" → mb x = bootBuiltins x) (hlim : s₁.heap.NoLimit) (hg : s₁.gens = #[])
    (hwl : WellAll w.params s₁.heap vals ds) (hpl : plWs ds = true) (hwt : ∀ d ∈ ds, d.weight ≤ 1048576) (hr : Room k callerA)
    (F : ∀ base : Heap, K.In base → base.Ns mainGlobals mg → FnOk P w K mg base CX k fa fd ps sp) (hbind : ∀ (s : Shared) (us : List Value), us.length = ps.length → BindsTo s fd ⟨us, []⟩ (ps.zip us)) (hlen : ds.length = ps.length)
    (hsp : ∀ (H : Hp) (xs : List V), OnlyF H → DwAll K H xs ds → sp xs H (fun v H' => Dw K H' v d0) fun _ _ _ => False)
    (hCX : ∀ H e s', CX [] H s₁ (fun _ _ _ => False) e s' → False) :
    codeAny (model P w) callerA (.call (.ref fa) ⟨vals, []⟩) (fun r s' => ∃ u as, r = .ok (.ret u) ∧ ReadsW R cl s'.heap u d0 as ∧ OldK s₁.heap s'.heap ∧ s'.os = s₁.os ∧ AllBare s'.gens) s₁ := by
  obtain ⟨A, ho, ar⟩ := area_all ds vals hwl hpl hwt
  have hO : OnlyF (argH K s₁.heap A) := argH_only ar
  have hok : HOk P w (argH K s₁.heap A) s₁.heap := argH_ok ar
  have hS := dw_all KX ar ds vals hwl hpl ho
  have hV := vals_toV ho
  have hK : ∀ b u, argH K s₁.heap A b = some u → K.lookup b = none := fun b u q => (argH_is ar q).1
  have noA : ∀ {b : Addr} {o : Obj} {es : Array DictEntry} {ep : Nat}, s₁.heap.get? b = some o → o.data = .dict es ep → argH K s₁.heap A b = none := fun {b o es ep} e d => by
    cases q : argH K s₁.heap A b with
    | none => rfl
    | some u =>
      obtain ⟨_, vs, _, _, ⟨e2, _⟩ | ⟨e2, _⟩⟩ := argH_is ar q
      · rw [e2] at e
        cases e
        have d' : Data.seq vs.toArray _ = Data.dict es ep := d
        cases d'
      · rw [e2] at e
        cases e
        have d' : Data.seq vs.toArray _ = Data.dict es ep := d
        cases d'
  generalize argH K s₁.heap A = H at hO hok hS hK noA
  have base_of : ∀ {b : Addr} {o : Obj}, s₁.heap.get? b = some o → H b = none → (hidT s₁.heap H).get? b = some o := fun e n => hidT_get e n
  have nsK : ∀ {b : Addr} {m : Str → Option Value}, s₁.heap.Ns b m → (hidT s₁.heap H).Ns b m := fun {b m} ⟨o, es, ep, e, d, r⟩ => ⟨o, es, ep, base_of e (noA e d), d, r⟩
  have nK : ∀ b o, K.lookup b = some o → H b = none := fun b o e => by
    cases q : H b with
    | none => rfl
    | some u =>
      rw [hK b u q] at e
      cases e
  have hKb : K.In (hidT s₁.heap H) := fun b o e => base_of (KX b o e) (nK b o e)
  have hM : Mod K mg (hidT s₁.heap H) := ⟨hKb, nsK hns, ⟨mb, nsK hb, hbb⟩, let ⟨mc, h1, h2⟩ := hlim; ⟨mc, nsK h1, h2⟩⟩
  have e0 : Env0 P w K mg (hidT s₁.heap H) callerA [] s₁ H := ⟨rfl, hM, fun b o e => of_hidT e, Nat.le_of_eq (hidT_size _ _), trivial, fun b hb => absurd (show b ∈ ([] : List Addr) from hb) (by simp), hok, .of_eq hg⟩
  have hl : vals.length = ps.length := by rw [wellAll_len hwl]; exact hlen
  refine codeAny_mono ((F _ hKb (nsK hns)).run callerA [] s₁ H ⟨vals, []⟩ vals (vals.map toV) _ _ hr e0 (hbind s₁ vals hl) hV (hsp H _ hO hS)) fun r s' x => ?_
  cases r with
  | error e => exact (hCX H e s' x).elim
  | ok fl =>
    cases fl with
    | next => exact False.elim x
    | brk => exact False.elim x
    | cont => exact False.elim x
    | ret u =>
      obtain ⟨v, H', os, bare, un, hok', r', q⟩ := x
      have kept : ∀ b o, s₁.heap.get? b = some o → s'.heap.get? b = some o := fun b o e => by
        cases q2 : H b with
        | none => exact un.keep b o e q2 (by intro z; exact absurd (show b ∈ ([] : List Addr) from z) (by simp)) (by simp)
        | some u2 =>
          rcases hO b with z | ⟨ob, u3, z⟩
          · rw [q2] at z
            cases z
          · have z2 := un.frzs b ob _ z
            obtain ⟨e1, _⟩ := hok b _ z
            obtain ⟨e2, _⟩ := hok' b _ z2
            rw [e] at e1
            cases e1
            exact e2
      have KX' : K.In s'.heap := fun b o e => kept b o (KX b o e)
      obtain ⟨as, hrd⟩ := Dw.reads (R := R) (cl := cl) hok' KX' d0 v u q r'
      exact ⟨u, as, rfl, hrd, OldK.of_keep kept, os, bare⟩
theorem layable_weight {ds : List WData} (h : WData.layableAll ds = true) : ∀ d ∈ ds, d.weight ≤ 1048576 := fun d hd =>
  (PySem.W.layableW_iff.mp (List.all_eq_true.mp h d hd)).2.2
theorem encAll_len : ∀ (cs : List Codec) (a : Codec.denoteAll cs), (Codec.encAll cs a).length = cs.length
  | [], _ => rfl
  | c :: cs, a => by
    show (Codec.encAll cs a.2).length + 1 = cs.length + 1
    rw [encAll_len cs a.2]
theorem walk_spec {r : OpenSpec} {k : Nat} {q : Program} {loose : List Str} {XP : (Str → Option Value) → Heap → Prop} {YP : World → Heap → Prop} {d : DefRec} {K : Params → PySem.W.Frag} {CX : World → CXT} {ps : List Str} {sp : World → Sp}
    (hwell : r.wellSaid = true) (hdf : d.params.defaults = []) (hlen : r.args.length = ps.length) (hr : Room k callerA)
    (hY : ∀ (w : World) (h : Heap), YP w h → (K w.params).In h)
    (F : ∀ (w : World) (mg : Str → Option Value) (fa : Addr) (h : Heap), YP w h → (K w.params).In h → h.Ns mainGlobals mg → mg d.name = some (.ref fa) →
      ∃ fd : FuncData, (∀ (s : Shared) (us : List Value), us.length = ps.length → BindsTo s fd ⟨us, []⟩ (ps.zip us)) ∧
        ∀ base : Heap, (K w.params).In base → base.Ns mainGlobals mg → FnOk r.prog w (K w.params) mg base (CX w) k fa fd ps (sp w))
    (hsp : ∀ (w : World) (H : Hp) (xs : List V) (a : Codec.denoteAll r.args), OnlyF H → Codec.withinAll r.args a = true → Codec.app r.args r.asked a = true → DwAll (K w.params) H xs (Codec.encAll r.args a) →
      sp w xs H (fun v H' => Dw (K w.params) H' v (r.ret.enc (Codec.app r.args r.f a))) fun _ _ _ => False)
    (hCX : ∀ (w : World) (H : Hp) (s : Shared) (e : Value) (s' : Shared), CX w [] H s (fun _ _ _ => False) e s' → False) :
    PySem.W.WalkOS q loose XP YP r d [] (fun f vs => PySem.call f vs) := by
  intro w s_0 s₁ mg mb G Y fa o pm cd doc dV kV ho hd hcd hD hmg hg args vals as hpre hlay hrd hwl hlo
  obtain ⟨a, e1, e2⟩ := PySem.W.os_pre_some hpre
  obtain ⟨e3, hwi⟩ := Codec.encAll_of_decAll r.args args a e1
  subst e3
  have KX := hY w _ Y
  obtain ⟨fd, hb, hF⟩ := F w mg fa _ Y KX G.T.g hmg
  refine PySem.W.enter_call (codeAny_mono (spec_call (R := []) (cl := classAt s_0.heap) (d0 := r.ret.enc (Codec.app r.args r.f a)) KX G.T.g G.T.b G.T.builtins G.T.nolimit hg hwl (pl_encAll _ _) (layable_weight hlay) hr hF hb (by rw [encAll_len]; exact hlen)
    (fun H xs hO hS => hsp w H xs a hO hwi e2 hS) fun H e s' => hCX w H s₁ e s') fun r' s' hq => ?_)
  obtain ⟨u, as', rfl, h1, h2, h3, h4⟩ := hq
  exact ⟨.inl ⟨u, _, as', rfl, fun _ => rfl, h1, (OpenSpec.post_iff hwell hwi _ _).mpr rfl, fun z => Bool.noConfusion (show false = true from z)⟩, h2, h3, h4⟩
theorem walk_specK {r : OpenSpec} {k : Nat} {q : Program} {loose : List Str} {XP : (Str → Option Value) → Heap → Prop} {YP : World → Heap → Prop} {d : DefRec} {K : Params → PySem.W.Frag} {CX : CXT} {ps : List Str} {sp : PySem.W.Frag → Sp}
    (hwell : r.wellSaid = true) (hdf : d.params.defaults = []) (hlen : r.args.length = ps.length) (hr : Room k callerA)
    (hY : ∀ (w : World) (h : Heap), YP w h → (K w.params).In h)
    (F : ∀ (w : World) (mg : Str → Option Value) (fa : Addr) (h : Heap), YP w h → (K w.params).In h → h.Ns mainGlobals mg → mg d.name = some (.ref fa) →
      ∃ fd : FuncData, (∀ (s : Shared) (us : List Value), us.length = ps.length → BindsTo s fd ⟨us, []⟩ (ps.zip us)) ∧
        ∀ base : Heap, (K w.params).In base → base.Ns mainGlobals mg → FnOk r.prog w (K w.params) mg base CX k fa fd ps (sp (K w.params)))
    (hsp : ∀ (K : PySem.W.Frag) (H : Hp) (xs : List V) (a : Codec.denoteAll r.args), OnlyF H → Codec.withinAll r.args a = true → Codec.app r.args r.asked a = true → DwAll K H xs (Codec.encAll r.args a) →
      sp K xs H (fun v H' => Dw K H' v (r.ret.enc (Codec.app r.args r.f a))) fun _ _ _ => False)
    (hCX : ∀ (H : Hp) (s : Shared) (e : Value) (s' : Shared), CX [] H s (fun _ _ _ => False) e s' → False) :
    PySem.W.WalkOS q loose XP YP r d [] (fun f vs => PySem.call f vs) :=
  walk_spec (K := K) (CX := fun _ => CX) (sp := fun w => sp (K w.params)) hwell hdf hlen hr hY F (fun w H xs a h1 h2 h3 h4 => hsp (K w.params) H xs a h1 h2 h3 h4) fun _ H s e s' => hCX H s e s'
end L2
end

set_option Elab.async false
set_option linter.all false
set_option maxRecDepth 100000
set_option maxHeartbeats 2000000
namespace Cp
open PySem PySem.Spec PyProof.Rows L2
section
variable {X : Cx}
def rIsi (K : PySem.W.Frag) : List V → Hp → VK → Prop := fun xs H Q => ∃ (x : V) (t : Value) (c : Addr) (b : Bool), xs = [x, .ref c] ∧ TyOf K H x t ∧ PySem.W.kitOne K t (.ref c) = some b ∧ Q (.bl b) H
theorem call_isinst : CallR X (.builtin "isinstance") (rIsi X.K) := by
  intro pins s σ H xs us Q I r h
  obtain ⟨x, t, c, b, rfl, ty, e, q⟩ := h
  obtain ⟨u, v, rfl, ru, rv⟩ := vals2 r
  cases (show v = Value.ref c from rv)
  exact isinst_ok I ru ty e fun tk => ⟨.bl b, H, I.tok _, rfl, q⟩
theorem pe_gref {x : Str} {a : Addr} {pos : Pos} (hg : Gl X x) (hm : X.mg x = some (.ref a)) (hd : (x == ("__debug__" : Str)) = false := by decide) : PE X (.Name x pos) (tC (.ref a)) := pe_glob (v := .ref a) hg hm rfl hd
structure FnAt (X : Cx) (k : Nat) (f : Addr) (sp : Sp) : Prop where
  ex : ∃ (fd : FuncData) (ps : List Str), FnOk X.prog X.w X.K X.mg X.base CX0 k f fd ps sp ∧ Binds X.K fd ps []
  kp : PySem.W.keepIn X.K (.ref f) = true
def tCallL (i : Nat) (ok : Addr → Sp → Prop) (t : TA) : TE := fun σ H Q => ∃ f sp, σ[i]? = some (some (.ref f)) ∧ ok f sp ∧ t σ H fun vs H1 => sp vs H1 Q E0
theorem pe_callL {i k : Nat} {x : Str} {p pos : Pos} {e : Expr} {es : List Expr} {t : TA} {ok : Addr → Sp → Prop} (F : ∀ f sp, ok f sp → FnAt X k f sp) (hr : Room k X.A) (ha : PA X (e :: es) t)
    (hN : X.N[i]? = some x := by rfl) (hv : Vis X.env.scope x := by first | exact Or.inl rfl | exact Or.inr (Or.inl rfl) | exact Or.inr (Or.inr rfl)) (hd : (x == ("__debug__" : Str)) = false := by decide) (hcd : (x == ("__classdict__" : Str)) = false := by decide)
    (he : starEach (e :: es) X.env = (false, eval e X.env) :: starEach es X.env := by rfl) (hpl : (backTo pos (starEach es X.env)).any (·.1) = false := by rfl) :
    PE X (.Call (.Name x p) (e :: es) [] pos) (tCallL i ok t) := by
  intro pins s σ H Q I h
  obtain ⟨f, sp, e1, o, h⟩ := h
  obtain ⟨⟨fd, ps, G, b⟩, kp⟩ := F f sp o
  refine wpAny_Call_Name_kw (thn (pe_var hN hv hd hcd pins s σ H (fun y H1 => y = .ref f ∧ H1 = H) I ⟨_, e1, rfl, rfl⟩) fun u s1 ⟨y, H1, I1, r1, ey, eH⟩ => ?_)
  subst ey eH
  obtain rfl : u = Value.ref f := r1
  refine PySem.W.callWith_K (h₀ := X.base) I1.ok.mod.kin kp (thn (ha pos pins s1 σ H1 _ I1 h) fun us s2 ⟨vs, H2, I2, r, q⟩ => ⟨I2.kIn, ?_⟩) he hpl
  exact run_fn (dvs := []) (ds := []) G hr b .nil pass0 I2 r (by rw [List.append_nil]; exact q)
theorem ext_tup (l b : Addr) (xs ys : Array Value) (n m : Nat) (d : Option Addr) (sl : Array (Option Value)) (h0 : ¬ (!xs.isEmpty && Builtin.List.listTooLong (xs.size + ys.size)) = true) (h1 : xs.size ≤ sizeLine) (h2 : xs.size + ys.size ≤ sizeLine + 1) :
    Meets (Builtin.«list.extend» ⟨[.ref l, .ref b], []⟩) (fun _ R s => s.heap.get? l = some { cls := .type "list", data := .seq xs n } ∧ s.heap.get? b = some { cls := .type "tuple", dict := d, data := .seq ys m, slots := sl } ∧
      R (.ok (.ret Value.none)) { s with heap := s.heap.update l (Obj.mapSeq fun x => x ++ ys) }) := by
  refine .of_wp fun prog w A R s h => ?_
  obtain ⟨hp, g, dr, tk, os⟩ := s
  obtain ⟨hl, hb, h⟩ := h
  have f4 := AutoSeq1.sub_tuple_list
  have f2 := AutoSeq1.sub_tuple_tuple
  have f3 := AutoSeq1.sub_list_list
  have f5 := AutoSeq1.sub_list_tuple
  have hz : (xs ++ ys).size ≤ sizeLine + 1 := by
    rw [Array.size_append]
    exact h2
  wp_walk using (wpAny_updateSeq hl rfl (hz := h1) (_hz' := hz)), wpAny_loadPart' hl, wpAny_loadPart' hb
  exact ⟨_, rfl, h⟩
def rExtendT : V → List V → Hp → VK → Prop := fun x vs H Q => ∃ l b xs zs, x = .ref l ∧ vs = [.ref b] ∧ H l = some (.lst xs) ∧ H b = some (.tup zs) ∧ xs.length + zs.length ≤ sizeLine ∧ Q .non (upd H l (.lst (xs ++ zs)))
theorem mt_extendT : MtM X "list.extend" rExtendT := by
  intro pins s σ H x vs v us Q I rx rv h
  obtain ⟨l, b, xs, zs, rfl, rfl, hH, hB, hz, q⟩ := h
  cases rx
  obtain ⟨u, rfl, ru⟩ := rv.one
  cases ru
  obtain ⟨z, its, n, r, hl, e⟩ := I.lstM hH
  obtain ⟨z2, its2, r2, ob, e2, hc, n2, hd⟩ := I.hok b _ hB
  have hl2 := r2.length
  have hsz : its.toArray.size + its2.toArray.size ≤ sizeLine := by rw [List.size_toArray, List.size_toArray]; omega
  have hlong : ¬ (!its.toArray.isEmpty && Builtin.List.listTooLong (its.toArray.size + its2.toArray.size)) = true := by
    rw [notLongL hsz, Bool.and_false]
    exact Bool.false_ne_true
  obtain ⟨c0, d0, dt0, sl0⟩ := ob
  cases (show c0 = Value.type "tuple" from hc)
  cases (show dt0 = Data.seq its2.toArray n2 from hd)
  refine call_meets F.slot_list_extend ⟨_, e, rfl⟩ F.entry_list_extend (F.args_list_extend_2 _ _) (ext_tup l b its.toArray its2.toArray n n2 d0 sl0 hlong (by rw [List.size_toArray]; omega) (by omega)) ⟨e, e2, ?_⟩
  exact ⟨.non, _, I.lset (its' := its ++ its2) hH e (by simp) (r.append r2) (by rw [List.length_append]; exact hz), rfl, q⟩
theorem pi_or {tg l : Expr} {wi wj : TI} (h1 : PI X tg l wi) (h2 : PI X tg l wj) : PI X tg l (fun σ H R => wi σ H R ∨ wj σ H R) := fun pins s σ H R I h => h.elim (h1 pins s σ H R I) (h2 pins s σ H R I)
end
theorem for_vals {d : Addr} {o : Obj} {kvs : List (Key × V)} {g : TG} {tb : TS} {D : Ends} {σ : L2.St} {H : Hp} (Pv : Nat → L2.St → Hp → Prop) (h0 : Pv 0 σ H) (hl : ∀ i σ H, i ≤ kvs.length → Pv i σ H → H d = some (.frz o (.dK kvs)))
    (hs : ∀ i k x σ H, kvs[i]? = some (k, x) → Pv i σ H → g x σ H fun σ2 H2 => tb { D with nx := Pv (i + 1), ct := Pv (i + 1), bk := D.nx } σ2 H2) (hd : ∀ σ H, Pv kvs.length σ H → D.nx σ H) :
    ∃ W : Nat → Nat → L2.St → Hp → Prop, (∃ m, W 0 m σ H) ∧ ∀ i m σ H, W i m σ H →
      ((Itd d o kvs).stop i H ∧ D.nx σ H) ∨ ((Itd d o kvs).go i H ∧ ∃ N : L2.St → Hp → Prop, (∀ σ' H', N σ' H' → ∃ m', m' < m ∧ W (i + 1) m' σ' H') ∧ ∀ x H', (Itd d o kvs).yld i H x H' → g x σ H' fun σ2 H2 => tb { D with nx := N, ct := N, bk := D.nx } σ2 H2) := by
  refine ⟨fun i m σ H => m = kvs.length - i ∧ i ≤ kvs.length ∧ Pv i σ H, ⟨kvs.length, by simp, Nat.zero_le _, h0⟩, fun i m σ H ⟨hm, hi, p⟩ => ?_⟩
  have q := hl i σ H hi p
  by_cases hlt : i < kvs.length
  · refine .inr ⟨⟨q, hlt⟩, Pv (i + 1), fun σ' H' p' => ⟨kvs.length - (i + 1), by omega, rfl, hlt, p'⟩, fun x H' ⟨e, k, hk⟩ => ?_⟩
    rw [e]
    exact hs i k x σ H hk p
  · have e : i = kvs.length := by omega
    exact .inl ⟨⟨q, by omega⟩, hd σ H (e ▸ p)⟩
theorem lc_step {lo c : Int} {n : Nat} {g : TG} {tt : TT} {te : TE} {vs : List Nat} {σ : L2.St} {H1 : Hp} {D : Addr} {Qd : Hp → Prop} (Pv : Nat → Hp → Prop) (h0 : Pv 0 (upd H1 D (.lst [])))
    (hs : ∀ i H, i < n → Pv i H → g (.int (lo + (i : Nat) * c)) (wipe σ vs) H fun σ2 H2 => wipe σ2 vs = wipe σ vs ∧ tt σ2 H2 fun b H3 =>
      if b = true then te σ2 H3 fun y H4 => ∃ acc, H4 D = some (.lst acc) ∧ acc.length < sizeLine ∧ Pv (i + 1) (upd H4 D (.lst (acc ++ [y]))) else Pv (i + 1) H3) (hd : ∀ H, Pv n H → Qd H) :
    ∃ W : Nat → Nat → Hp → Prop, (∃ m, W 0 m (upd H1 D (.lst []))) ∧ ∀ i m H, W i m H →
      ((Itc lo c n).stop i H ∧ Qd H) ∨ ((Itc lo c n).go i H ∧ ∃ Nx : Hp → Prop, (∀ H', Nx H' → ∃ m', m' < m ∧ W (i + 1) m' H') ∧ ∀ x H', (Itc lo c n).yld i H x H' → g x (wipe σ vs) H' fun σ2 H2 => wipe σ2 vs = wipe σ vs ∧ tt σ2 H2 fun b H3 =>
        if b = true then te σ2 H3 fun y H4 => ∃ acc, H4 D = some (.lst acc) ∧ acc.length < sizeLine ∧ Nx (upd H4 D (.lst (acc ++ [y]))) else Nx H3) := by
  refine ⟨fun i m H => m = n - i ∧ i ≤ n ∧ Pv i H, ⟨n, by simp, Nat.zero_le _, h0⟩, fun i m H ⟨hm, hi, p⟩ => ?_⟩
  by_cases hlt : i < n
  · refine .inr ⟨hlt, Pv (i + 1), fun H' p' => ⟨n - (i + 1), by omega, rfl, hlt, p'⟩, fun x H' ⟨e, y⟩ => ?_⟩
    rw [e, y]
    exact hs i H hlt p
  · have e : i = n := by omega
    exact .inl ⟨by show n ≤ i; omega, hd H (e ▸ p)⟩
end Cp

set_option Elab.async false
set_option linter.all false
set_option maxRecDepth 100000
set_option maxHeartbeats 2000000
namespace Cp
open PySem PySem.Spec PyProof.Rows L2
theorem args_maxD (a d : Value) : argsOk "max" ⟨[a], [("default", d)]⟩ := by unfold argsOk; kernel_rfl
section
variable {prog : Program} {w : World} {A : Around} {R : Result → Shared → Prop} {it bs : Addr} {fs ws : List Addr} {n : Nat} {Is : Nat → Value → Prop} {At : Nat → Heap → Prop} {d : Value} {gt : Nat → Nat → Bool}
def Best (gt : Nat → Nat → Bool) (Is : Nat → Value → Prop) (j : Nat) (xs : Array Value) : Prop := j = 0 ∧ xs = #[] ∨ ∃ i v, j = i + 1 ∧ xs = #[v, v] ∧ Is (argBest gt i) v
def Out (d : Value) (gt : Nat → Nat → Bool) (Is : Nat → Value → Prop) (n : Nat) (v : Value) : Prop := n = 0 ∧ v = d ∨ 0 < n ∧ Is (argBest gt (n - 1)) v
abbrev lob (xs : Array Value) (c : Nat) : Obj := { cls := .type "list", dict := none, data := .seq xs c, slots := #[] }
theorem mx_walk (W : Walks prog w A.in1 it fs ws n Is At) (cmp : CmpOf prog w A.in1 .Gt Is gt) (nf : bs ∉ fs) :
    ∀ (k j : Nat) (t : Shared) (xs : Array Value) (c : Nat), j + k = n → At j t.heap → Best gt Is j xs → t.heap.get? bs = some (lob xs c) →
    (∀ v g u, Out d gt Is n v → (∀ b o, b ∉ ws → b ≠ bs → t.heap.get? b = some o → g.get? b = some o) → R (.ok (.ret v)) { t with heap := g, toks := u }) →
    codeAny (model prog w) A (.builtin "max.loop" ⟨[.ref it, .none, .ref bs], [("default", d)]⟩) R t := by
  have nw : bs ∉ ws := fun z => nf (W.sub _ z)
  have word : (toString "max" ++ toString ".loop" : String) = "max.loop" := by decide
  have far : ∀ {g : Heap} {f : Obj → Obj} {b : Addr} {o : Obj}, b ≠ bs → g.get? b = some o → (g.update bs f).get? b = some o := fun ne e => (Heap.get?_update_other _ _ ne.symm).trans e
  intro k
  induction k with
  | zero =>
    intro j t xs c ek at0 be eb fin
    have ej : j = n := by omega
    subst ej
    refine codeAny_builtin F.entry_max_loop ?_; rw [Around.under_plainId F.plain_max_loop _]; show wpAny _ A.in1 (seqItems? (.ref bs) >>= _) _ _ t
    rcases be with ⟨e0, rfl⟩ | ⟨i, v, ei, rfl, hv⟩
    · refine wpAny_bind (wpAny_seqItems eb rfl ?_); show wpAny _ A.in1 (tryCatch (pyNext (.ref it)) _ >>= _) _ _ t
      refine wpAny_bind (wpAny_tryCatch (W.done t _ _ at0 fun g u kept => wpAny_bind (wpAny_rule (wpAny_pure ?_))))
      exact fin d g u (.inl ⟨e0, rfl⟩) fun b o nb _ e => kept b o nb e
    · refine wpAny_bind (wpAny_seqItems eb rfl ?_); show wpAny _ A.in1 (tryCatch (pyNext (.ref it)) _ >>= _) _ _ t
      refine wpAny_bind (wpAny_tryCatch (W.done t _ _ at0 fun g u kept => ?_))
      show wpAny _ A.in1 (updateSeq bs (fun _ => #[]) >>= _) _ _ _; refine wpAny_bind (wpAny_updateSeq (kept bs _ nw eb) rfl (wpAny_bind (wpAny_letGo (wpAny_pure ?_))))
      exact fin v _ u (.inr ⟨by omega, by rw [ei]; exact hv⟩) fun b o nb ne e => far ne (kept b o nb e)
  | succ k ih =>
    intro j t xs c ek at0 be eb fin
    have lt : j < n := by omega
    refine codeAny_builtin F.entry_max_loop ?_; rw [Around.under_plainId F.plain_max_loop _]; show wpAny _ A.in1 (seqItems? (.ref bs) >>= _) _ _ t
    have on : ∀ {g : Heap} {u : Nat} {ys : Array Value} {m : Nat} {f : Obj → Obj} {g' : Heap}, At (j + 1) g → Best gt Is (j + 1) ys → g'.get? bs = some (lob ys m) → (g' = g ∨ g' = g.update bs f) → (∀ b o, b ∉ ws → t.heap.get? b = some o → g.get? b = some o) →
        codeAny (model prog w) A (.builtin "max.loop" ⟨[.ref it, .none, .ref bs], [("default", d)]⟩) R { t with heap := g', toks := u } := fun at1 be1 eb1 how kept =>
      ih (j + 1) _ _ _ (by omega) (by
        rcases how with z | z
        · rw [z]; exact at1
        · rw [z]; exact W.frame _ _ _ at1 fun b hb o e => far (fun z => nf (by rw [← z]; exact hb)) e) be1 eb1 fun v g2 u2 out kept2 => fin v g2 u2 out fun b o nb ne e => kept2 b o nb ne (by
        rcases how with z | z
        · rw [z]; exact kept b o nb e
        · rw [z]; exact far ne (kept b o nb e))
    rcases be with ⟨e0, rfl⟩ | ⟨i, v, ei, rfl, hv⟩
    · refine wpAny_bind (wpAny_seqItems eb rfl ?_); show wpAny _ A.in1 (tryCatch (pyNext (.ref it)) _ >>= _) _ _ t
      refine wpAny_bind (wpAny_tryCatch (W.item j t _ _ lt at0 fun x g u hx at1 kept => ?_))
      show wpAny _ A.in1 (updateSeq bs (fun _ => #[x, x]) >>= _) _ _ _; refine wpAny_bind (wpAny_updateSeq (kept bs _ nw eb) rfl ?_)
      rw [word]; refine wpAny_pure ⟨plainId_quiet F.plain_max_loop _, on at1 (.inr ⟨j, x, rfl, rfl, ?_⟩) (Heap.get?_update_self _ (kept bs _ nw eb) rfl) (.inr rfl) kept⟩
      rw [e0] at hx ⊢
      exact hx
    · refine wpAny_bind (wpAny_seqItems eb rfl ?_); show wpAny _ A.in1 (tryCatch (pyNext (.ref it)) _ >>= _) _ _ t
      refine wpAny_bind (wpAny_tryCatch (W.item j t _ _ lt at0 fun x g u hx at1 kept => ?_))
      have eb1 := kept bs _ nw eb
      show wpAny _ A.in1 (tryCatch (holding [x, x] (richCompare .Gt x v >>= _)) _ >>= _) _ _ _
      refine wpAny_bind (wpAny_tryCatch (wpAny_holding (wpAny_bind (cmp j (argBest gt i) x v _ _ _ hx hv (wpAny_bind (wpAny_holding (wpAny_truthy_bool (wpAny_bind (wpAny_letGo (wpAny_pure ?_))))))))))
      by_cases hb : gt j (argBest gt i) = true
      · rw [if_pos hb]; refine wpAny_bind (wpAny_updateSeq eb1 rfl (wpAny_bind (wpAny_letGo ?_)))
        rw [word]; refine wpAny_pure ⟨plainId_quiet F.plain_max_loop _, on at1 (.inr ⟨j, x, rfl, rfl, ?_⟩) (Heap.get?_update_self _ eb1 rfl) (.inr rfl) kept⟩
        rw [ei] at hb hx ⊢
        rw [argBest, if_pos hb]
        exact hx
      · rw [if_neg hb]; refine wpAny_bind (wpAny_letGo ?_)
        rw [word]; refine wpAny_pure ⟨plainId_quiet F.plain_max_loop _, on (f := id) at1 (.inr ⟨j, v, rfl, rfl, ?_⟩) eb1 (.inl rfl) kept⟩
        rw [ei] at hb ⊢
        rw [argBest, if_neg hb]
        exact hv
theorem maxD_raw {E : Value → Shared → Prop} {s : Shared} {l : Addr} {xs : Array (Int × Tok)} {Q : Value → Shared → Prop} (hh : A.handled = none) (hl : s.heap.IsList l (intItems xs))
    (h : ∀ v g u, Out d (fun i j => decide (numAt xs i > numAt xs j)) (fun i v => (intItems xs)[i]? = some v) xs.size v → (∀ b o, s.heap.get? b = some o → g.get? b = some o) → Q v { s with heap := g, toks := u }) :
    wpAny (model prog w) A (call (.builtin "max") [.ref l] [("default", d)]) Q E s := by
  refine wpAny_call (codeAny_call_builtin F.plain_max F.entry_max ?_); simp only [checkBuiltinCall, F.kind_max]
  have main : wpAny (model prog w) A.in1 (Builtin.«max» ⟨[.ref l], [("default", d)]⟩) (fun r s' => match r with
      | .done f => (match (Except.ok f : Result) with | .ok (.ret v) => Q v s' | .ok _ => False | .error x => E x s')
      | .again c => c.quiet = true ∧ codeAny (model prog w) A c (fun r s' => match r with | .ok (.ret v) => Q v s' | .ok _ => False | .error x => E x s') s') E s := by
    show wpAny _ A.in1 (Builtin.Builtins.bindParams "max" ["key", "default"] 0 ⟨[], [("default", d)]⟩ >>= _) _ _ s
    refine wpAny_bind (wpAny_of_eq (show Builtin.Builtins.bindParams "max" ["key", "default"] 0 ⟨[], [("default", d)]⟩ = pure [none, some d] from rfl) (wpAny_bind (wpAny_pure (wpAny_bind (iter_intList hl fun s2 e st old ne => ?_)))))
    subst e
    have W := Walks.list (prog := prog) (w := w) (A := A.in1) hh _ l ne (intItems xs)
    have word : (toString "max" ++ toString ".loop" : String) = "max.loop" := by decide
    refine wpAny_bind (wpAny_newObj_type ?_); rw [word]
    refine wpAny_pure ⟨plainId_quiet F.plain_max_loop _, mx_walk W (CmpOf.ints_gt (numAt xs) fun _ _ => intItems_at) (fun z => Nat.lt_irrefl _ (old _ z)) (intItems xs).size 0 _ #[] _ (Nat.zero_add _) (W.frame _ _ _ st fun b _ o e => Heap.get?_push_of_some _ e) (.inl ⟨rfl, rfl⟩) (Heap.get?_push_size _ rfl) fun v g u out kept => ?_⟩
    exact h v g u (by simpa [intItems] using out) (old_kept fun b o nb e => kept b o nb (Nat.ne_of_lt (Heap.lt_size e)) (Heap.get?_push_of_some _ e))
  cases sg : Manifest.signature? "max" with
  | none => exact wpAny_pure main
  | some y =>
    have ok : Bind.checkArgs "max" y ⟨[.ref l], [("default", d)]⟩ = pure () := by
      have z := args_maxD (.ref l) d
      rw [argsOk, sg] at z
      exact z
    simp only [ok]
    exact wpAny_pure main
end
section
variable {X : Cx}
def tMaxD (K : PySem.W.Frag) (t tk : TA) : TE := fun σ H Q => t σ H fun vs H1 => tk σ H1 fun zs H2 => ∃ (a : Addr) (ns : List Int) (d : Int), vs = [V.ref a] ∧ zs = [V.int d] ∧ SqL K H2 a (ns.map V.int) ∧ ∀ m : Int, (ns = [] ∧ m = d ∨ m ∈ ns ∧ ∀ b ∈ ns, b ≤ m) → Q (.int m) H2
theorem pe_maxD {e e2 : Expr} {t tk : TA} {p pos kpos : Pos} (hc : X.calm = true) (hg : Gl X "max") (hm : X.mg "max" = none) (ha : PA X [e] t) (hk : PK X [⟨some "default", e2, kpos⟩] tk)
    (he : starEach [e] X.env = [(false, eval e X.env)] := by rfl) : PE X (.Call (.Name "max" p) [e] [⟨some "default", e2, kpos⟩] pos) (tMaxD X.K t tk) := by
  intro pins s σ H Q I h
  refine wpAny_Call_Name_kw (ld_blt I hg hm boot_max ?_ (by decide) (by decide))
  refine PyProof.Rows.callWith_kw (thn (ha pos pins s σ H _ I h) fun us s1 ⟨vs, H1, I1, r1, q1⟩ => thn (hk pos pins s1 σ H1 _ I1 q1) fun ws s2 ⟨zs, H2, I2, r2, a, ns, d, e1, e3, sq, q⟩ => ?_) (by rw [he]; rfl) (by rw [he]; rfl) rfl rfl
  subst e1 e3
  rw [Vals.ref1 r1]
  obtain ⟨u, rfl, ru⟩ := r2.one
  obtain ⟨tk', rfl⟩ : ∃ t, u = Value.int d t := ru
  obtain ⟨its, rv, hl, _⟩ := I2.list sq
  have hi := rv.ints
  obtain ⟨xs, ex⟩ := hi.allInts.items
  have hn : numsOf (intItems xs).toList = ns := by rw [← ex]; exact hi.numsOf
  rw [nums_intItems] at hn
  have hl' := hl.isList
  rw [ex] at hl'
  refine maxD_raw (I2.ok.hd hc) hl' fun v h' tk2 hv hkept => ?_
  rcases hv with ⟨h0, rfl⟩ | ⟨h0, hv⟩
  · refine ⟨.int d, H2, I2.kept hkept, ⟨_, rfl⟩, q d (.inl ⟨?_, rfl⟩)⟩
    rw [← hn]
    have : xs = #[] := Array.eq_empty_of_size_eq_zero h0
    rw [this]
    rfl
  · obtain ⟨t, rfl⟩ := intItems_at hv
    obtain ⟨low, most⟩ := argBest_gt (numAt xs) (xs.size - 1)
    refine ⟨.int _, H2, I2.kept hkept, ⟨_, rfl⟩, q _ (.inr ⟨?_, fun b hb => ?_⟩)⟩
    · rw [numAt_eq, ← hn]; exact PySem.getD_mem (by rw [List.length_map, Array.length_toList]; omega)
    · rw [← hn] at hb
      obtain ⟨j, hj, rfl⟩ := mem_getD hb
      rw [List.length_map, Array.length_toList] at hj; rw [← numAt_eq]
      exact most j (by omega)
end
end Cp

set_option Elab.async false
set_option linter.all false
set_option maxRecDepth 100000
set_option maxHeartbeats 2000000
namespace Cp
open PySem PySem.Spec PyProof.Rows L2
inductive Ro where
  | net | plist | clist | pdict
  | proc (i : Nat) | leav (i : Nat) | chan (c : Nat) | wait (c : Nat)
  | pic (k : Nat) | recs (k : Nat) | shut (k : Nat) | caught (k : Nat) | cl (k c : Nat)
  | imm (a : Addr)
  deriving DecidableEq
structure Sto where
  ad : Ro → Addr
  ob : Ro → Option HO
structure Hold (H : Hp) (S : Sto) : Prop where
  at_ : ∀ r o, S.ob r = some o → H (S.ad r) = some o
  inj : ∀ r r' o o', S.ob r = some o → S.ob r' = some o' → S.ad r = S.ad r' → r = r'
  imm : ∀ a, S.ad (.imm a) = a
def Sto.put (S : Sto) (r : Ro) (o : HO) : Sto := { S with ob := fun x => if x = r then some o else S.ob x }
def Sto.lay (S : Sto) (r : Ro) (a : Addr) (o : HO) : Sto := ⟨fun x => if x = r then a else S.ad x, fun x => if x = r then some o else S.ob x⟩
def Own (S : Sto) (a : Addr) : Prop := ∃ r o, S.ob r = some o ∧ S.ad r = a
def Fr (H : Hp) (S : Sto) (H' : Hp) (S' : Sto) : Prop := ∀ b o, H b = some o → ¬ Own S b → H' b = some o ∧ ¬ Own S' b
theorem Fr.refl {H : Hp} {S : Sto} : Fr H S H S := fun b o e n => ⟨e, n⟩
theorem Fr.trans {H H1 H2 : Hp} {S S1 S2 : Sto} (a : Fr H S H1 S1) (b : Fr H1 S1 H2 S2) : Fr H S H2 S2 := fun c o e n => b c o (a c o e n).1 (a c o e n).2
@[simp] theorem put_ad {S : Sto} {r : Ro} {o : HO} : (S.put r o).ad = S.ad := rfl
theorem put_ob {S : Sto} {r x : Ro} {o : HO} : (S.put r o).ob x = if x = r then some o else S.ob x := rfl
theorem put_self {S : Sto} {r : Ro} {o : HO} : (S.put r o).ob r = some o := if_pos rfl
theorem put_ne {S : Sto} {r x : Ro} {o : HO} (h : x ≠ r) : (S.put r o).ob x = S.ob x := if_neg h
theorem lay_self {S : Sto} {r : Ro} {a : Addr} {o : HO} : (S.lay r a o).ob r = some o := if_pos rfl
theorem lay_ne {S : Sto} {r x : Ro} {a : Addr} {o : HO} (h : x ≠ r) : (S.lay r a o).ob x = S.ob x := if_neg h
theorem lay_ad {S : Sto} {r : Ro} {a : Addr} {o : HO} : (S.lay r a o).ad r = a := if_pos rfl
theorem lay_adne {S : Sto} {r x : Ro} {a : Addr} {o : HO} (h : x ≠ r) : (S.lay r a o).ad x = S.ad x := if_neg h
section
variable {H : Hp} {S : Sto} {r : Ro} {a : Addr} {o o' : HO}
theorem Hold.write (h : Hold H S) (e : S.ob r = some o) (o' : HO) : Hold (upd H (S.ad r) o') (S.put r o') := by
  refine ⟨fun x u q => ?_, fun x y u v q q' z => ?_, h.imm⟩
  · by_cases hx : x = r
    · subst hx
      rw [put_self] at q
      cases q
      exact upd_same
    · rw [put_ne hx] at q
      show upd H (S.ad r) o' (S.ad x) = some u
      rw [upd_ne (fun z => hx (h.inj x r u o q e z))]
      exact h.at_ x u q
  · have hx : ∃ u, S.ob x = some u := by
      by_cases hx : x = r
      · exact ⟨o, hx ▸ e⟩
      · exact ⟨u, by rw [put_ne hx] at q; exact q⟩
    have hy : ∃ u, S.ob y = some u := by
      by_cases hx : y = r
      · exact ⟨o, hx ▸ e⟩
      · exact ⟨v, by rw [put_ne hx] at q'; exact q'⟩
    obtain ⟨_, hx⟩ := hx
    obtain ⟨_, hy⟩ := hy
    exact h.inj x y _ _ hx hy z
theorem Fr.write (e : S.ob r = some o) (o' : HO) : Fr H S (upd H (S.ad r) o') (S.put r o') := fun b u q n => by
  refine ⟨by rw [upd_ne (fun z => n ⟨r, o, e, z.symm⟩)]; exact q, fun ⟨x, v, q', z⟩ => ?_⟩
  by_cases hx : x = r
  · subst hx
    exact n ⟨x, o, e, z⟩
  · rw [put_ne hx] at q'
    exact n ⟨x, v, q', z⟩
theorem Hold.fresh (h : Hold H S) (n : H a = none) {x : Ro} {u : HO} (q : S.ob x = some u) : S.ad x ≠ a := fun z => by
  have e := h.at_ x u q
  rw [z, n] at e
  cases e
theorem Hold.free (h : Hold H S) (n : H a = none) : S.ob (.imm a) = none := by
  cases q : S.ob (.imm a) with
  | none => rfl
  | some u => exact (h.fresh n q (h.imm a)).elim
theorem Hold.lay (h : Hold H S) (n : H a = none) (o : HO) (hi : ∀ b, r = .imm b → b = a) : Hold (upd H a o) (S.lay r a o) := by
  refine ⟨fun x u q => ?_, fun x y u v q q' z => ?_, fun b => ?_⟩
  · by_cases hx : x = r
    · subst hx
      rw [lay_self] at q
      cases q
      rw [lay_ad]
      exact upd_same
    · rw [lay_ne hx] at q
      rw [lay_adne hx, upd_ne (h.fresh n q)]
      exact h.at_ x u q
  · by_cases hx : x = r
    · by_cases hy : y = r
      · exact hx.trans hy.symm
      · rw [lay_ne hy] at q'
        rw [hx, lay_ad, lay_adne hy] at z
        exact (h.fresh n q' z.symm).elim
    · rw [lay_ne hx] at q
      by_cases hy : y = r
      · rw [hy, lay_ad, lay_adne hx] at z
        exact (h.fresh n q z).elim
      · rw [lay_ne hy] at q'
        rw [lay_adne hx, lay_adne hy] at z
        exact h.inj x y u v q q' z
  · by_cases hx : (Ro.imm b) = r
    · rw [← hx, lay_ad]
      exact (hi b hx.symm).symm
    · rw [lay_adne hx]
      exact h.imm b
theorem Fr.lay (n : H a = none) (o : HO) : Fr H S (upd H a o) (S.lay r a o) := fun b u q m => by
  have hb : b ≠ a := ne_of_none q n
  refine ⟨by rw [upd_ne hb]; exact q, fun ⟨x, v, q', z⟩ => ?_⟩
  by_cases hx : x = r
  · rw [hx, lay_ad] at z
    exact hb z.symm
  · rw [lay_ne hx] at q'
    rw [lay_adne hx] at z
    exact m ⟨x, v, q', z⟩
theorem Hold.other (h : Hold H S) (n : H a = none) (o : HO) : Hold (upd H a o) S := ⟨fun x u q => by rw [upd_ne (h.fresh n q)]; exact h.at_ x u q, h.inj, h.imm⟩
theorem Fr.other (n : H a = none) (o : HO) : Fr H S (upd H a o) S := fun b u q m => ⟨by rw [upd_ne (ne_of_none q n)]; exact q, m⟩
theorem Hold.notOwn (h : Hold H S) (n : H a = none) : ¬ Own S a := fun ⟨x, u, q, z⟩ => h.fresh n q z
theorem Hold.aside (h : Hold H S) (n : ¬ Own S a) (o : HO) : Hold (upd H a o) S := ⟨fun x u q => by rw [upd_ne (fun z => n ⟨x, u, q, z⟩)]; exact h.at_ x u q, h.inj, h.imm⟩
theorem Hold.of (h : Hold H S) {H' : Hp} (k : ∀ r o, S.ob r = some o → H' (S.ad r) = H (S.ad r)) : Hold H' S := ⟨fun x u q => (k x u q).trans (h.at_ x u q), h.inj, h.imm⟩
end
end Cp

set_option Elab.async false
set_option linter.all false
set_option maxRecDepth 100000
set_option maxHeartbeats 4000000
namespace Cp
open PySem PySem.Spec PyProof.Rows L2
def top (i : Nat) : Stmt := PySem.Challenge.pw_coinpictures_s01_answers.main.body.getD i (.Pass ⟨0, 0, 0, 0⟩)
abbrev s_Message_init : Stmt := inClass (top 4) 0
abbrev s_Mark_init : Stmt := inClass (top 5) 0
abbrev s_coins_among : Stmt := top 6
abbrev s_Process_init : Stmt := inClass (top 7) 0
abbrev s_Process_fall : Stmt := inClass (top 7) 1
abbrev s_Process_rise : Stmt := inClass (top 7) 2
abbrev s_Channel_init : Stmt := inClass (top 8) 0
abbrev s_Picture_init : Stmt := inClass (top 9) 0
abbrev s_Picture_has_record : Stmt := inClass (top 9) 1
abbrev s_Picture_is_shut : Stmt := inClass (top 9) 2
abbrev s_Picture_is_whole : Stmt := inClass (top 9) 3
abbrev s_Picture_see_message : Stmt := inClass (top 9) 4
abbrev s_Picture_see_deed : Stmt := inClass (top 9) 5
abbrev s_Picture_all_coins : Stmt := inClass (top 9) 6
abbrev s_Net_init : Stmt := inClass (top 10) 0
abbrev s_Net_lay : Stmt := inClass (top 10) 1
abbrev s_Net_has_process : Stmt := inClass (top 10) 2
abbrev s_Net_has_channel : Stmt := inClass (top 10) 3
abbrev s_Net_has_picture : Stmt := inClass (top 10) 4
abbrev s_Net_process : Stmt := inClass (top 10) 5
abbrev s_Net_channel : Stmt := inClass (top 10) 6
abbrev s_Net_sender : Stmt := inClass (top 10) 7
abbrev s_Net_getter : Stmt := inClass (top 10) 8
abbrev s_Net_coins_in_purses : Stmt := inClass (top 10) 9
abbrev s_Net_coins_on_channels : Stmt := inClass (top 10) 10
abbrev s_Net_count_deed : Stmt := inClass (top 10) 11
abbrev s_Net_put_as_deed : Stmt := inClass (top 10) 12
abbrev s_Net_put_message : Stmt := inClass (top 10) 13
abbrev s_Net_get_message : Stmt := inClass (top 10) 14
abbrev s_Net_send_on : Stmt := inClass (top 10) 15
abbrev s_Net_begin_picture : Stmt := inClass (top 10) 16
abbrev s_Net_record : Stmt := inClass (top 10) 17
abbrev s_Net_record_once : Stmt := inClass (top 10) 18
abbrev s_Net_take_first : Stmt := inClass (top 10) 19
abbrev s_Net_take_mark : Stmt := inClass (top 10) 20
abbrev s_Net_take_message : Stmt := inClass (top 10) 21
abbrev s_Net_take_round : Stmt := inClass (top 10) 22
abbrev s_Net_drop_picture : Stmt := inClass (top 10) 23
abbrev s_Net_whole_pictures : Stmt := inClass (top 10) 24
abbrev s_Net_keep_whole_pictures : Stmt := inClass (top 10) 25
abbrev s_Net_go_back : Stmt := inClass (top 10) 26
abbrev s_Reader_init : Stmt := inClass (top 22) 0
abbrev s_Reader_has_more : Stmt := inClass (top 22) 1
abbrev s_Reader_read_number : Stmt := inClass (top 22) 2
abbrev s_Reader_read_row : Stmt := inClass (top 22) 3
abbrev s_answer_net : Stmt := top 23
abbrev s_answer_put : Stmt := top 24
abbrev s_answer_take : Stmt := top 25
abbrev s_answer_turns : Stmt := top 26
abbrev s_are_processes_told_once : Stmt := top 27
abbrev s_answer_cut : Stmt := top 28
abbrev s_answer_join : Stmt := top 29
abbrev s_tell_picture : Stmt := top 30
abbrev s_answer_picture : Stmt := top 31
abbrev s_answer_lacks : Stmt := top 32
abbrev s_answer_count : Stmt := top 33
abbrev s_answer_fall : Stmt := top 34
abbrev s_answer_back : Stmt := top 35
abbrev s_answer_drop : Stmt := top 36
abbrev s_answer_shows : Stmt := top 37
abbrev s_tell_waiting : Stmt := top 38
abbrev s_answer_channel : Stmt := top 39
abbrev s_answer_total : Stmt := top 40
abbrev s_answer_newest : Stmt := top 41
abbrev s_answers : Stmt := top 43
theorem sc_Message_init : FnScope ["self", "coins", "memory", "hops"] ["self", "coins", "memory", "hops"] (defScope s_Message_init) := ⟨rfl, rfl, rfl, by decide +kernel, rfl, by decide +kernel, by decide +kernel⟩
theorem sc_Mark_init : FnScope ["self", "picture_number"] ["self", "picture_number"] (defScope s_Mark_init) := ⟨rfl, rfl, rfl, by decide +kernel, rfl, by decide +kernel, by decide +kernel⟩
theorem sc_coins_among : FnScope ["waiting", "thing"] ["waiting"] (defScope s_coins_among) := ⟨rfl, rfl, rfl, by decide +kernel, rfl, by decide +kernel, by decide +kernel⟩
theorem sc_Process_init : FnScope ["self", "purse"] ["self", "purse"] (defScope s_Process_init) := ⟨rfl, rfl, rfl, by decide +kernel, rfl, by decide +kernel, by decide +kernel⟩
theorem sc_Process_fall : FnScope ["self"] ["self"] (defScope s_Process_fall) := ⟨rfl, rfl, rfl, by decide +kernel, rfl, by decide +kernel, by decide +kernel⟩
theorem sc_Process_rise : FnScope ["self", "purse", "memory"] ["self", "purse", "memory"] (defScope s_Process_rise) := ⟨rfl, rfl, rfl, by decide +kernel, rfl, by decide +kernel, by decide +kernel⟩
theorem sc_Channel_init : FnScope ["self", "source", "target"] ["self", "source", "target"] (defScope s_Channel_init) := ⟨rfl, rfl, rfl, by decide +kernel, rfl, by decide +kernel, by decide +kernel⟩
theorem sc_Picture_init : FnScope ["self", "process_count", "channel_count", "deeds_before", "c"] ["self", "process_count", "channel_count", "deeds_before"] (defScope s_Picture_init) := ⟨rfl, rfl, rfl, by decide +kernel, rfl, by decide +kernel, by decide +kernel⟩
theorem sc_Picture_has_record : FnScope ["self", "p"] ["self", "p"] (defScope s_Picture_has_record) := ⟨rfl, rfl, rfl, by decide +kernel, rfl, by decide +kernel, by decide +kernel⟩
theorem sc_Picture_is_shut : FnScope ["self", "c"] ["self", "c"] (defScope s_Picture_is_shut) := ⟨rfl, rfl, rfl, by decide +kernel, rfl, by decide +kernel, by decide +kernel⟩
theorem sc_Picture_is_whole : FnScope ["self"] ["self"] (defScope s_Picture_is_whole) := ⟨rfl, rfl, rfl, by decide +kernel, rfl, by decide +kernel, by decide +kernel⟩
theorem sc_Picture_see_message : FnScope ["self", "c", "p", "message"] ["self", "c", "p", "message"] (defScope s_Picture_see_message) := ⟨rfl, rfl, rfl, by decide +kernel, rfl, by decide +kernel, by decide +kernel⟩
theorem sc_Picture_see_deed : FnScope ["self", "p"] ["self", "p"] (defScope s_Picture_see_deed) := ⟨rfl, rfl, rfl, by decide +kernel, rfl, by decide +kernel, by decide +kernel⟩
theorem sc_Picture_all_coins : FnScope ["self", "in_purses", "record", "messages"] ["self"] (defScope s_Picture_all_coins) := ⟨rfl, rfl, rfl, by decide +kernel, rfl, by decide +kernel, by decide +kernel⟩
theorem sc_Net_init : FnScope ["self", "purses", "ends"] ["self", "purses", "ends"] (defScope s_Net_init) := ⟨rfl, rfl, rfl, by decide +kernel, rfl, by decide +kernel, by decide +kernel⟩
theorem sc_Net_lay : FnScope ["self", "purses", "ends", "purse", "k", "c"] ["self", "purses", "ends"] (defScope s_Net_lay) := ⟨rfl, rfl, rfl, by decide +kernel, rfl, by decide +kernel, by decide +kernel⟩
theorem sc_Net_has_process : FnScope ["self", "p"] ["self", "p"] (defScope s_Net_has_process) := ⟨rfl, rfl, rfl, by decide +kernel, rfl, by decide +kernel, by decide +kernel⟩
theorem sc_Net_has_channel : FnScope ["self", "c"] ["self", "c"] (defScope s_Net_has_channel) := ⟨rfl, rfl, rfl, by decide +kernel, rfl, by decide +kernel, by decide +kernel⟩
theorem sc_Net_has_picture : FnScope ["self", "k"] ["self", "k"] (defScope s_Net_has_picture) := ⟨rfl, rfl, rfl, by decide +kernel, rfl, by decide +kernel, by decide +kernel⟩
theorem sc_Net_process : FnScope ["self", "p"] ["self", "p"] (defScope s_Net_process) := ⟨rfl, rfl, rfl, by decide +kernel, rfl, by decide +kernel, by decide +kernel⟩
theorem sc_Net_channel : FnScope ["self", "c"] ["self", "c"] (defScope s_Net_channel) := ⟨rfl, rfl, rfl, by decide +kernel, rfl, by decide +kernel, by decide +kernel⟩
theorem sc_Net_sender : FnScope ["self", "c"] ["self", "c"] (defScope s_Net_sender) := ⟨rfl, rfl, rfl, by decide +kernel, rfl, by decide +kernel, by decide +kernel⟩
theorem sc_Net_getter : FnScope ["self", "c"] ["self", "c"] (defScope s_Net_getter) := ⟨rfl, rfl, rfl, by decide +kernel, rfl, by decide +kernel, by decide +kernel⟩
theorem sc_Net_coins_in_purses : FnScope ["self", "process"] ["self"] (defScope s_Net_coins_in_purses) := ⟨rfl, rfl, rfl, by decide +kernel, rfl, by decide +kernel, by decide +kernel⟩
theorem sc_Net_coins_on_channels : FnScope ["self", "channel"] ["self"] (defScope s_Net_coins_on_channels) := ⟨rfl, rfl, rfl, by decide +kernel, rfl, by decide +kernel, by decide +kernel⟩
theorem sc_Net_count_deed : FnScope ["self", "p", "picture"] ["self", "p"] (defScope s_Net_count_deed) := ⟨rfl, rfl, rfl, by decide +kernel, rfl, by decide +kernel, by decide +kernel⟩
theorem sc_Net_put_as_deed : FnScope ["self", "c", "coins", "hops"] ["self", "c", "coins", "hops"] (defScope s_Net_put_as_deed) := ⟨rfl, rfl, rfl, by decide +kernel, rfl, by decide +kernel, by decide +kernel⟩
theorem sc_Net_put_message : FnScope ["self", "c", "coins", "hops", "sender"] ["self", "c", "coins", "hops"] (defScope s_Net_put_message) := ⟨rfl, rfl, rfl, by decide +kernel, rfl, by decide +kernel, by decide +kernel⟩
theorem sc_Net_get_message : FnScope ["self", "c", "message", "getter", "memories"] ["self", "c", "message"] (defScope s_Net_get_message) := ⟨rfl, rfl, rfl, by decide +kernel, rfl, by decide +kernel, by decide +kernel⟩
theorem sc_Net_send_on : FnScope ["self", "process", "hops", "c"] ["self", "process", "hops"] (defScope s_Net_send_on) := ⟨rfl, rfl, rfl, by decide +kernel, rfl, by decide +kernel, by decide +kernel⟩
theorem sc_Net_begin_picture : FnScope ["self"] ["self"] (defScope s_Net_begin_picture) := ⟨rfl, rfl, rfl, by decide +kernel, rfl, by decide +kernel, by decide +kernel⟩
theorem sc_Net_record : FnScope ["self", "k", "p", "process", "c"] ["self", "k", "p"] (defScope s_Net_record) := ⟨rfl, rfl, rfl, by decide +kernel, rfl, by decide +kernel, by decide +kernel⟩
theorem sc_Net_record_once : FnScope ["self", "k", "p"] ["self", "k", "p"] (defScope s_Net_record_once) := ⟨rfl, rfl, rfl, by decide +kernel, rfl, by decide +kernel, by decide +kernel⟩
theorem sc_Net_take_first : FnScope ["self", "c", "first"] ["self", "c"] (defScope s_Net_take_first) := ⟨rfl, rfl, rfl, by decide +kernel, rfl, by decide +kernel, by decide +kernel⟩
theorem sc_Net_take_mark : FnScope ["self", "c", "k", "recorded"] ["self", "c", "k"] (defScope s_Net_take_mark) := ⟨rfl, rfl, rfl, by decide +kernel, rfl, by decide +kernel, by decide +kernel⟩
theorem sc_Net_take_message : FnScope ["self", "c", "message", "p", "picture"] ["self", "c", "message"] (defScope s_Net_take_message) := ⟨rfl, rfl, rfl, by decide +kernel, rfl, by decide +kernel, by decide +kernel⟩
theorem sc_Net_take_round : FnScope ["self", "taken", "c"] ["self"] (defScope s_Net_take_round) := ⟨rfl, rfl, rfl, by decide +kernel, rfl, by decide +kernel, by decide +kernel⟩
theorem sc_Net_drop_picture : FnScope ["self", "k"] ["self", "k"] (defScope s_Net_drop_picture) := ⟨rfl, rfl, rfl, by decide +kernel, rfl, by decide +kernel, by decide +kernel⟩
theorem sc_Net_whole_pictures : FnScope ["self", "k"] ["self"] (defScope s_Net_whole_pictures) := ⟨rfl, rfl, rfl, by decide +kernel, rfl, by decide +kernel, by decide +kernel⟩
theorem sc_Net_keep_whole_pictures : FnScope ["self", "kept", "k"] ["self"] (defScope s_Net_keep_whole_pictures) := ⟨rfl, rfl, rfl, by decide +kernel, rfl, by decide +kernel, by decide +kernel⟩
theorem sc_Net_go_back : FnScope ["self", "k", "picture", "p", "record", "c", "channel"] ["self", "k"] (defScope s_Net_go_back) := ⟨rfl, rfl, rfl, by decide +kernel, rfl, by decide +kernel, by decide +kernel⟩
theorem sc_Reader_init : FnScope ["self", "numbers"] ["self", "numbers"] (defScope s_Reader_init) := ⟨rfl, rfl, rfl, by decide +kernel, rfl, by decide +kernel, by decide +kernel⟩
theorem sc_Reader_has_more : FnScope ["self"] ["self"] (defScope s_Reader_has_more) := ⟨rfl, rfl, rfl, by decide +kernel, rfl, by decide +kernel, by decide +kernel⟩
theorem sc_Reader_read_number : FnScope ["self", "number"] ["self"] (defScope s_Reader_read_number) := ⟨rfl, rfl, rfl, by decide +kernel, rfl, by decide +kernel, by decide +kernel⟩
theorem sc_Reader_read_row : FnScope ["self", "length", "row"] ["self"] (defScope s_Reader_read_row) := ⟨rfl, rfl, rfl, by decide +kernel, rfl, by decide +kernel, by decide +kernel⟩
theorem sc_answer_net : FnScope ["net", "reader", "purses", "ends"] ["net", "reader"] (defScope s_answer_net) := ⟨rfl, rfl, rfl, by decide +kernel, rfl, by decide +kernel, by decide +kernel⟩
theorem sc_answer_put : FnScope ["net", "reader", "c", "coins", "hops", "sender"] ["net", "reader"] (defScope s_answer_put) := ⟨rfl, rfl, rfl, by decide +kernel, rfl, by decide +kernel, by decide +kernel⟩
theorem sc_answer_take : FnScope ["net", "reader", "c"] ["net", "reader"] (defScope s_answer_take) := ⟨rfl, rfl, rfl, by decide +kernel, rfl, by decide +kernel, by decide +kernel⟩
theorem sc_answer_turns : FnScope ["net", "reader", "rounds", "taken", "turn"] ["net", "reader"] (defScope s_answer_turns) := ⟨rfl, rfl, rfl, by decide +kernel, rfl, by decide +kernel, by decide +kernel⟩
theorem sc_are_processes_told_once : FnScope ["net", "told", "seen", "p"] ["net", "told"] (defScope s_are_processes_told_once) := ⟨rfl, rfl, rfl, by decide +kernel, rfl, by decide +kernel, by decide +kernel⟩
theorem sc_answer_cut : FnScope ["net", "reader", "told", "p", "k"] ["net", "reader"] (defScope s_answer_cut) := ⟨rfl, rfl, rfl, by decide +kernel, rfl, by decide +kernel, by decide +kernel⟩
theorem sc_answer_join : FnScope ["net", "reader", "k", "p"] ["net", "reader"] (defScope s_answer_join) := ⟨rfl, rfl, rfl, by decide +kernel, rfl, by decide +kernel, by decide +kernel⟩
theorem sc_tell_picture : FnScope ["picture", "told", "p", "messages", "message"] ["picture"] (defScope s_tell_picture) := ⟨rfl, rfl, rfl, by decide +kernel, rfl, by decide +kernel, by decide +kernel⟩
theorem sc_answer_picture : FnScope ["net", "reader", "k", "picture"] ["net", "reader"] (defScope s_answer_picture) := ⟨rfl, rfl, rfl, by decide +kernel, rfl, by decide +kernel, by decide +kernel⟩
theorem sc_answer_lacks : FnScope ["net", "reader", "k", "picture", "missing", "p", "unshut", "c"] ["net", "reader"] (defScope s_answer_lacks) := ⟨rfl, rfl, rfl, by decide +kernel, rfl, by decide +kernel, by decide +kernel⟩
theorem sc_answer_count : FnScope ["net", "reader", "k"] ["net", "reader"] (defScope s_answer_count) := ⟨rfl, rfl, rfl, by decide +kernel, rfl, by decide +kernel, by decide +kernel⟩
theorem sc_answer_fall : FnScope ["net", "reader", "p", "process", "lost"] ["net", "reader"] (defScope s_answer_fall) := ⟨rfl, rfl, rfl, by decide +kernel, rfl, by decide +kernel, by decide +kernel⟩
theorem sc_answer_back : FnScope ["net", "reader", "k", "picture"] ["net", "reader"] (defScope s_answer_back) := ⟨rfl, rfl, rfl, by decide +kernel, rfl, by decide +kernel, by decide +kernel⟩
theorem sc_answer_drop : FnScope ["net", "reader", "k"] ["net", "reader"] (defScope s_answer_drop) := ⟨rfl, rfl, rfl, by decide +kernel, rfl, by decide +kernel, by decide +kernel⟩
theorem sc_answer_shows : FnScope ["net", "reader", "told", "process"] ["net", "reader"] (defScope s_answer_shows) := ⟨rfl, rfl, rfl, by decide +kernel, rfl, by decide +kernel, by decide +kernel⟩
theorem sc_tell_waiting : FnScope ["thing"] ["thing"] (defScope s_tell_waiting) := ⟨rfl, rfl, rfl, by decide +kernel, rfl, by decide +kernel, by decide +kernel⟩
theorem sc_answer_channel : FnScope ["net", "reader", "c", "waiting", "told", "thing"] ["net", "reader"] (defScope s_answer_channel) := ⟨rfl, rfl, rfl, by decide +kernel, rfl, by decide +kernel, by decide +kernel⟩
theorem sc_answer_total : FnScope ["net", "reader"] ["net", "reader"] (defScope s_answer_total) := ⟨rfl, rfl, rfl, by decide +kernel, rfl, by decide +kernel, by decide +kernel⟩
theorem sc_answer_newest : FnScope ["net", "reader"] ["net", "reader"] (defScope s_answer_newest) := ⟨rfl, rfl, rfl, by decide +kernel, rfl, by decide +kernel, by decide +kernel⟩
theorem sc_answers : FnScope ["calls", "net", "reader", "given", "answer_call", "answered"] ["calls"] (defScope s_answers) := ⟨rfl, rfl, rfl, by decide +kernel, rfl, by decide +kernel, by decide +kernel⟩
set_option genInjectivity false in
set_option genSizeOf false in
structure Env (K : PySem.W.Frag) (mg : Str → Option Value) where
  (cMessage cMark cProcess cChannel cPicture cNet cReader f_Message_init f_Mark_init f_coins_among f_Process_init f_Process_fall f_Process_rise f_Channel_init f_Picture_init f_Picture_has_record f_Picture_is_shut f_Picture_is_whole f_Picture_see_message f_Picture_see_deed f_Picture_all_coins f_Net_init f_Net_lay f_Net_has_process f_Net_has_channel f_Net_has_picture f_Net_process f_Net_channel f_Net_sender f_Net_getter f_Net_coins_in_purses f_Net_coins_on_channels f_Net_count_deed f_Net_put_as_deed f_Net_put_message f_Net_get_message f_Net_send_on f_Net_begin_picture f_Net_record f_Net_record_once f_Net_take_first f_Net_take_mark f_Net_take_message f_Net_take_round f_Net_drop_picture f_Net_whole_pictures f_Net_keep_whole_pictures f_Net_go_back f_Reader_init f_Reader_has_more f_Reader_read_number f_Reader_read_row f_answer_net f_answer_put f_answer_take f_answer_turns f_are_processes_told_once f_answer_cut f_answer_join f_tell_picture f_answer_picture f_answer_lacks f_answer_count f_answer_fall f_answer_back f_answer_drop f_answer_shows f_tell_waiting f_answer_channel f_answer_total f_answer_newest f_answers : Addr)
  g_Message : mg "Message" = some (.ref cMessage)
  c_Message : Cls K cMessage
  n_Message_coins : NoAttr K cMessage "coins"
  n_Message_memory : NoAttr K cMessage "memory"
  n_Message_hops : NoAttr K cMessage "hops"
  g_Mark : mg "Mark" = some (.ref cMark)
  c_Mark : Cls K cMark
  n_Mark_picture_number : NoAttr K cMark "picture_number"
  g_Process : mg "Process" = some (.ref cProcess)
  c_Process : Cls K cProcess
  n_Process_purse : NoAttr K cProcess "purse"
  n_Process_memory : NoAttr K cProcess "memory"
  n_Process_down : NoAttr K cProcess "down"
  n_Process_leaving : NoAttr K cProcess "leaving"
  g_Channel : mg "Channel" = some (.ref cChannel)
  c_Channel : Cls K cChannel
  n_Channel_source : NoAttr K cChannel "source"
  n_Channel_target : NoAttr K cChannel "target"
  n_Channel_waiting : NoAttr K cChannel "waiting"
  g_Picture : mg "Picture" = some (.ref cPicture)
  c_Picture : Cls K cPicture
  n_Picture_process_count : NoAttr K cPicture "process_count"
  n_Picture_deeds_before : NoAttr K cPicture "deeds_before"
  n_Picture_records : NoAttr K cPicture "records"
  n_Picture_shut : NoAttr K cPicture "shut"
  n_Picture_caught : NoAttr K cPicture "caught"
  g_Net : mg "Net" = some (.ref cNet)
  c_Net : Cls K cNet
  n_Net_processes : NoAttr K cNet "processes"
  n_Net_channels : NoAttr K cNet "channels"
  n_Net_pictures : NoAttr K cNet "pictures"
  n_Net_begun : NoAttr K cNet "begun"
  n_Net_deeds : NoAttr K cNet "deeds"
  g_Reader : mg "Reader" = some (.ref cReader)
  c_Reader : Cls K cReader
  n_Reader_numbers : NoAttr K cReader "numbers"
  n_Reader_place : NoAttr K cReader "place"
  (d_Message_init : FuncData)
  F_Message_init : Fun K "__init__" "Message.__init__" s_Message_init f_Message_init d_Message_init
  (d_Mark_init : FuncData)
  F_Mark_init : Fun K "__init__" "Mark.__init__" s_Mark_init f_Mark_init d_Mark_init
  (d_coins_among : FuncData)
  F_coins_among : Fun K "coins_among" "coins_among" s_coins_among f_coins_among d_coins_among
  g_coins_among : mg "coins_among" = some (.ref f_coins_among)
  (d_Process_init : FuncData)
  F_Process_init : Fun K "__init__" "Process.__init__" s_Process_init f_Process_init d_Process_init
  (d_Process_fall : FuncData)
  F_Process_fall : Fun K "fall" "Process.fall" s_Process_fall f_Process_fall d_Process_fall
  m_Process_fall : Meth K cProcess "fall" f_Process_fall
  (d_Process_rise : FuncData)
  F_Process_rise : Fun K "rise" "Process.rise" s_Process_rise f_Process_rise d_Process_rise
  m_Process_rise : Meth K cProcess "rise" f_Process_rise
  (d_Channel_init : FuncData)
  F_Channel_init : Fun K "__init__" "Channel.__init__" s_Channel_init f_Channel_init d_Channel_init
  (d_Picture_init : FuncData)
  F_Picture_init : Fun K "__init__" "Picture.__init__" s_Picture_init f_Picture_init d_Picture_init
  (d_Picture_has_record : FuncData)
  F_Picture_has_record : Fun K "has_record" "Picture.has_record" s_Picture_has_record f_Picture_has_record d_Picture_has_record
  m_Picture_has_record : Meth K cPicture "has_record" f_Picture_has_record
  (d_Picture_is_shut : FuncData)
  F_Picture_is_shut : Fun K "is_shut" "Picture.is_shut" s_Picture_is_shut f_Picture_is_shut d_Picture_is_shut
  m_Picture_is_shut : Meth K cPicture "is_shut" f_Picture_is_shut
  (d_Picture_is_whole : FuncData)
  F_Picture_is_whole : Fun K "is_whole" "Picture.is_whole" s_Picture_is_whole f_Picture_is_whole d_Picture_is_whole
  m_Picture_is_whole : Meth K cPicture "is_whole" f_Picture_is_whole
  (d_Picture_see_message : FuncData)
  F_Picture_see_message : Fun K "see_message" "Picture.see_message" s_Picture_see_message f_Picture_see_message d_Picture_see_message
  m_Picture_see_message : Meth K cPicture "see_message" f_Picture_see_message
  (d_Picture_see_deed : FuncData)
  F_Picture_see_deed : Fun K "see_deed" "Picture.see_deed" s_Picture_see_deed f_Picture_see_deed d_Picture_see_deed
  m_Picture_see_deed : Meth K cPicture "see_deed" f_Picture_see_deed
  (d_Picture_all_coins : FuncData)
  F_Picture_all_coins : Fun K "all_coins" "Picture.all_coins" s_Picture_all_coins f_Picture_all_coins d_Picture_all_coins
  m_Picture_all_coins : Meth K cPicture "all_coins" f_Picture_all_coins
  (d_Net_init : FuncData)
  F_Net_init : Fun K "__init__" "Net.__init__" s_Net_init f_Net_init d_Net_init
  (d_Net_lay : FuncData)
  F_Net_lay : Fun K "lay" "Net.lay" s_Net_lay f_Net_lay d_Net_lay
  m_Net_lay : Meth K cNet "lay" f_Net_lay
  (d_Net_has_process : FuncData)
  F_Net_has_process : Fun K "has_process" "Net.has_process" s_Net_has_process f_Net_has_process d_Net_has_process
  m_Net_has_process : Meth K cNet "has_process" f_Net_has_process
  (d_Net_has_channel : FuncData)
  F_Net_has_channel : Fun K "has_channel" "Net.has_channel" s_Net_has_channel f_Net_has_channel d_Net_has_channel
  m_Net_has_channel : Meth K cNet "has_channel" f_Net_has_channel
  (d_Net_has_picture : FuncData)
  F_Net_has_picture : Fun K "has_picture" "Net.has_picture" s_Net_has_picture f_Net_has_picture d_Net_has_picture
  m_Net_has_picture : Meth K cNet "has_picture" f_Net_has_picture
  (d_Net_process : FuncData)
  F_Net_process : Fun K "process" "Net.process" s_Net_process f_Net_process d_Net_process
  m_Net_process : Meth K cNet "process" f_Net_process
  (d_Net_channel : FuncData)
  F_Net_channel : Fun K "channel" "Net.channel" s_Net_channel f_Net_channel d_Net_channel
  m_Net_channel : Meth K cNet "channel" f_Net_channel
  (d_Net_sender : FuncData)
  F_Net_sender : Fun K "sender" "Net.sender" s_Net_sender f_Net_sender d_Net_sender
  m_Net_sender : Meth K cNet "sender" f_Net_sender
  (d_Net_getter : FuncData)
  F_Net_getter : Fun K "getter" "Net.getter" s_Net_getter f_Net_getter d_Net_getter
  m_Net_getter : Meth K cNet "getter" f_Net_getter
  (d_Net_coins_in_purses : FuncData)
  F_Net_coins_in_purses : Fun K "coins_in_purses" "Net.coins_in_purses" s_Net_coins_in_purses f_Net_coins_in_purses d_Net_coins_in_purses
  m_Net_coins_in_purses : Meth K cNet "coins_in_purses" f_Net_coins_in_purses
  (d_Net_coins_on_channels : FuncData)
  F_Net_coins_on_channels : Fun K "coins_on_channels" "Net.coins_on_channels" s_Net_coins_on_channels f_Net_coins_on_channels d_Net_coins_on_channels
  m_Net_coins_on_channels : Meth K cNet "coins_on_channels" f_Net_coins_on_channels
  (d_Net_count_deed : FuncData)
  F_Net_count_deed : Fun K "count_deed" "Net.count_deed" s_Net_count_deed f_Net_count_deed d_Net_count_deed
  m_Net_count_deed : Meth K cNet "count_deed" f_Net_count_deed
  (d_Net_put_as_deed : FuncData)
  F_Net_put_as_deed : Fun K "put_as_deed" "Net.put_as_deed" s_Net_put_as_deed f_Net_put_as_deed d_Net_put_as_deed
  m_Net_put_as_deed : Meth K cNet "put_as_deed" f_Net_put_as_deed
  (d_Net_put_message : FuncData)
  F_Net_put_message : Fun K "put_message" "Net.put_message" s_Net_put_message f_Net_put_message d_Net_put_message
  m_Net_put_message : Meth K cNet "put_message" f_Net_put_message
  (d_Net_get_message : FuncData)
  F_Net_get_message : Fun K "get_message" "Net.get_message" s_Net_get_message f_Net_get_message d_Net_get_message
  m_Net_get_message : Meth K cNet "get_message" f_Net_get_message
  (d_Net_send_on : FuncData)
  F_Net_send_on : Fun K "send_on" "Net.send_on" s_Net_send_on f_Net_send_on d_Net_send_on
  m_Net_send_on : Meth K cNet "send_on" f_Net_send_on
  (d_Net_begin_picture : FuncData)
  F_Net_begin_picture : Fun K "begin_picture" "Net.begin_picture" s_Net_begin_picture f_Net_begin_picture d_Net_begin_picture
  m_Net_begin_picture : Meth K cNet "begin_picture" f_Net_begin_picture
  (d_Net_record : FuncData)
  F_Net_record : Fun K "record" "Net.record" s_Net_record f_Net_record d_Net_record
  m_Net_record : Meth K cNet "record" f_Net_record
  (d_Net_record_once : FuncData)
  F_Net_record_once : Fun K "record_once" "Net.record_once" s_Net_record_once f_Net_record_once d_Net_record_once
  m_Net_record_once : Meth K cNet "record_once" f_Net_record_once
  (d_Net_take_first : FuncData)
  F_Net_take_first : Fun K "take_first" "Net.take_first" s_Net_take_first f_Net_take_first d_Net_take_first
  m_Net_take_first : Meth K cNet "take_first" f_Net_take_first
  (d_Net_take_mark : FuncData)
  F_Net_take_mark : Fun K "take_mark" "Net.take_mark" s_Net_take_mark f_Net_take_mark d_Net_take_mark
  m_Net_take_mark : Meth K cNet "take_mark" f_Net_take_mark
  (d_Net_take_message : FuncData)
  F_Net_take_message : Fun K "take_message" "Net.take_message" s_Net_take_message f_Net_take_message d_Net_take_message
  m_Net_take_message : Meth K cNet "take_message" f_Net_take_message
  (d_Net_take_round : FuncData)
  F_Net_take_round : Fun K "take_round" "Net.take_round" s_Net_take_round f_Net_take_round d_Net_take_round
  m_Net_take_round : Meth K cNet "take_round" f_Net_take_round
  (d_Net_drop_picture : FuncData)
  F_Net_drop_picture : Fun K "drop_picture" "Net.drop_picture" s_Net_drop_picture f_Net_drop_picture d_Net_drop_picture
  m_Net_drop_picture : Meth K cNet "drop_picture" f_Net_drop_picture
  (d_Net_whole_pictures : FuncData)
  F_Net_whole_pictures : Fun K "whole_pictures" "Net.whole_pictures" s_Net_whole_pictures f_Net_whole_pictures d_Net_whole_pictures
  m_Net_whole_pictures : Meth K cNet "whole_pictures" f_Net_whole_pictures
  (d_Net_keep_whole_pictures : FuncData)
  F_Net_keep_whole_pictures : Fun K "keep_whole_pictures" "Net.keep_whole_pictures" s_Net_keep_whole_pictures f_Net_keep_whole_pictures d_Net_keep_whole_pictures
  m_Net_keep_whole_pictures : Meth K cNet "keep_whole_pictures" f_Net_keep_whole_pictures
  (d_Net_go_back : FuncData)
  F_Net_go_back : Fun K "go_back" "Net.go_back" s_Net_go_back f_Net_go_back d_Net_go_back
  m_Net_go_back : Meth K cNet "go_back" f_Net_go_back
  (d_Reader_init : FuncData)
  F_Reader_init : Fun K "__init__" "Reader.__init__" s_Reader_init f_Reader_init d_Reader_init
  (d_Reader_has_more : FuncData)
  F_Reader_has_more : Fun K "has_more" "Reader.has_more" s_Reader_has_more f_Reader_has_more d_Reader_has_more
  m_Reader_has_more : Meth K cReader "has_more" f_Reader_has_more
  (d_Reader_read_number : FuncData)
  F_Reader_read_number : Fun K "read_number" "Reader.read_number" s_Reader_read_number f_Reader_read_number d_Reader_read_number
  m_Reader_read_number : Meth K cReader "read_number" f_Reader_read_number
  (d_Reader_read_row : FuncData)
  F_Reader_read_row : Fun K "read_row" "Reader.read_row" s_Reader_read_row f_Reader_read_row d_Reader_read_row
  m_Reader_read_row : Meth K cReader "read_row" f_Reader_read_row
  (d_answer_net : FuncData)
  F_answer_net : Fun K "answer_net" "answer_net" s_answer_net f_answer_net d_answer_net
  g_answer_net : mg "answer_net" = some (.ref f_answer_net)
  (d_answer_put : FuncData)
  F_answer_put : Fun K "answer_put" "answer_put" s_answer_put f_answer_put d_answer_put
  g_answer_put : mg "answer_put" = some (.ref f_answer_put)
  (d_answer_take : FuncData)
  F_answer_take : Fun K "answer_take" "answer_take" s_answer_take f_answer_take d_answer_take
  g_answer_take : mg "answer_take" = some (.ref f_answer_take)
  (d_answer_turns : FuncData)
  F_answer_turns : Fun K "answer_turns" "answer_turns" s_answer_turns f_answer_turns d_answer_turns
  g_answer_turns : mg "answer_turns" = some (.ref f_answer_turns)
  (d_are_processes_told_once : FuncData)
  F_are_processes_told_once : Fun K "are_processes_told_once" "are_processes_told_once" s_are_processes_told_once f_are_processes_told_once d_are_processes_told_once
  g_are_processes_told_once : mg "are_processes_told_once" = some (.ref f_are_processes_told_once)
  (d_answer_cut : FuncData)
  F_answer_cut : Fun K "answer_cut" "answer_cut" s_answer_cut f_answer_cut d_answer_cut
  g_answer_cut : mg "answer_cut" = some (.ref f_answer_cut)
  (d_answer_join : FuncData)
  F_answer_join : Fun K "answer_join" "answer_join" s_answer_join f_answer_join d_answer_join
  g_answer_join : mg "answer_join" = some (.ref f_answer_join)
  (d_tell_picture : FuncData)
  F_tell_picture : Fun K "tell_picture" "tell_picture" s_tell_picture f_tell_picture d_tell_picture
  g_tell_picture : mg "tell_picture" = some (.ref f_tell_picture)
  (d_answer_picture : FuncData)
  F_answer_picture : Fun K "answer_picture" "answer_picture" s_answer_picture f_answer_picture d_answer_picture
  g_answer_picture : mg "answer_picture" = some (.ref f_answer_picture)
  (d_answer_lacks : FuncData)
  F_answer_lacks : Fun K "answer_lacks" "answer_lacks" s_answer_lacks f_answer_lacks d_answer_lacks
  g_answer_lacks : mg "answer_lacks" = some (.ref f_answer_lacks)
  (d_answer_count : FuncData)
  F_answer_count : Fun K "answer_count" "answer_count" s_answer_count f_answer_count d_answer_count
  g_answer_count : mg "answer_count" = some (.ref f_answer_count)
  (d_answer_fall : FuncData)
  F_answer_fall : Fun K "answer_fall" "answer_fall" s_answer_fall f_answer_fall d_answer_fall
  g_answer_fall : mg "answer_fall" = some (.ref f_answer_fall)
  (d_answer_back : FuncData)
  F_answer_back : Fun K "answer_back" "answer_back" s_answer_back f_answer_back d_answer_back
  g_answer_back : mg "answer_back" = some (.ref f_answer_back)
  (d_answer_drop : FuncData)
  F_answer_drop : Fun K "answer_drop" "answer_drop" s_answer_drop f_answer_drop d_answer_drop
  g_answer_drop : mg "answer_drop" = some (.ref f_answer_drop)
  (d_answer_shows : FuncData)
  F_answer_shows : Fun K "answer_shows" "answer_shows" s_answer_shows f_answer_shows d_answer_shows
  g_answer_shows : mg "answer_shows" = some (.ref f_answer_shows)
  (d_tell_waiting : FuncData)
  F_tell_waiting : Fun K "tell_waiting" "tell_waiting" s_tell_waiting f_tell_waiting d_tell_waiting
  g_tell_waiting : mg "tell_waiting" = some (.ref f_tell_waiting)
  (d_answer_channel : FuncData)
  F_answer_channel : Fun K "answer_channel" "answer_channel" s_answer_channel f_answer_channel d_answer_channel
  g_answer_channel : mg "answer_channel" = some (.ref f_answer_channel)
  (d_answer_total : FuncData)
  F_answer_total : Fun K "answer_total" "answer_total" s_answer_total f_answer_total d_answer_total
  g_answer_total : mg "answer_total" = some (.ref f_answer_total)
  (d_answer_newest : FuncData)
  F_answer_newest : Fun K "answer_newest" "answer_newest" s_answer_newest f_answer_newest d_answer_newest
  g_answer_newest : mg "answer_newest" = some (.ref f_answer_newest)
  (d_answers : FuncData)
  F_answers : Fun K "answers" "answers" s_answers f_answers d_answers
  g_answers : mg "answers" = some (.ref f_answers)
  mk_Message : Mk K cMessage f_Message_init
  mk_Mark : Mk K cMark f_Mark_init
  mk_Process : Mk K cProcess f_Process_init
  mk_Channel : Mk K cChannel f_Channel_init
  mk_Picture : Mk K cPicture f_Picture_init
  mk_Net : Mk K cNet f_Net_init
  mk_Reader : Mk K cReader f_Reader_init
  t_MESSAGE : Tok
  g_MESSAGE : mg "MESSAGE" = some (.int 1 t_MESSAGE)
  t_MARK : Tok
  g_MARK : mg "MARK" = some (.int 2 t_MARK)
  t_MODULUS : Tok
  g_MODULUS : mg "MODULUS" = some (.int 65521 t_MODULUS)
  (a_FIRST_PURSES : Addr)
  g_FIRST_PURSES : mg "FIRST_PURSES" = some (.ref a_FIRST_PURSES)
  s_FIRST_PURSES : ∀ H : Hp, SqT K H a_FIRST_PURSES [.int 10, .int 10]
  (a_FIRST_ENDS : Addr)
  g_FIRST_ENDS : mg "FIRST_ENDS" = some (.ref a_FIRST_ENDS)
  s_FIRST_ENDS : ∀ H : Hp, SqT K H a_FIRST_ENDS [.int 1, .int 2, .int 2, .int 1]
  t_FEWEST_PROCESSES : Tok
  g_FEWEST_PROCESSES : mg "FEWEST_PROCESSES" = some (.int 2 t_FEWEST_PROCESSES)
  t_MOST_PROCESSES : Tok
  g_MOST_PROCESSES : mg "MOST_PROCESSES" = some (.int 8 t_MOST_PROCESSES)
  t_MOST_COINS : Tok
  g_MOST_COINS : mg "MOST_COINS" = some (.int 1000 t_MOST_COINS)
  t_FEWEST_ENDS : Tok
  g_FEWEST_ENDS : mg "FEWEST_ENDS" = some (.int 2 t_FEWEST_ENDS)
  t_MOST_ENDS : Tok
  g_MOST_ENDS : mg "MOST_ENDS" = some (.int 32 t_MOST_ENDS)
  t_MOST_HOPS : Tok
  g_MOST_HOPS : mg "MOST_HOPS" = some (.int 3 t_MOST_HOPS)
  t_MOST_ROUNDS : Tok
  g_MOST_ROUNDS : mg "MOST_ROUNDS" = some (.int 20 t_MOST_ROUNDS)
  t_MOST_PICTURES : Tok
  g_MOST_PICTURES : mg "MOST_PICTURES" = some (.int 8 t_MOST_PICTURES)
  (a_CALLS : Addr)
  g_CALLS : mg "CALLS" = some (.ref a_CALLS)
  s_CALLS : ∀ H : Hp, SqT K H a_CALLS [.ref f_answer_net, .ref f_answer_put, .ref f_answer_take, .ref f_answer_turns, .ref f_answer_cut, .ref f_answer_join, .ref f_answer_picture, .ref f_answer_lacks, .ref f_answer_count, .ref f_answer_fall, .ref f_answer_back, .ref f_answer_drop, .ref f_answer_shows, .ref f_answer_channel, .ref f_answer_total, .ref f_answer_newest]
  n_len : mg "len" = none
  n_max : mg "max" = none
  n_min : mg "min" = none
  n_isinstance : mg "isinstance" = none
  n_range : mg "range" = none
  n_sum : mg "sum" = none
  n_list : mg "list" = none
  i1_Message : PySem.W.findIn K (.ref cMessage) "__class__" = some (some (.builtin "object.__class__"))
  i4_Message : PySem.W.mroIn K cMessage (.type "object") = some true
  ik_Message_Mark : PySem.W.kitOne K (.ref cMessage) (.ref cMark) = some false
  ik_Message_Message : PySem.W.kitOne K (.ref cMessage) (.ref cMessage) = some true
  i1_Mark : PySem.W.findIn K (.ref cMark) "__class__" = some (some (.builtin "object.__class__"))
  i4_Mark : PySem.W.mroIn K cMark (.type "object") = some true
  ik_Mark_Mark : PySem.W.kitOne K (.ref cMark) (.ref cMark) = some true
  ik_Mark_Message : PySem.W.kitOne K (.ref cMark) (.ref cMessage) = some false
  i2 : PySem.W.specialIn K (.builtin "object.__class__") "__get__" = some (some (.builtin "getset_descriptor.__get__"))
  i3 : PySem.W.takesIn K (.builtin "object.__class__") = some true
section
variable {K : PySem.W.Frag} {mg : Str → Option Value} (T : Env K mg)
theorem Env.b_Message_init : Binds K T.d_Message_init ["self", "coins", "memory", "hops"] [] := T.F_Message_init.binds fun _ _ _ _ _ _ us hl => match us, hl with | [_, _, _, _], _ => rfl
theorem Env.b_Mark_init : Binds K T.d_Mark_init ["self", "picture_number"] [] := T.F_Mark_init.binds fun _ _ _ _ _ _ us hl => match us, hl with | [_, _], _ => rfl
theorem Env.b_coins_among : Binds K T.d_coins_among ["waiting"] [] := T.F_coins_among.binds fun _ _ _ _ _ _ us hl => match us, hl with | [_], _ => rfl
theorem Env.b_Process_init : Binds K T.d_Process_init ["self", "purse"] [] := T.F_Process_init.binds fun _ _ _ _ _ _ us hl => match us, hl with | [_, _], _ => rfl
theorem Env.b_Process_fall : Binds K T.d_Process_fall ["self"] [] := T.F_Process_fall.binds fun _ _ _ _ _ _ us hl => match us, hl with | [_], _ => rfl
theorem Env.b_Process_rise : Binds K T.d_Process_rise ["self", "purse", "memory"] [] := T.F_Process_rise.binds fun _ _ _ _ _ _ us hl => match us, hl with | [_, _, _], _ => rfl
theorem Env.b_Channel_init : Binds K T.d_Channel_init ["self", "source", "target"] [] := T.F_Channel_init.binds fun _ _ _ _ _ _ us hl => match us, hl with | [_, _, _], _ => rfl
theorem Env.b_Picture_init : Binds K T.d_Picture_init ["self", "process_count", "channel_count", "deeds_before"] [] := T.F_Picture_init.binds fun _ _ _ _ _ _ us hl => match us, hl with | [_, _, _, _], _ => rfl
theorem Env.b_Picture_has_record : Binds K T.d_Picture_has_record ["self", "p"] [] := T.F_Picture_has_record.binds fun _ _ _ _ _ _ us hl => match us, hl with | [_, _], _ => rfl
theorem Env.b_Picture_is_shut : Binds K T.d_Picture_is_shut ["self", "c"] [] := T.F_Picture_is_shut.binds fun _ _ _ _ _ _ us hl => match us, hl with | [_, _], _ => rfl
theorem Env.b_Picture_is_whole : Binds K T.d_Picture_is_whole ["self"] [] := T.F_Picture_is_whole.binds fun _ _ _ _ _ _ us hl => match us, hl with | [_], _ => rfl
theorem Env.b_Picture_see_message : Binds K T.d_Picture_see_message ["self", "c", "p", "message"] [] := T.F_Picture_see_message.binds fun _ _ _ _ _ _ us hl => match us, hl with | [_, _, _, _], _ => rfl
theorem Env.b_Picture_see_deed : Binds K T.d_Picture_see_deed ["self", "p"] [] := T.F_Picture_see_deed.binds fun _ _ _ _ _ _ us hl => match us, hl with | [_, _], _ => rfl
theorem Env.b_Picture_all_coins : Binds K T.d_Picture_all_coins ["self"] [] := T.F_Picture_all_coins.binds fun _ _ _ _ _ _ us hl => match us, hl with | [_], _ => rfl
theorem Env.b_Net_init : Binds K T.d_Net_init ["self", "purses", "ends"] [] := T.F_Net_init.binds fun _ _ _ _ _ _ us hl => match us, hl with | [_, _, _], _ => rfl
theorem Env.b_Net_lay : Binds K T.d_Net_lay ["self", "purses", "ends"] [] := T.F_Net_lay.binds fun _ _ _ _ _ _ us hl => match us, hl with | [_, _, _], _ => rfl
theorem Env.b_Net_has_process : Binds K T.d_Net_has_process ["self", "p"] [] := T.F_Net_has_process.binds fun _ _ _ _ _ _ us hl => match us, hl with | [_, _], _ => rfl
theorem Env.b_Net_has_channel : Binds K T.d_Net_has_channel ["self", "c"] [] := T.F_Net_has_channel.binds fun _ _ _ _ _ _ us hl => match us, hl with | [_, _], _ => rfl
theorem Env.b_Net_has_picture : Binds K T.d_Net_has_picture ["self", "k"] [] := T.F_Net_has_picture.binds fun _ _ _ _ _ _ us hl => match us, hl with | [_, _], _ => rfl
theorem Env.b_Net_process : Binds K T.d_Net_process ["self", "p"] [] := T.F_Net_process.binds fun _ _ _ _ _ _ us hl => match us, hl with | [_, _], _ => rfl
theorem Env.b_Net_channel : Binds K T.d_Net_channel ["self", "c"] [] := T.F_Net_channel.binds fun _ _ _ _ _ _ us hl => match us, hl with | [_, _], _ => rfl
theorem Env.b_Net_sender : Binds K T.d_Net_sender ["self", "c"] [] := T.F_Net_sender.binds fun _ _ _ _ _ _ us hl => match us, hl with | [_, _], _ => rfl
theorem Env.b_Net_getter : Binds K T.d_Net_getter ["self", "c"] [] := T.F_Net_getter.binds fun _ _ _ _ _ _ us hl => match us, hl with | [_, _], _ => rfl
theorem Env.b_Net_coins_in_purses : Binds K T.d_Net_coins_in_purses ["self"] [] := T.F_Net_coins_in_purses.binds fun _ _ _ _ _ _ us hl => match us, hl with | [_], _ => rfl
theorem Env.b_Net_coins_on_channels : Binds K T.d_Net_coins_on_channels ["self"] [] := T.F_Net_coins_on_channels.binds fun _ _ _ _ _ _ us hl => match us, hl with | [_], _ => rfl
theorem Env.b_Net_count_deed : Binds K T.d_Net_count_deed ["self", "p"] [] := T.F_Net_count_deed.binds fun _ _ _ _ _ _ us hl => match us, hl with | [_, _], _ => rfl
theorem Env.b_Net_put_as_deed : Binds K T.d_Net_put_as_deed ["self", "c", "coins", "hops"] [] := T.F_Net_put_as_deed.binds fun _ _ _ _ _ _ us hl => match us, hl with | [_, _, _, _], _ => rfl
theorem Env.b_Net_put_message : Binds K T.d_Net_put_message ["self", "c", "coins", "hops"] [] := T.F_Net_put_message.binds fun _ _ _ _ _ _ us hl => match us, hl with | [_, _, _, _], _ => rfl
theorem Env.b_Net_get_message : Binds K T.d_Net_get_message ["self", "c", "message"] [] := T.F_Net_get_message.binds fun _ _ _ _ _ _ us hl => match us, hl with | [_, _, _], _ => rfl
theorem Env.b_Net_send_on : Binds K T.d_Net_send_on ["self", "process", "hops"] [] := T.F_Net_send_on.binds fun _ _ _ _ _ _ us hl => match us, hl with | [_, _, _], _ => rfl
theorem Env.b_Net_begin_picture : Binds K T.d_Net_begin_picture ["self"] [] := T.F_Net_begin_picture.binds fun _ _ _ _ _ _ us hl => match us, hl with | [_], _ => rfl
theorem Env.b_Net_record : Binds K T.d_Net_record ["self", "k", "p"] [] := T.F_Net_record.binds fun _ _ _ _ _ _ us hl => match us, hl with | [_, _, _], _ => rfl
theorem Env.b_Net_record_once : Binds K T.d_Net_record_once ["self", "k", "p"] [] := T.F_Net_record_once.binds fun _ _ _ _ _ _ us hl => match us, hl with | [_, _, _], _ => rfl
theorem Env.b_Net_take_first : Binds K T.d_Net_take_first ["self", "c"] [] := T.F_Net_take_first.binds fun _ _ _ _ _ _ us hl => match us, hl with | [_, _], _ => rfl
theorem Env.b_Net_take_mark : Binds K T.d_Net_take_mark ["self", "c", "k"] [] := T.F_Net_take_mark.binds fun _ _ _ _ _ _ us hl => match us, hl with | [_, _, _], _ => rfl
theorem Env.b_Net_take_message : Binds K T.d_Net_take_message ["self", "c", "message"] [] := T.F_Net_take_message.binds fun _ _ _ _ _ _ us hl => match us, hl with | [_, _, _], _ => rfl
theorem Env.b_Net_take_round : Binds K T.d_Net_take_round ["self"] [] := T.F_Net_take_round.binds fun _ _ _ _ _ _ us hl => match us, hl with | [_], _ => rfl
theorem Env.b_Net_drop_picture : Binds K T.d_Net_drop_picture ["self", "k"] [] := T.F_Net_drop_picture.binds fun _ _ _ _ _ _ us hl => match us, hl with | [_, _], _ => rfl
theorem Env.b_Net_whole_pictures : Binds K T.d_Net_whole_pictures ["self"] [] := T.F_Net_whole_pictures.binds fun _ _ _ _ _ _ us hl => match us, hl with | [_], _ => rfl
theorem Env.b_Net_keep_whole_pictures : Binds K T.d_Net_keep_whole_pictures ["self"] [] := T.F_Net_keep_whole_pictures.binds fun _ _ _ _ _ _ us hl => match us, hl with | [_], _ => rfl
theorem Env.b_Net_go_back : Binds K T.d_Net_go_back ["self", "k"] [] := T.F_Net_go_back.binds fun _ _ _ _ _ _ us hl => match us, hl with | [_, _], _ => rfl
theorem Env.b_Reader_init : Binds K T.d_Reader_init ["self", "numbers"] [] := T.F_Reader_init.binds fun _ _ _ _ _ _ us hl => match us, hl with | [_, _], _ => rfl
theorem Env.b_Reader_has_more : Binds K T.d_Reader_has_more ["self"] [] := T.F_Reader_has_more.binds fun _ _ _ _ _ _ us hl => match us, hl with | [_], _ => rfl
theorem Env.b_Reader_read_number : Binds K T.d_Reader_read_number ["self"] [] := T.F_Reader_read_number.binds fun _ _ _ _ _ _ us hl => match us, hl with | [_], _ => rfl
theorem Env.b_Reader_read_row : Binds K T.d_Reader_read_row ["self"] [] := T.F_Reader_read_row.binds fun _ _ _ _ _ _ us hl => match us, hl with | [_], _ => rfl
theorem Env.b_answer_net : Binds K T.d_answer_net ["net", "reader"] [] := T.F_answer_net.binds fun _ _ _ _ _ _ us hl => match us, hl with | [_, _], _ => rfl
theorem Env.b_answer_put : Binds K T.d_answer_put ["net", "reader"] [] := T.F_answer_put.binds fun _ _ _ _ _ _ us hl => match us, hl with | [_, _], _ => rfl
theorem Env.b_answer_take : Binds K T.d_answer_take ["net", "reader"] [] := T.F_answer_take.binds fun _ _ _ _ _ _ us hl => match us, hl with | [_, _], _ => rfl
theorem Env.b_answer_turns : Binds K T.d_answer_turns ["net", "reader"] [] := T.F_answer_turns.binds fun _ _ _ _ _ _ us hl => match us, hl with | [_, _], _ => rfl
theorem Env.b_are_processes_told_once : Binds K T.d_are_processes_told_once ["net", "told"] [] := T.F_are_processes_told_once.binds fun _ _ _ _ _ _ us hl => match us, hl with | [_, _], _ => rfl
theorem Env.b_answer_cut : Binds K T.d_answer_cut ["net", "reader"] [] := T.F_answer_cut.binds fun _ _ _ _ _ _ us hl => match us, hl with | [_, _], _ => rfl
theorem Env.b_answer_join : Binds K T.d_answer_join ["net", "reader"] [] := T.F_answer_join.binds fun _ _ _ _ _ _ us hl => match us, hl with | [_, _], _ => rfl
theorem Env.b_tell_picture : Binds K T.d_tell_picture ["picture"] [] := T.F_tell_picture.binds fun _ _ _ _ _ _ us hl => match us, hl with | [_], _ => rfl
theorem Env.b_answer_picture : Binds K T.d_answer_picture ["net", "reader"] [] := T.F_answer_picture.binds fun _ _ _ _ _ _ us hl => match us, hl with | [_, _], _ => rfl
theorem Env.b_answer_lacks : Binds K T.d_answer_lacks ["net", "reader"] [] := T.F_answer_lacks.binds fun _ _ _ _ _ _ us hl => match us, hl with | [_, _], _ => rfl
theorem Env.b_answer_count : Binds K T.d_answer_count ["net", "reader"] [] := T.F_answer_count.binds fun _ _ _ _ _ _ us hl => match us, hl with | [_, _], _ => rfl
theorem Env.b_answer_fall : Binds K T.d_answer_fall ["net", "reader"] [] := T.F_answer_fall.binds fun _ _ _ _ _ _ us hl => match us, hl with | [_, _], _ => rfl
theorem Env.b_answer_back : Binds K T.d_answer_back ["net", "reader"] [] := T.F_answer_back.binds fun _ _ _ _ _ _ us hl => match us, hl with | [_, _], _ => rfl
theorem Env.b_answer_drop : Binds K T.d_answer_drop ["net", "reader"] [] := T.F_answer_drop.binds fun _ _ _ _ _ _ us hl => match us, hl with | [_, _], _ => rfl
theorem Env.b_answer_shows : Binds K T.d_answer_shows ["net", "reader"] [] := T.F_answer_shows.binds fun _ _ _ _ _ _ us hl => match us, hl with | [_, _], _ => rfl
theorem Env.b_tell_waiting : Binds K T.d_tell_waiting ["thing"] [] := T.F_tell_waiting.binds fun _ _ _ _ _ _ us hl => match us, hl with | [_], _ => rfl
theorem Env.b_answer_channel : Binds K T.d_answer_channel ["net", "reader"] [] := T.F_answer_channel.binds fun _ _ _ _ _ _ us hl => match us, hl with | [_, _], _ => rfl
theorem Env.b_answer_total : Binds K T.d_answer_total ["net", "reader"] [] := T.F_answer_total.binds fun _ _ _ _ _ _ us hl => match us, hl with | [_, _], _ => rfl
theorem Env.b_answer_newest : Binds K T.d_answer_newest ["net", "reader"] [] := T.F_answer_newest.binds fun _ _ _ _ _ _ us hl => match us, hl with | [_, _], _ => rfl
theorem Env.b_answers : Binds K T.d_answers ["calls"] [] := T.F_answers.binds fun _ _ _ _ _ _ us hl => match us, hl with | [_], _ => rfl
end
theorem env_of {K : PySem.W.Frag} {mg : Str → Option Value} {h : Heap} (X : K.In h) (G : h.Ns mainGlobals mg) {z0 : Addr} {z1 : Addr} {z2 : Addr} {z3 : Addr} {z4 : Addr} {z5 : Addr} {z6 : Addr} {z7 : Addr} {z8 z9 : Option Addr} {za zb zc zd ze zf : Value} {zg : Array (Option Value)} {zh : Addr} {zi zj : Option Addr} {zk zl zm zn zo zp : Value} {zq : Array (Option Value)} {zr : Addr} {zs zt : Option Addr} {zu zv zw zx zy zz : Value} {z10 : Array (Option Value)} {z11 : Addr} {z12 z13 : Option Addr} {z14 z15 z16 z17 z18 z19 : Value} {z1a : Array (Option Value)} {z1b : Addr} {z1c z1d : Option Addr} {z1e z1f z1g z1h z1i z1j : Value} {z1k : Array (Option Value)} {z1l : Addr} {z1m z1n : Option Addr} {z1o z1p z1q z1r z1s z1t : Value} {z1u : Array (Option Value)} {z1v : Addr} {z1w z1x : Option Addr} {z1y z1z z20 z21 z22 z23 : Value} {z24 : Array (Option Value)} {z25 : Addr} {z26 z27 : Option Addr} {z28 z29 z2a z2b z2c z2d : Value} {z2e : Array (Option Value)} {z2f : Addr} {z2g z2h : Option Addr} {z2i z2j z2k z2l z2m z2n : Value} {z2o : Array (Option Value)} {z2p : Addr} {z2q z2r : Option Addr} {z2s z2t z2u z2v z2w z2x : Value} {z2y : Array (Option Value)} {z2z : Addr} {z30 z31 : Option Addr} {z32 z33 z34 z35 z36 z37 : Value} {z38 : Array (Option Value)} {z39 : Addr} {z3a z3b : Option Addr} {z3c z3d z3e z3f z3g z3h : Value} {z3i : Array (Option Value)} {z3j : Addr} {z3k z3l : Option Addr} {z3m z3n z3o z3p z3q z3r : Value} {z3s : Array (Option Value)} {z3t : Addr} {z3u z3v : Option Addr} {z3w z3x z3y z3z z40 z41 : Value} {z42 : Array (Option Value)} {z43 : Addr} {z44 z45 : Option Addr} {z46 z47 z48 z49 z4a z4b : Value} {z4c : Array (Option Value)} {z4d : Addr} {z4e z4f : Option Addr} {z4g z4h z4i z4j z4k z4l : Value} {z4m : Array (Option Value)} {z4n : Addr} {z4o z4p : Option Addr} {z4q z4r z4s z4t z4u z4v : Value} {z4w : Array (Option Value)} {z4x : Addr} {z4y z4z : Option Addr} {z50 z51 z52 z53 z54 z55 : Value} {z56 : Array (Option Value)} {z57 : Addr} {z58 z59 : Option Addr} {z5a z5b z5c z5d z5e z5f : Value} {z5g : Array (Option Value)} {z5h : Addr} {z5i z5j : Option Addr} {z5k z5l z5m z5n z5o z5p : Value} {z5q : Array (Option Value)} {z5r : Addr} {z5s z5t : Option Addr} {z5u z5v z5w z5x z5y z5z : Value} {z60 : Array (Option Value)} {z61 : Addr} {z62 z63 : Option Addr} {z64 z65 z66 z67 z68 z69 : Value} {z6a : Array (Option Value)} {z6b : Addr} {z6c z6d : Option Addr} {z6e z6f z6g z6h z6i z6j : Value} {z6k : Array (Option Value)} {z6l : Addr} {z6m z6n : Option Addr} {z6o z6p z6q z6r z6s z6t : Value} {z6u : Array (Option Value)} {z6v : Addr} {z6w z6x : Option Addr} {z6y z6z z70 z71 z72 z73 : Value} {z74 : Array (Option Value)} {z75 : Addr} {z76 z77 : Option Addr} {z78 z79 z7a z7b z7c z7d : Value} {z7e : Array (Option Value)} {z7f : Addr} {z7g z7h : Option Addr} {z7i z7j z7k z7l z7m z7n : Value} {z7o : Array (Option Value)} {z7p : Addr} {z7q z7r : Option Addr} {z7s z7t z7u z7v z7w z7x : Value} {z7y : Array (Option Value)} {z7z : Addr} {z80 z81 : Option Addr} {z82 z83 z84 z85 z86 z87 : Value} {z88 : Array (Option Value)} {z89 : Addr} {z8a z8b : Option Addr} {z8c z8d z8e z8f z8g z8h : Value} {z8i : Array (Option Value)} {z8j : Addr} {z8k z8l : Option Addr} {z8m z8n z8o z8p z8q z8r : Value} {z8s : Array (Option Value)} {z8t : Addr} {z8u z8v : Option Addr} {z8w z8x z8y z8z z90 z91 : Value} {z92 : Array (Option Value)} {z93 : Addr} {z94 z95 : Option Addr} {z96 z97 z98 z99 z9a z9b : Value} {z9c : Array (Option Value)} {z9d : Addr} {z9e z9f : Option Addr} {z9g z9h z9i z9j z9k z9l : Value} {z9m : Array (Option Value)} {z9n : Addr} {z9o z9p : Option Addr} {z9q z9r z9s z9t z9u z9v : Value} {z9w : Array (Option Value)} {z9x : Addr} {z9y z9z : Option Addr} {za0 za1 za2 za3 za4 za5 : Value} {za6 : Array (Option Value)} {za7 : Addr} {za8 za9 : Option Addr} {zaa zab zac zad zae zaf : Value} {zag : Array (Option Value)} {zah : Addr} {zai zaj : Option Addr} {zak zal zam zan zao zap : Value} {zaq : Array (Option Value)} {zar : Addr} {zas zat : Option Addr} {zau zav zaw zax zay zaz : Value} {zb0 : Array (Option Value)} {zb1 : Addr} {zb2 zb3 : Option Addr} {zb4 zb5 zb6 zb7 zb8 zb9 : Value} {zba : Array (Option Value)} {zbb : Addr} {zbc zbd : Option Addr} {zbe zbf zbg zbh zbi zbj : Value} {zbk : Array (Option Value)} {zbl : Addr} {zbm zbn : Option Addr} {zbo zbp zbq zbr zbs zbt : Value} {zbu : Array (Option Value)} {zbv : Addr} {zbw zbx : Option Addr} {zby zbz zc0 zc1 zc2 zc3 : Value} {zc4 : Array (Option Value)} {zc5 : Addr} {zc6 zc7 : Option Addr} {zc8 zc9 zca zcb zcc zcd : Value} {zce : Array (Option Value)} {zcf : Addr} {zcg zch : Option Addr} {zci zcj zck zcl zcm zcn : Value} {zco : Array (Option Value)} {zcp : Addr} {zcq zcr : Option Addr} {zcs zct zcu zcv zcw zcx : Value} {zcy : Array (Option Value)} {zcz : Addr} {zd0 zd1 : Option Addr} {zd2 zd3 zd4 zd5 zd6 zd7 : Value} {zd8 : Array (Option Value)} {zd9 : Addr} {zda zdb : Option Addr} {zdc zdd zde zdf zdg zdh : Value} {zdi : Array (Option Value)} {zdj : Addr} {zdk zdl : Option Addr} {zdm zdn zdo zdp zdq zdr : Value} {zds : Array (Option Value)} {zdt : Addr} {zdu zdv : Option Addr} {zdw zdx zdy zdz ze0 ze1 : Value} {ze2 : Array (Option Value)} {ze3 : Addr} {ze4 ze5 : Option Addr} {ze6 ze7 ze8 ze9 zea zeb : Value} {zec : Array (Option Value)} {zed : Addr} {zee zef : Option Addr} {zeg zeh zei zej zek zel : Value} {zem : Array (Option Value)} {zen : Addr} {zeo zep : Option Addr} {zeq zer zes zet zeu zev : Value} {zew : Array (Option Value)} {zex : Addr} {zey zez : Option Addr} {zf0 zf1 zf2 zf3 zf4 zf5 : Value} {zf6 : Array (Option Value)} {zf7 : Addr} {zf8 zf9 : Option Addr} {zfa zfb zfc zfd zfe zff : Value} {zfg : Array (Option Value)} {zfh : Addr} {zfi zfj : Option Addr} {zfk zfl zfm zfn zfo zfp : Value} {zfq : Array (Option Value)} {zfr : Addr} {zfs zft : Option Addr} {zfu zfv zfw zfx zfy zfz : Value} {zg0 : Array (Option Value)} {zg1 : Addr} {zg2 zg3 : Option Addr} {zg4 zg5 zg6 zg7 zg8 zg9 : Value} {zga : Array (Option Value)} {zgb : Addr} {zgc zgd : Option Addr} {zge zgf zgg zgh zgi zgj : Value} {zgk : Array (Option Value)} {zgl : Addr} {zgm zgn : Option Addr} {zgo zgp zgq zgr zgs zgt : Value} {zgu : Array (Option Value)} {zgv : Addr} {zgw zgx : Option Addr} {zgy zgz zh0 zh1 zh2 zh3 : Value} {zh4 : Array (Option Value)} {zh5 : Addr} {zh6 zh7 : Option Addr} {zh8 zh9 zha zhb zhc zhd : Value} {zhe : Array (Option Value)} {zhf : Addr} {zhg zhh : Option Addr} {zhi zhj zhk zhl zhm zhn : Value} {zho : Array (Option Value)} {zhp : Addr} {zhq zhr : Option Addr} {zhs zht zhu zhv zhw zhx : Value} {zhy : Array (Option Value)} {zhz : Addr} {zi0 zi1 : Option Addr} {zi2 zi3 zi4 zi5 zi6 zi7 : Value} {zi8 : Array (Option Value)} {zi9 : Tok} {zia : Tok} {zib : Tok} {zic : Addr} {zid : Option Addr} {zie : Nat} {zif : Array (Option Value)} {zig : Tok} {zih : Tok} {zii : Addr} {zij : Option Addr} {zik : Nat} {zil : Array (Option Value)} {zim : Tok} {zin : Tok} {zio : Tok} {zip : Tok} {ziq : Tok} {zir : Tok} {zis : Tok} {zit : Tok} {ziu : Tok} {ziv : Tok} {ziw : Tok} {zix : Tok} {ziy : Addr} {ziz : Option Addr} {zj0 : Nat} {zj1 : Array (Option Value)} (zj2 : PySem.W.nsIn K mainGlobals "Message" = some (some (.ref z0))) (zj3 : PySem.W.plainGet K z0 Str.empty = true) (zj4 : PySem.W.hasDictIn K z0 = true) (zj5 : PySem.W.plainOver K z0 = true) (zj6 : PySem.W.findIn K (.ref z0) "__setattr__" = some (some (.builtin "object.__setattr__"))) (zj7 : PySem.W.findIn K (.ref z0) "coins" = some none) (zj8 : PySem.W.findIn K (.ref z0) "memory" = some none) (zj9 : PySem.W.findIn K (.ref z0) "hops" = some none) (zja : PySem.W.nsIn K mainGlobals "Mark" = some (some (.ref z1))) (zjb : PySem.W.plainGet K z1 Str.empty = true) (zjc : PySem.W.hasDictIn K z1 = true) (zjd : PySem.W.plainOver K z1 = true) (zje : PySem.W.findIn K (.ref z1) "__setattr__" = some (some (.builtin "object.__setattr__"))) (zjf : PySem.W.findIn K (.ref z1) "picture_number" = some none) (zjg : PySem.W.nsIn K mainGlobals "Process" = some (some (.ref z2))) (zjh : PySem.W.plainGet K z2 Str.empty = true) (zji : PySem.W.hasDictIn K z2 = true) (zjj : PySem.W.plainOver K z2 = true) (zjk : PySem.W.findIn K (.ref z2) "__setattr__" = some (some (.builtin "object.__setattr__"))) (zjl : PySem.W.findIn K (.ref z2) "purse" = some none) (zjm : PySem.W.findIn K (.ref z2) "memory" = some none) (zjn : PySem.W.findIn K (.ref z2) "down" = some none) (zjo : PySem.W.findIn K (.ref z2) "leaving" = some none) (zjp : PySem.W.nsIn K mainGlobals "Channel" = some (some (.ref z3))) (zjq : PySem.W.plainGet K z3 Str.empty = true) (zjr : PySem.W.hasDictIn K z3 = true) (zjs : PySem.W.plainOver K z3 = true) (zjt : PySem.W.findIn K (.ref z3) "__setattr__" = some (some (.builtin "object.__setattr__"))) (zju : PySem.W.findIn K (.ref z3) "source" = some none) (zjv : PySem.W.findIn K (.ref z3) "target" = some none) (zjw : PySem.W.findIn K (.ref z3) "waiting" = some none) (zjx : PySem.W.nsIn K mainGlobals "Picture" = some (some (.ref z4))) (zjy : PySem.W.plainGet K z4 Str.empty = true) (zjz : PySem.W.hasDictIn K z4 = true) (zk0 : PySem.W.plainOver K z4 = true) (zk1 : PySem.W.findIn K (.ref z4) "__setattr__" = some (some (.builtin "object.__setattr__"))) (zk2 : PySem.W.findIn K (.ref z4) "process_count" = some none) (zk3 : PySem.W.findIn K (.ref z4) "deeds_before" = some none) (zk4 : PySem.W.findIn K (.ref z4) "records" = some none) (zk5 : PySem.W.findIn K (.ref z4) "shut" = some none) (zk6 : PySem.W.findIn K (.ref z4) "caught" = some none) (zk7 : PySem.W.nsIn K mainGlobals "Net" = some (some (.ref z5))) (zk8 : PySem.W.plainGet K z5 Str.empty = true) (zk9 : PySem.W.hasDictIn K z5 = true) (zka : PySem.W.plainOver K z5 = true) (zkb : PySem.W.findIn K (.ref z5) "__setattr__" = some (some (.builtin "object.__setattr__"))) (zkc : PySem.W.findIn K (.ref z5) "processes" = some none) (zkd : PySem.W.findIn K (.ref z5) "channels" = some none) (zke : PySem.W.findIn K (.ref z5) "pictures" = some none) (zkf : PySem.W.findIn K (.ref z5) "begun" = some none) (zkg : PySem.W.findIn K (.ref z5) "deeds" = some none) (zkh : PySem.W.nsIn K mainGlobals "Reader" = some (some (.ref z6))) (zki : PySem.W.plainGet K z6 Str.empty = true) (zkj : PySem.W.hasDictIn K z6 = true) (zkk : PySem.W.plainOver K z6 = true) (zkl : PySem.W.findIn K (.ref z6) "__setattr__" = some (some (.builtin "object.__setattr__"))) (zkm : PySem.W.findIn K (.ref z6) "numbers" = some none) (zkn : PySem.W.findIn K (.ref z6) "place" = some none) (zko : PySem.W.findIn K (.ref z0) "__init__" = some (some (.ref z7))) (zkp : PySem.W.isFn K (.ref z7) = true) (zkq : K.lookup z7 = some ⟨za, z8, .func (PySem.W.fnOf "__init__" "Message.__init__" (defArgs s_Message_init) (defBody s_Message_init) (defScope s_Message_init) .none zb zc zd z9 ze zf), zg⟩) (zkr : PySem.W.codeIn K ze "Message.__init__" = true) (zks : PySem.W.keepIn K (.ref z7) = true) (zkt : PySem.W.findIn K (.ref z1) "__init__" = some (some (.ref zh))) (zku : PySem.W.isFn K (.ref zh) = true) (zkv : K.lookup zh = some ⟨zk, zi, .func (PySem.W.fnOf "__init__" "Mark.__init__" (defArgs s_Mark_init) (defBody s_Mark_init) (defScope s_Mark_init) .none zl zm zn zj zo zp), zq⟩) (zkw : PySem.W.codeIn K zo "Mark.__init__" = true) (zkx : PySem.W.keepIn K (.ref zh) = true) (zky : PySem.W.nsIn K mainGlobals "coins_among" = some (some (.ref zr))) (zkz : K.lookup zr = some ⟨zu, zs, .func (PySem.W.fnOf "coins_among" "coins_among" (defArgs s_coins_among) (defBody s_coins_among) (defScope s_coins_among) .none zv zw zx zt zy zz), z10⟩) (zl0 : PySem.W.codeIn K zy "coins_among" = true) (zl1 : PySem.W.keepIn K (.ref zr) = true) (zl2 : PySem.W.findIn K (.ref z2) "__init__" = some (some (.ref z11))) (zl3 : PySem.W.isFn K (.ref z11) = true) (zl4 : K.lookup z11 = some ⟨z14, z12, .func (PySem.W.fnOf "__init__" "Process.__init__" (defArgs s_Process_init) (defBody s_Process_init) (defScope s_Process_init) .none z15 z16 z17 z13 z18 z19), z1a⟩) (zl5 : PySem.W.codeIn K z18 "Process.__init__" = true) (zl6 : PySem.W.keepIn K (.ref z11) = true) (zl7 : PySem.W.findIn K (.ref z2) "fall" = some (some (.ref z1b))) (zl8 : PySem.W.isFn K (.ref z1b) = true) (zl9 : K.lookup z1b = some ⟨z1e, z1c, .func (PySem.W.fnOf "fall" "Process.fall" (defArgs s_Process_fall) (defBody s_Process_fall) (defScope s_Process_fall) .none z1f z1g z1h z1d z1i z1j), z1k⟩) (zla : PySem.W.codeIn K z1i "Process.fall" = true) (zlb : PySem.W.keepIn K (.ref z1b) = true) (zlc : PySem.W.findIn K (.ref z2) "rise" = some (some (.ref z1l))) (zld : PySem.W.isFn K (.ref z1l) = true) (zle : K.lookup z1l = some ⟨z1o, z1m, .func (PySem.W.fnOf "rise" "Process.rise" (defArgs s_Process_rise) (defBody s_Process_rise) (defScope s_Process_rise) .none z1p z1q z1r z1n z1s z1t), z1u⟩) (zlf : PySem.W.codeIn K z1s "Process.rise" = true) (zlg : PySem.W.keepIn K (.ref z1l) = true) (zlh : PySem.W.findIn K (.ref z3) "__init__" = some (some (.ref z1v))) (zli : PySem.W.isFn K (.ref z1v) = true) (zlj : K.lookup z1v = some ⟨z1y, z1w, .func (PySem.W.fnOf "__init__" "Channel.__init__" (defArgs s_Channel_init) (defBody s_Channel_init) (defScope s_Channel_init) .none z1z z20 z21 z1x z22 z23), z24⟩) (zlk : PySem.W.codeIn K z22 "Channel.__init__" = true) (zll : PySem.W.keepIn K (.ref z1v) = true) (zlm : PySem.W.findIn K (.ref z4) "__init__" = some (some (.ref z25))) (zln : PySem.W.isFn K (.ref z25) = true) (zlo : K.lookup z25 = some ⟨z28, z26, .func (PySem.W.fnOf "__init__" "Picture.__init__" (defArgs s_Picture_init) (defBody s_Picture_init) (defScope s_Picture_init) .none z29 z2a z2b z27 z2c z2d), z2e⟩) (zlp : PySem.W.codeIn K z2c "Picture.__init__" = true) (zlq : PySem.W.keepIn K (.ref z25) = true) (zlr : PySem.W.findIn K (.ref z4) "has_record" = some (some (.ref z2f))) (zls : PySem.W.isFn K (.ref z2f) = true) (zlt : K.lookup z2f = some ⟨z2i, z2g, .func (PySem.W.fnOf "has_record" "Picture.has_record" (defArgs s_Picture_has_record) (defBody s_Picture_has_record) (defScope s_Picture_has_record) .none z2j z2k z2l z2h z2m z2n), z2o⟩) (zlu : PySem.W.codeIn K z2m "Picture.has_record" = true) (zlv : PySem.W.keepIn K (.ref z2f) = true) (zlw : PySem.W.findIn K (.ref z4) "is_shut" = some (some (.ref z2p))) (zlx : PySem.W.isFn K (.ref z2p) = true) (zly : K.lookup z2p = some ⟨z2s, z2q, .func (PySem.W.fnOf "is_shut" "Picture.is_shut" (defArgs s_Picture_is_shut) (defBody s_Picture_is_shut) (defScope s_Picture_is_shut) .none z2t z2u z2v z2r z2w z2x), z2y⟩) (zlz : PySem.W.codeIn K z2w "Picture.is_shut" = true) (zm0 : PySem.W.keepIn K (.ref z2p) = true) (zm1 : PySem.W.findIn K (.ref z4) "is_whole" = some (some (.ref z2z))) (zm2 : PySem.W.isFn K (.ref z2z) = true) (zm3 : K.lookup z2z = some ⟨z32, z30, .func (PySem.W.fnOf "is_whole" "Picture.is_whole" (defArgs s_Picture_is_whole) (defBody s_Picture_is_whole) (defScope s_Picture_is_whole) .none z33 z34 z35 z31 z36 z37), z38⟩) (zm4 : PySem.W.codeIn K z36 "Picture.is_whole" = true) (zm5 : PySem.W.keepIn K (.ref z2z) = true) (zm6 : PySem.W.findIn K (.ref z4) "see_message" = some (some (.ref z39))) (zm7 : PySem.W.isFn K (.ref z39) = true) (zm8 : K.lookup z39 = some ⟨z3c, z3a, .func (PySem.W.fnOf "see_message" "Picture.see_message" (defArgs s_Picture_see_message) (defBody s_Picture_see_message) (defScope s_Picture_see_message) .none z3d z3e z3f z3b z3g z3h), z3i⟩) (zm9 : PySem.W.codeIn K z3g "Picture.see_message" = true) (zma : PySem.W.keepIn K (.ref z39) = true) (zmb : PySem.W.findIn K (.ref z4) "see_deed" = some (some (.ref z3j))) (zmc : PySem.W.isFn K (.ref z3j) = true) (zmd : K.lookup z3j = some ⟨z3m, z3k, .func (PySem.W.fnOf "see_deed" "Picture.see_deed" (defArgs s_Picture_see_deed) (defBody s_Picture_see_deed) (defScope s_Picture_see_deed) .none z3n z3o z3p z3l z3q z3r), z3s⟩) (zme : PySem.W.codeIn K z3q "Picture.see_deed" = true) (zmf : PySem.W.keepIn K (.ref z3j) = true) (zmg : PySem.W.findIn K (.ref z4) "all_coins" = some (some (.ref z3t))) (zmh : PySem.W.isFn K (.ref z3t) = true) (zmi : K.lookup z3t = some ⟨z3w, z3u, .func (PySem.W.fnOf "all_coins" "Picture.all_coins" (defArgs s_Picture_all_coins) (defBody s_Picture_all_coins) (defScope s_Picture_all_coins) .none z3x z3y z3z z3v z40 z41), z42⟩) (zmj : PySem.W.codeIn K z40 "Picture.all_coins" = true) (zmk : PySem.W.keepIn K (.ref z3t) = true) (zml : PySem.W.findIn K (.ref z5) "__init__" = some (some (.ref z43))) (zmm : PySem.W.isFn K (.ref z43) = true) (zmn : K.lookup z43 = some ⟨z46, z44, .func (PySem.W.fnOf "__init__" "Net.__init__" (defArgs s_Net_init) (defBody s_Net_init) (defScope s_Net_init) .none z47 z48 z49 z45 z4a z4b), z4c⟩) (zmo : PySem.W.codeIn K z4a "Net.__init__" = true) (zmp : PySem.W.keepIn K (.ref z43) = true) (zmq : PySem.W.findIn K (.ref z5) "lay" = some (some (.ref z4d))) (zmr : PySem.W.isFn K (.ref z4d) = true) (zms : K.lookup z4d = some ⟨z4g, z4e, .func (PySem.W.fnOf "lay" "Net.lay" (defArgs s_Net_lay) (defBody s_Net_lay) (defScope s_Net_lay) .none z4h z4i z4j z4f z4k z4l), z4m⟩) (zmt : PySem.W.codeIn K z4k "Net.lay" = true) (zmu : PySem.W.keepIn K (.ref z4d) = true) (zmv : PySem.W.findIn K (.ref z5) "has_process" = some (some (.ref z4n))) (zmw : PySem.W.isFn K (.ref z4n) = true) (zmx : K.lookup z4n = some ⟨z4q, z4o, .func (PySem.W.fnOf "has_process" "Net.has_process" (defArgs s_Net_has_process) (defBody s_Net_has_process) (defScope s_Net_has_process) .none z4r z4s z4t z4p z4u z4v), z4w⟩) (zmy : PySem.W.codeIn K z4u "Net.has_process" = true) (zmz : PySem.W.keepIn K (.ref z4n) = true) (zn0 : PySem.W.findIn K (.ref z5) "has_channel" = some (some (.ref z4x))) (zn1 : PySem.W.isFn K (.ref z4x) = true) (zn2 : K.lookup z4x = some ⟨z50, z4y, .func (PySem.W.fnOf "has_channel" "Net.has_channel" (defArgs s_Net_has_channel) (defBody s_Net_has_channel) (defScope s_Net_has_channel) .none z51 z52 z53 z4z z54 z55), z56⟩) (zn3 : PySem.W.codeIn K z54 "Net.has_channel" = true) (zn4 : PySem.W.keepIn K (.ref z4x) = true) (zn5 : PySem.W.findIn K (.ref z5) "has_picture" = some (some (.ref z57))) (zn6 : PySem.W.isFn K (.ref z57) = true) (zn7 : K.lookup z57 = some ⟨z5a, z58, .func (PySem.W.fnOf "has_picture" "Net.has_picture" (defArgs s_Net_has_picture) (defBody s_Net_has_picture) (defScope s_Net_has_picture) .none z5b z5c z5d z59 z5e z5f), z5g⟩) (zn8 : PySem.W.codeIn K z5e "Net.has_picture" = true) (zn9 : PySem.W.keepIn K (.ref z57) = true) (zna : PySem.W.findIn K (.ref z5) "process" = some (some (.ref z5h))) (znb : PySem.W.isFn K (.ref z5h) = true) (znc : K.lookup z5h = some ⟨z5k, z5i, .func (PySem.W.fnOf "process" "Net.process" (defArgs s_Net_process) (defBody s_Net_process) (defScope s_Net_process) .none z5l z5m z5n z5j z5o z5p), z5q⟩) (znd : PySem.W.codeIn K z5o "Net.process" = true) (zne : PySem.W.keepIn K (.ref z5h) = true) (znf : PySem.W.findIn K (.ref z5) "channel" = some (some (.ref z5r))) (zng : PySem.W.isFn K (.ref z5r) = true) (znh : K.lookup z5r = some ⟨z5u, z5s, .func (PySem.W.fnOf "channel" "Net.channel" (defArgs s_Net_channel) (defBody s_Net_channel) (defScope s_Net_channel) .none z5v z5w z5x z5t z5y z5z), z60⟩) (zni : PySem.W.codeIn K z5y "Net.channel" = true) (znj : PySem.W.keepIn K (.ref z5r) = true) (znk : PySem.W.findIn K (.ref z5) "sender" = some (some (.ref z61))) (znl : PySem.W.isFn K (.ref z61) = true) (znm : K.lookup z61 = some ⟨z64, z62, .func (PySem.W.fnOf "sender" "Net.sender" (defArgs s_Net_sender) (defBody s_Net_sender) (defScope s_Net_sender) .none z65 z66 z67 z63 z68 z69), z6a⟩) (znn : PySem.W.codeIn K z68 "Net.sender" = true) (zno : PySem.W.keepIn K (.ref z61) = true) (znp : PySem.W.findIn K (.ref z5) "getter" = some (some (.ref z6b))) (znq : PySem.W.isFn K (.ref z6b) = true) (znr : K.lookup z6b = some ⟨z6e, z6c, .func (PySem.W.fnOf "getter" "Net.getter" (defArgs s_Net_getter) (defBody s_Net_getter) (defScope s_Net_getter) .none z6f z6g z6h z6d z6i z6j), z6k⟩) (zns : PySem.W.codeIn K z6i "Net.getter" = true) (znt : PySem.W.keepIn K (.ref z6b) = true) (znu : PySem.W.findIn K (.ref z5) "coins_in_purses" = some (some (.ref z6l))) (znv : PySem.W.isFn K (.ref z6l) = true) (znw : K.lookup z6l = some ⟨z6o, z6m, .func (PySem.W.fnOf "coins_in_purses" "Net.coins_in_purses" (defArgs s_Net_coins_in_purses) (defBody s_Net_coins_in_purses) (defScope s_Net_coins_in_purses) .none z6p z6q z6r z6n z6s z6t), z6u⟩) (znx : PySem.W.codeIn K z6s "Net.coins_in_purses" = true) (zny : PySem.W.keepIn K (.ref z6l) = true) (znz : PySem.W.findIn K (.ref z5) "coins_on_channels" = some (some (.ref z6v))) (zo0 : PySem.W.isFn K (.ref z6v) = true) (zo1 : K.lookup z6v = some ⟨z6y, z6w, .func (PySem.W.fnOf "coins_on_channels" "Net.coins_on_channels" (defArgs s_Net_coins_on_channels) (defBody s_Net_coins_on_channels) (defScope s_Net_coins_on_channels) .none z6z z70 z71 z6x z72 z73), z74⟩) (zo2 : PySem.W.codeIn K z72 "Net.coins_on_channels" = true) (zo3 : PySem.W.keepIn K (.ref z6v) = true) (zo4 : PySem.W.findIn K (.ref z5) "count_deed" = some (some (.ref z75))) (zo5 : PySem.W.isFn K (.ref z75) = true) (zo6 : K.lookup z75 = some ⟨z78, z76, .func (PySem.W.fnOf "count_deed" "Net.count_deed" (defArgs s_Net_count_deed) (defBody s_Net_count_deed) (defScope s_Net_count_deed) .none z79 z7a z7b z77 z7c z7d), z7e⟩) (zo7 : PySem.W.codeIn K z7c "Net.count_deed" = true) (zo8 : PySem.W.keepIn K (.ref z75) = true) (zo9 : PySem.W.findIn K (.ref z5) "put_as_deed" = some (some (.ref z7f))) (zoa : PySem.W.isFn K (.ref z7f) = true) (zob : K.lookup z7f = some ⟨z7i, z7g, .func (PySem.W.fnOf "put_as_deed" "Net.put_as_deed" (defArgs s_Net_put_as_deed) (defBody s_Net_put_as_deed) (defScope s_Net_put_as_deed) .none z7j z7k z7l z7h z7m z7n), z7o⟩) (zoc : PySem.W.codeIn K z7m "Net.put_as_deed" = true) (zod : PySem.W.keepIn K (.ref z7f) = true) (zoe : PySem.W.findIn K (.ref z5) "put_message" = some (some (.ref z7p))) (zof : PySem.W.isFn K (.ref z7p) = true) (zog : K.lookup z7p = some ⟨z7s, z7q, .func (PySem.W.fnOf "put_message" "Net.put_message" (defArgs s_Net_put_message) (defBody s_Net_put_message) (defScope s_Net_put_message) .none z7t z7u z7v z7r z7w z7x), z7y⟩) (zoh : PySem.W.codeIn K z7w "Net.put_message" = true) (zoi : PySem.W.keepIn K (.ref z7p) = true) (zoj : PySem.W.findIn K (.ref z5) "get_message" = some (some (.ref z7z))) (zok : PySem.W.isFn K (.ref z7z) = true) (zol : K.lookup z7z = some ⟨z82, z80, .func (PySem.W.fnOf "get_message" "Net.get_message" (defArgs s_Net_get_message) (defBody s_Net_get_message) (defScope s_Net_get_message) .none z83 z84 z85 z81 z86 z87), z88⟩) (zom : PySem.W.codeIn K z86 "Net.get_message" = true) (zon : PySem.W.keepIn K (.ref z7z) = true) (zoo : PySem.W.findIn K (.ref z5) "send_on" = some (some (.ref z89))) (zop : PySem.W.isFn K (.ref z89) = true) (zoq : K.lookup z89 = some ⟨z8c, z8a, .func (PySem.W.fnOf "send_on" "Net.send_on" (defArgs s_Net_send_on) (defBody s_Net_send_on) (defScope s_Net_send_on) .none z8d z8e z8f z8b z8g z8h), z8i⟩) (zor : PySem.W.codeIn K z8g "Net.send_on" = true) (zos : PySem.W.keepIn K (.ref z89) = true) (zot : PySem.W.findIn K (.ref z5) "begin_picture" = some (some (.ref z8j))) (zou : PySem.W.isFn K (.ref z8j) = true) (zov : K.lookup z8j = some ⟨z8m, z8k, .func (PySem.W.fnOf "begin_picture" "Net.begin_picture" (defArgs s_Net_begin_picture) (defBody s_Net_begin_picture) (defScope s_Net_begin_picture) .none z8n z8o z8p z8l z8q z8r), z8s⟩) (zow : PySem.W.codeIn K z8q "Net.begin_picture" = true) (zox : PySem.W.keepIn K (.ref z8j) = true) (zoy : PySem.W.findIn K (.ref z5) "record" = some (some (.ref z8t))) (zoz : PySem.W.isFn K (.ref z8t) = true) (zp0 : K.lookup z8t = some ⟨z8w, z8u, .func (PySem.W.fnOf "record" "Net.record" (defArgs s_Net_record) (defBody s_Net_record) (defScope s_Net_record) .none z8x z8y z8z z8v z90 z91), z92⟩) (zp1 : PySem.W.codeIn K z90 "Net.record" = true) (zp2 : PySem.W.keepIn K (.ref z8t) = true) (zp3 : PySem.W.findIn K (.ref z5) "record_once" = some (some (.ref z93))) (zp4 : PySem.W.isFn K (.ref z93) = true) (zp5 : K.lookup z93 = some ⟨z96, z94, .func (PySem.W.fnOf "record_once" "Net.record_once" (defArgs s_Net_record_once) (defBody s_Net_record_once) (defScope s_Net_record_once) .none z97 z98 z99 z95 z9a z9b), z9c⟩) (zp6 : PySem.W.codeIn K z9a "Net.record_once" = true) (zp7 : PySem.W.keepIn K (.ref z93) = true) (zp8 : PySem.W.findIn K (.ref z5) "take_first" = some (some (.ref z9d))) (zp9 : PySem.W.isFn K (.ref z9d) = true) (zpa : K.lookup z9d = some ⟨z9g, z9e, .func (PySem.W.fnOf "take_first" "Net.take_first" (defArgs s_Net_take_first) (defBody s_Net_take_first) (defScope s_Net_take_first) .none z9h z9i z9j z9f z9k z9l), z9m⟩) (zpb : PySem.W.codeIn K z9k "Net.take_first" = true) (zpc : PySem.W.keepIn K (.ref z9d) = true) (zpd : PySem.W.findIn K (.ref z5) "take_mark" = some (some (.ref z9n))) (zpe : PySem.W.isFn K (.ref z9n) = true) (zpf : K.lookup z9n = some ⟨z9q, z9o, .func (PySem.W.fnOf "take_mark" "Net.take_mark" (defArgs s_Net_take_mark) (defBody s_Net_take_mark) (defScope s_Net_take_mark) .none z9r z9s z9t z9p z9u z9v), z9w⟩) (zpg : PySem.W.codeIn K z9u "Net.take_mark" = true) (zph : PySem.W.keepIn K (.ref z9n) = true) (zpi : PySem.W.findIn K (.ref z5) "take_message" = some (some (.ref z9x))) (zpj : PySem.W.isFn K (.ref z9x) = true) (zpk : K.lookup z9x = some ⟨za0, z9y, .func (PySem.W.fnOf "take_message" "Net.take_message" (defArgs s_Net_take_message) (defBody s_Net_take_message) (defScope s_Net_take_message) .none za1 za2 za3 z9z za4 za5), za6⟩) (zpl : PySem.W.codeIn K za4 "Net.take_message" = true) (zpm : PySem.W.keepIn K (.ref z9x) = true) (zpn : PySem.W.findIn K (.ref z5) "take_round" = some (some (.ref za7))) (zpo : PySem.W.isFn K (.ref za7) = true) (zpp : K.lookup za7 = some ⟨zaa, za8, .func (PySem.W.fnOf "take_round" "Net.take_round" (defArgs s_Net_take_round) (defBody s_Net_take_round) (defScope s_Net_take_round) .none zab zac zad za9 zae zaf), zag⟩) (zpq : PySem.W.codeIn K zae "Net.take_round" = true) (zpr : PySem.W.keepIn K (.ref za7) = true) (zps : PySem.W.findIn K (.ref z5) "drop_picture" = some (some (.ref zah))) (zpt : PySem.W.isFn K (.ref zah) = true) (zpu : K.lookup zah = some ⟨zak, zai, .func (PySem.W.fnOf "drop_picture" "Net.drop_picture" (defArgs s_Net_drop_picture) (defBody s_Net_drop_picture) (defScope s_Net_drop_picture) .none zal zam zan zaj zao zap), zaq⟩) (zpv : PySem.W.codeIn K zao "Net.drop_picture" = true) (zpw : PySem.W.keepIn K (.ref zah) = true) (zpx : PySem.W.findIn K (.ref z5) "whole_pictures" = some (some (.ref zar))) (zpy : PySem.W.isFn K (.ref zar) = true) (zpz : K.lookup zar = some ⟨zau, zas, .func (PySem.W.fnOf "whole_pictures" "Net.whole_pictures" (defArgs s_Net_whole_pictures) (defBody s_Net_whole_pictures) (defScope s_Net_whole_pictures) .none zav zaw zax zat zay zaz), zb0⟩) (zq0 : PySem.W.codeIn K zay "Net.whole_pictures" = true) (zq1 : PySem.W.keepIn K (.ref zar) = true) (zq2 : PySem.W.findIn K (.ref z5) "keep_whole_pictures" = some (some (.ref zb1))) (zq3 : PySem.W.isFn K (.ref zb1) = true) (zq4 : K.lookup zb1 = some ⟨zb4, zb2, .func (PySem.W.fnOf "keep_whole_pictures" "Net.keep_whole_pictures" (defArgs s_Net_keep_whole_pictures) (defBody s_Net_keep_whole_pictures) (defScope s_Net_keep_whole_pictures) .none zb5 zb6 zb7 zb3 zb8 zb9), zba⟩) (zq5 : PySem.W.codeIn K zb8 "Net.keep_whole_pictures" = true) (zq6 : PySem.W.keepIn K (.ref zb1) = true) (zq7 : PySem.W.findIn K (.ref z5) "go_back" = some (some (.ref zbb))) (zq8 : PySem.W.isFn K (.ref zbb) = true) (zq9 : K.lookup zbb = some ⟨zbe, zbc, .func (PySem.W.fnOf "go_back" "Net.go_back" (defArgs s_Net_go_back) (defBody s_Net_go_back) (defScope s_Net_go_back) .none zbf zbg zbh zbd zbi zbj), zbk⟩) (zqa : PySem.W.codeIn K zbi "Net.go_back" = true) (zqb : PySem.W.keepIn K (.ref zbb) = true) (zqc : PySem.W.findIn K (.ref z6) "__init__" = some (some (.ref zbl))) (zqd : PySem.W.isFn K (.ref zbl) = true) (zqe : K.lookup zbl = some ⟨zbo, zbm, .func (PySem.W.fnOf "__init__" "Reader.__init__" (defArgs s_Reader_init) (defBody s_Reader_init) (defScope s_Reader_init) .none zbp zbq zbr zbn zbs zbt), zbu⟩) (zqf : PySem.W.codeIn K zbs "Reader.__init__" = true) (zqg : PySem.W.keepIn K (.ref zbl) = true) (zqh : PySem.W.findIn K (.ref z6) "has_more" = some (some (.ref zbv))) (zqi : PySem.W.isFn K (.ref zbv) = true) (zqj : K.lookup zbv = some ⟨zby, zbw, .func (PySem.W.fnOf "has_more" "Reader.has_more" (defArgs s_Reader_has_more) (defBody s_Reader_has_more) (defScope s_Reader_has_more) .none zbz zc0 zc1 zbx zc2 zc3), zc4⟩) (zqk : PySem.W.codeIn K zc2 "Reader.has_more" = true) (zql : PySem.W.keepIn K (.ref zbv) = true) (zqm : PySem.W.findIn K (.ref z6) "read_number" = some (some (.ref zc5))) (zqn : PySem.W.isFn K (.ref zc5) = true) (zqo : K.lookup zc5 = some ⟨zc8, zc6, .func (PySem.W.fnOf "read_number" "Reader.read_number" (defArgs s_Reader_read_number) (defBody s_Reader_read_number) (defScope s_Reader_read_number) .none zc9 zca zcb zc7 zcc zcd), zce⟩) (zqp : PySem.W.codeIn K zcc "Reader.read_number" = true) (zqq : PySem.W.keepIn K (.ref zc5) = true) (zqr : PySem.W.findIn K (.ref z6) "read_row" = some (some (.ref zcf))) (zqs : PySem.W.isFn K (.ref zcf) = true) (zqt : K.lookup zcf = some ⟨zci, zcg, .func (PySem.W.fnOf "read_row" "Reader.read_row" (defArgs s_Reader_read_row) (defBody s_Reader_read_row) (defScope s_Reader_read_row) .none zcj zck zcl zch zcm zcn), zco⟩) (zqu : PySem.W.codeIn K zcm "Reader.read_row" = true) (zqv : PySem.W.keepIn K (.ref zcf) = true) (zqw : PySem.W.nsIn K mainGlobals "answer_net" = some (some (.ref zcp))) (zqx : K.lookup zcp = some ⟨zcs, zcq, .func (PySem.W.fnOf "answer_net" "answer_net" (defArgs s_answer_net) (defBody s_answer_net) (defScope s_answer_net) .none zct zcu zcv zcr zcw zcx), zcy⟩) (zqy : PySem.W.codeIn K zcw "answer_net" = true) (zqz : PySem.W.keepIn K (.ref zcp) = true) (zr0 : PySem.W.nsIn K mainGlobals "answer_put" = some (some (.ref zcz))) (zr1 : K.lookup zcz = some ⟨zd2, zd0, .func (PySem.W.fnOf "answer_put" "answer_put" (defArgs s_answer_put) (defBody s_answer_put) (defScope s_answer_put) .none zd3 zd4 zd5 zd1 zd6 zd7), zd8⟩) (zr2 : PySem.W.codeIn K zd6 "answer_put" = true) (zr3 : PySem.W.keepIn K (.ref zcz) = true) (zr4 : PySem.W.nsIn K mainGlobals "answer_take" = some (some (.ref zd9))) (zr5 : K.lookup zd9 = some ⟨zdc, zda, .func (PySem.W.fnOf "answer_take" "answer_take" (defArgs s_answer_take) (defBody s_answer_take) (defScope s_answer_take) .none zdd zde zdf zdb zdg zdh), zdi⟩) (zr6 : PySem.W.codeIn K zdg "answer_take" = true) (zr7 : PySem.W.keepIn K (.ref zd9) = true) (zr8 : PySem.W.nsIn K mainGlobals "answer_turns" = some (some (.ref zdj))) (zr9 : K.lookup zdj = some ⟨zdm, zdk, .func (PySem.W.fnOf "answer_turns" "answer_turns" (defArgs s_answer_turns) (defBody s_answer_turns) (defScope s_answer_turns) .none zdn zdo zdp zdl zdq zdr), zds⟩) (zra : PySem.W.codeIn K zdq "answer_turns" = true) (zrb : PySem.W.keepIn K (.ref zdj) = true) (zrc : PySem.W.nsIn K mainGlobals "are_processes_told_once" = some (some (.ref zdt))) (zrd : K.lookup zdt = some ⟨zdw, zdu, .func (PySem.W.fnOf "are_processes_told_once" "are_processes_told_once" (defArgs s_are_processes_told_once) (defBody s_are_processes_told_once) (defScope s_are_processes_told_once) .none zdx zdy zdz zdv ze0 ze1), ze2⟩) (zre : PySem.W.codeIn K ze0 "are_processes_told_once" = true) (zrf : PySem.W.keepIn K (.ref zdt) = true) (zrg : PySem.W.nsIn K mainGlobals "answer_cut" = some (some (.ref ze3))) (zrh : K.lookup ze3 = some ⟨ze6, ze4, .func (PySem.W.fnOf "answer_cut" "answer_cut" (defArgs s_answer_cut) (defBody s_answer_cut) (defScope s_answer_cut) .none ze7 ze8 ze9 ze5 zea zeb), zec⟩) (zri : PySem.W.codeIn K zea "answer_cut" = true) (zrj : PySem.W.keepIn K (.ref ze3) = true) (zrk : PySem.W.nsIn K mainGlobals "answer_join" = some (some (.ref zed))) (zrl : K.lookup zed = some ⟨zeg, zee, .func (PySem.W.fnOf "answer_join" "answer_join" (defArgs s_answer_join) (defBody s_answer_join) (defScope s_answer_join) .none zeh zei zej zef zek zel), zem⟩) (zrm : PySem.W.codeIn K zek "answer_join" = true) (zrn : PySem.W.keepIn K (.ref zed) = true) (zro : PySem.W.nsIn K mainGlobals "tell_picture" = some (some (.ref zen))) (zrp : K.lookup zen = some ⟨zeq, zeo, .func (PySem.W.fnOf "tell_picture" "tell_picture" (defArgs s_tell_picture) (defBody s_tell_picture) (defScope s_tell_picture) .none zer zes zet zep zeu zev), zew⟩) (zrq : PySem.W.codeIn K zeu "tell_picture" = true) (zrr : PySem.W.keepIn K (.ref zen) = true) (zrs : PySem.W.nsIn K mainGlobals "answer_picture" = some (some (.ref zex))) (zrt : K.lookup zex = some ⟨zf0, zey, .func (PySem.W.fnOf "answer_picture" "answer_picture" (defArgs s_answer_picture) (defBody s_answer_picture) (defScope s_answer_picture) .none zf1 zf2 zf3 zez zf4 zf5), zf6⟩) (zru : PySem.W.codeIn K zf4 "answer_picture" = true) (zrv : PySem.W.keepIn K (.ref zex) = true) (zrw : PySem.W.nsIn K mainGlobals "answer_lacks" = some (some (.ref zf7))) (zrx : K.lookup zf7 = some ⟨zfa, zf8, .func (PySem.W.fnOf "answer_lacks" "answer_lacks" (defArgs s_answer_lacks) (defBody s_answer_lacks) (defScope s_answer_lacks) .none zfb zfc zfd zf9 zfe zff), zfg⟩) (zry : PySem.W.codeIn K zfe "answer_lacks" = true) (zrz : PySem.W.keepIn K (.ref zf7) = true) (zs0 : PySem.W.nsIn K mainGlobals "answer_count" = some (some (.ref zfh))) (zs1 : K.lookup zfh = some ⟨zfk, zfi, .func (PySem.W.fnOf "answer_count" "answer_count" (defArgs s_answer_count) (defBody s_answer_count) (defScope s_answer_count) .none zfl zfm zfn zfj zfo zfp), zfq⟩) (zs2 : PySem.W.codeIn K zfo "answer_count" = true) (zs3 : PySem.W.keepIn K (.ref zfh) = true) (zs4 : PySem.W.nsIn K mainGlobals "answer_fall" = some (some (.ref zfr))) (zs5 : K.lookup zfr = some ⟨zfu, zfs, .func (PySem.W.fnOf "answer_fall" "answer_fall" (defArgs s_answer_fall) (defBody s_answer_fall) (defScope s_answer_fall) .none zfv zfw zfx zft zfy zfz), zg0⟩) (zs6 : PySem.W.codeIn K zfy "answer_fall" = true) (zs7 : PySem.W.keepIn K (.ref zfr) = true) (zs8 : PySem.W.nsIn K mainGlobals "answer_back" = some (some (.ref zg1))) (zs9 : K.lookup zg1 = some ⟨zg4, zg2, .func (PySem.W.fnOf "answer_back" "answer_back" (defArgs s_answer_back) (defBody s_answer_back) (defScope s_answer_back) .none zg5 zg6 zg7 zg3 zg8 zg9), zga⟩) (zsa : PySem.W.codeIn K zg8 "answer_back" = true) (zsb : PySem.W.keepIn K (.ref zg1) = true) (zsc : PySem.W.nsIn K mainGlobals "answer_drop" = some (some (.ref zgb))) (zsd : K.lookup zgb = some ⟨zge, zgc, .func (PySem.W.fnOf "answer_drop" "answer_drop" (defArgs s_answer_drop) (defBody s_answer_drop) (defScope s_answer_drop) .none zgf zgg zgh zgd zgi zgj), zgk⟩) (zse : PySem.W.codeIn K zgi "answer_drop" = true) (zsf : PySem.W.keepIn K (.ref zgb) = true) (zsg : PySem.W.nsIn K mainGlobals "answer_shows" = some (some (.ref zgl))) (zsh : K.lookup zgl = some ⟨zgo, zgm, .func (PySem.W.fnOf "answer_shows" "answer_shows" (defArgs s_answer_shows) (defBody s_answer_shows) (defScope s_answer_shows) .none zgp zgq zgr zgn zgs zgt), zgu⟩) (zsi : PySem.W.codeIn K zgs "answer_shows" = true) (zsj : PySem.W.keepIn K (.ref zgl) = true) (zsk : PySem.W.nsIn K mainGlobals "tell_waiting" = some (some (.ref zgv))) (zsl : K.lookup zgv = some ⟨zgy, zgw, .func (PySem.W.fnOf "tell_waiting" "tell_waiting" (defArgs s_tell_waiting) (defBody s_tell_waiting) (defScope s_tell_waiting) .none zgz zh0 zh1 zgx zh2 zh3), zh4⟩) (zsm : PySem.W.codeIn K zh2 "tell_waiting" = true) (zsn : PySem.W.keepIn K (.ref zgv) = true) (zso : PySem.W.nsIn K mainGlobals "answer_channel" = some (some (.ref zh5))) (zsp : K.lookup zh5 = some ⟨zh8, zh6, .func (PySem.W.fnOf "answer_channel" "answer_channel" (defArgs s_answer_channel) (defBody s_answer_channel) (defScope s_answer_channel) .none zh9 zha zhb zh7 zhc zhd), zhe⟩) (zsq : PySem.W.codeIn K zhc "answer_channel" = true) (zsr : PySem.W.keepIn K (.ref zh5) = true) (zss : PySem.W.nsIn K mainGlobals "answer_total" = some (some (.ref zhf))) (zst : K.lookup zhf = some ⟨zhi, zhg, .func (PySem.W.fnOf "answer_total" "answer_total" (defArgs s_answer_total) (defBody s_answer_total) (defScope s_answer_total) .none zhj zhk zhl zhh zhm zhn), zho⟩) (zsu : PySem.W.codeIn K zhm "answer_total" = true) (zsv : PySem.W.keepIn K (.ref zhf) = true) (zsw : PySem.W.nsIn K mainGlobals "answer_newest" = some (some (.ref zhp))) (zsx : K.lookup zhp = some ⟨zhs, zhq, .func (PySem.W.fnOf "answer_newest" "answer_newest" (defArgs s_answer_newest) (defBody s_answer_newest) (defScope s_answer_newest) .none zht zhu zhv zhr zhw zhx), zhy⟩) (zsy : PySem.W.codeIn K zhw "answer_newest" = true) (zsz : PySem.W.keepIn K (.ref zhp) = true) (zt0 : PySem.W.nsIn K mainGlobals "answers" = some (some (.ref zhz))) (zt1 : K.lookup zhz = some ⟨zi2, zi0, .func (PySem.W.fnOf "answers" "answers" (defArgs s_answers) (defBody s_answers) (defScope s_answers) .none zi3 zi4 zi5 zi1 zi6 zi7), zi8⟩) (zt2 : PySem.W.codeIn K zi6 "answers" = true) (zt3 : PySem.W.keepIn K (.ref zhz) = true) (zt4 : PySem.W.makesIn K z0 = true) (zt5 : PySem.W.keepIn K (.ref z0) = true) (zt6 : PySem.W.makesIn K z1 = true) (zt7 : PySem.W.keepIn K (.ref z1) = true) (zt8 : PySem.W.makesIn K z2 = true) (zt9 : PySem.W.keepIn K (.ref z2) = true) (zta : PySem.W.makesIn K z3 = true) (ztb : PySem.W.keepIn K (.ref z3) = true) (ztc : PySem.W.makesIn K z4 = true) (ztd : PySem.W.keepIn K (.ref z4) = true) (zte : PySem.W.makesIn K z5 = true) (ztf : PySem.W.keepIn K (.ref z5) = true) (ztg : PySem.W.makesIn K z6 = true) (zth : PySem.W.keepIn K (.ref z6) = true) (zti : PySem.W.nsIn K mainGlobals "MESSAGE" = some (some (.int 1 zi9))) (ztj : PySem.W.nsIn K mainGlobals "MARK" = some (some (.int 2 zia))) (ztk : PySem.W.nsIn K mainGlobals "MODULUS" = some (some (.int 65521 zib))) (ztl : PySem.W.nsIn K mainGlobals "FIRST_PURSES" = some (some (.ref zic))) (ztm : K.lookup zic = some ⟨.type "tuple", zid, .seq #[.int 10 zig, .int 10 zih] zie, zif⟩) (ztn : PySem.W.nsIn K mainGlobals "FIRST_ENDS" = some (some (.ref zii))) (zto : K.lookup zii = some ⟨.type "tuple", zij, .seq #[.int 1 zim, .int 2 zin, .int 2 zio, .int 1 zip] zik, zil⟩) (ztp : PySem.W.nsIn K mainGlobals "FEWEST_PROCESSES" = some (some (.int 2 ziq))) (ztq : PySem.W.nsIn K mainGlobals "MOST_PROCESSES" = some (some (.int 8 zir))) (ztr : PySem.W.nsIn K mainGlobals "MOST_COINS" = some (some (.int 1000 zis))) (zts : PySem.W.nsIn K mainGlobals "FEWEST_ENDS" = some (some (.int 2 zit))) (ztt : PySem.W.nsIn K mainGlobals "MOST_ENDS" = some (some (.int 32 ziu))) (ztu : PySem.W.nsIn K mainGlobals "MOST_HOPS" = some (some (.int 3 ziv))) (ztv : PySem.W.nsIn K mainGlobals "MOST_ROUNDS" = some (some (.int 20 ziw))) (ztw : PySem.W.nsIn K mainGlobals "MOST_PICTURES" = some (some (.int 8 zix))) (ztx : PySem.W.nsIn K mainGlobals "CALLS" = some (some (.ref ziy))) (zty : K.lookup ziy = some ⟨.type "tuple", ziz, .seq #[.ref zcp, .ref zcz, .ref zd9, .ref zdj, .ref ze3, .ref zed, .ref zex, .ref zf7, .ref zfh, .ref zfr, .ref zg1, .ref zgb, .ref zgl, .ref zh5, .ref zhf, .ref zhp] zj0, zj1⟩) (ztz : PySem.W.nsIn K mainGlobals "len" = some none) (zu0 : PySem.W.nsIn K mainGlobals "max" = some none) (zu1 : PySem.W.nsIn K mainGlobals "min" = some none) (zu2 : PySem.W.nsIn K mainGlobals "isinstance" = some none) (zu3 : PySem.W.nsIn K mainGlobals "range" = some none) (zu4 : PySem.W.nsIn K mainGlobals "sum" = some none) (zu5 : PySem.W.nsIn K mainGlobals "list" = some none) (zu6 : PySem.W.findIn K (.ref z0) "__class__" = some (some (.builtin "object.__class__"))) (zu7 : PySem.W.mroIn K z0 (.type "object") = some true) (zu8 : PySem.W.kitOne K (.ref z0) (.ref z1) = some false) (zu9 : PySem.W.kitOne K (.ref z0) (.ref z0) = some true) (zua : PySem.W.findIn K (.ref z1) "__class__" = some (some (.builtin "object.__class__"))) (zub : PySem.W.mroIn K z1 (.type "object") = some true) (zuc : PySem.W.kitOne K (.ref z1) (.ref z1) = some true) (zud : PySem.W.kitOne K (.ref z1) (.ref z0) = some false) (zue : PySem.W.specialIn K (.builtin "object.__class__") "__get__" = some (some (.builtin "getset_descriptor.__get__"))) (zuf : PySem.W.takesIn K (.builtin "object.__class__") = some true) : Nonempty (Env K mg) := ⟨⟨z0, z1, z2, z3, z4, z5, z6, z7, zh, zr, z11, z1b, z1l, z1v, z25, z2f, z2p, z2z, z39, z3j, z3t, z43, z4d, z4n, z4x, z57, z5h, z5r, z61, z6b, z6l, z6v, z75, z7f, z7p, z7z, z89, z8j, z8t, z93, z9d, z9n, z9x, za7, zah, zar, zb1, zbb, zbl, zbv, zc5, zcf, zcp, zcz, zd9, zdj, zdt, ze3, zed, zen, zex, zf7, zfh, zfr, zg1, zgb, zgl, zgv, zh5, zhf, zhp, zhz, PySem.W.mg_of X G zj2, ⟨zj3, zj4, zj5, zj6⟩, zj7, zj8, zj9, PySem.W.mg_of X G zja, ⟨zjb, zjc, zjd, zje⟩, zjf, PySem.W.mg_of X G zjg, ⟨zjh, zji, zjj, zjk⟩, zjl, zjm, zjn, zjo, PySem.W.mg_of X G zjp, ⟨zjq, zjr, zjs, zjt⟩, zju, zjv, zjw, PySem.W.mg_of X G zjx, ⟨zjy, zjz, zk0, zk1⟩, zk2, zk3, zk4, zk5, zk6, PySem.W.mg_of X G zk7, ⟨zk8, zk9, zka, zkb⟩, zkc, zkd, zke, zkf, zkg, PySem.W.mg_of X G zkh, ⟨zki, zkj, zkk, zkl⟩, zkm, zkn, (PySem.W.fnOf "__init__" "Message.__init__" (defArgs s_Message_init) (defBody s_Message_init) (defScope s_Message_init) .none zb zc zd z9 ze zf), fun_mk zkq zkr zks, (PySem.W.fnOf "__init__" "Mark.__init__" (defArgs s_Mark_init) (defBody s_Mark_init) (defScope s_Mark_init) .none zl zm zn zj zo zp), fun_mk zkv zkw zkx, (PySem.W.fnOf "coins_among" "coins_among" (defArgs s_coins_among) (defBody s_coins_among) (defScope s_coins_among) .none zv zw zx zt zy zz), fun_mk zkz zl0 zl1, PySem.W.mg_of X G zky, (PySem.W.fnOf "__init__" "Process.__init__" (defArgs s_Process_init) (defBody s_Process_init) (defScope s_Process_init) .none z15 z16 z17 z13 z18 z19), fun_mk zl4 zl5 zl6, (PySem.W.fnOf "fall" "Process.fall" (defArgs s_Process_fall) (defBody s_Process_fall) (defScope s_Process_fall) .none z1f z1g z1h z1d z1i z1j), fun_mk zl9 zla zlb, ⟨zl7, zl8, zlb⟩, (PySem.W.fnOf "rise" "Process.rise" (defArgs s_Process_rise) (defBody s_Process_rise) (defScope s_Process_rise) .none z1p z1q z1r z1n z1s z1t), fun_mk zle zlf zlg, ⟨zlc, zld, zlg⟩, (PySem.W.fnOf "__init__" "Channel.__init__" (defArgs s_Channel_init) (defBody s_Channel_init) (defScope s_Channel_init) .none z1z z20 z21 z1x z22 z23), fun_mk zlj zlk zll, (PySem.W.fnOf "__init__" "Picture.__init__" (defArgs s_Picture_init) (defBody s_Picture_init) (defScope s_Picture_init) .none z29 z2a z2b z27 z2c z2d), fun_mk zlo zlp zlq, (PySem.W.fnOf "has_record" "Picture.has_record" (defArgs s_Picture_has_record) (defBody s_Picture_has_record) (defScope s_Picture_has_record) .none z2j z2k z2l z2h z2m z2n), fun_mk zlt zlu zlv, ⟨zlr, zls, zlv⟩, (PySem.W.fnOf "is_shut" "Picture.is_shut" (defArgs s_Picture_is_shut) (defBody s_Picture_is_shut) (defScope s_Picture_is_shut) .none z2t z2u z2v z2r z2w z2x), fun_mk zly zlz zm0, ⟨zlw, zlx, zm0⟩, (PySem.W.fnOf "is_whole" "Picture.is_whole" (defArgs s_Picture_is_whole) (defBody s_Picture_is_whole) (defScope s_Picture_is_whole) .none z33 z34 z35 z31 z36 z37), fun_mk zm3 zm4 zm5, ⟨zm1, zm2, zm5⟩, (PySem.W.fnOf "see_message" "Picture.see_message" (defArgs s_Picture_see_message) (defBody s_Picture_see_message) (defScope s_Picture_see_message) .none z3d z3e z3f z3b z3g z3h), fun_mk zm8 zm9 zma, ⟨zm6, zm7, zma⟩, (PySem.W.fnOf "see_deed" "Picture.see_deed" (defArgs s_Picture_see_deed) (defBody s_Picture_see_deed) (defScope s_Picture_see_deed) .none z3n z3o z3p z3l z3q z3r), fun_mk zmd zme zmf, ⟨zmb, zmc, zmf⟩, (PySem.W.fnOf "all_coins" "Picture.all_coins" (defArgs s_Picture_all_coins) (defBody s_Picture_all_coins) (defScope s_Picture_all_coins) .none z3x z3y z3z z3v z40 z41), fun_mk zmi zmj zmk, ⟨zmg, zmh, zmk⟩, (PySem.W.fnOf "__init__" "Net.__init__" (defArgs s_Net_init) (defBody s_Net_init) (defScope s_Net_init) .none z47 z48 z49 z45 z4a z4b), fun_mk zmn zmo zmp, (PySem.W.fnOf "lay" "Net.lay" (defArgs s_Net_lay) (defBody s_Net_lay) (defScope s_Net_lay) .none z4h z4i z4j z4f z4k z4l), fun_mk zms zmt zmu, ⟨zmq, zmr, zmu⟩, (PySem.W.fnOf "has_process" "Net.has_process" (defArgs s_Net_has_process) (defBody s_Net_has_process) (defScope s_Net_has_process) .none z4r z4s z4t z4p z4u z4v), fun_mk zmx zmy zmz, ⟨zmv, zmw, zmz⟩, (PySem.W.fnOf "has_channel" "Net.has_channel" (defArgs s_Net_has_channel) (defBody s_Net_has_channel) (defScope s_Net_has_channel) .none z51 z52 z53 z4z z54 z55), fun_mk zn2 zn3 zn4, ⟨zn0, zn1, zn4⟩, (PySem.W.fnOf "has_picture" "Net.has_picture" (defArgs s_Net_has_picture) (defBody s_Net_has_picture) (defScope s_Net_has_picture) .none z5b z5c z5d z59 z5e z5f), fun_mk zn7 zn8 zn9, ⟨zn5, zn6, zn9⟩, (PySem.W.fnOf "process" "Net.process" (defArgs s_Net_process) (defBody s_Net_process) (defScope s_Net_process) .none z5l z5m z5n z5j z5o z5p), fun_mk znc znd zne, ⟨zna, znb, zne⟩, (PySem.W.fnOf "channel" "Net.channel" (defArgs s_Net_channel) (defBody s_Net_channel) (defScope s_Net_channel) .none z5v z5w z5x z5t z5y z5z), fun_mk znh zni znj, ⟨znf, zng, znj⟩, (PySem.W.fnOf "sender" "Net.sender" (defArgs s_Net_sender) (defBody s_Net_sender) (defScope s_Net_sender) .none z65 z66 z67 z63 z68 z69), fun_mk znm znn zno, ⟨znk, znl, zno⟩, (PySem.W.fnOf "getter" "Net.getter" (defArgs s_Net_getter) (defBody s_Net_getter) (defScope s_Net_getter) .none z6f z6g z6h z6d z6i z6j), fun_mk znr zns znt, ⟨znp, znq, znt⟩, (PySem.W.fnOf "coins_in_purses" "Net.coins_in_purses" (defArgs s_Net_coins_in_purses) (defBody s_Net_coins_in_purses) (defScope s_Net_coins_in_purses) .none z6p z6q z6r z6n z6s z6t), fun_mk znw znx zny, ⟨znu, znv, zny⟩, (PySem.W.fnOf "coins_on_channels" "Net.coins_on_channels" (defArgs s_Net_coins_on_channels) (defBody s_Net_coins_on_channels) (defScope s_Net_coins_on_channels) .none z6z z70 z71 z6x z72 z73), fun_mk zo1 zo2 zo3, ⟨znz, zo0, zo3⟩, (PySem.W.fnOf "count_deed" "Net.count_deed" (defArgs s_Net_count_deed) (defBody s_Net_count_deed) (defScope s_Net_count_deed) .none z79 z7a z7b z77 z7c z7d), fun_mk zo6 zo7 zo8, ⟨zo4, zo5, zo8⟩, (PySem.W.fnOf "put_as_deed" "Net.put_as_deed" (defArgs s_Net_put_as_deed) (defBody s_Net_put_as_deed) (defScope s_Net_put_as_deed) .none z7j z7k z7l z7h z7m z7n), fun_mk zob zoc zod, ⟨zo9, zoa, zod⟩, (PySem.W.fnOf "put_message" "Net.put_message" (defArgs s_Net_put_message) (defBody s_Net_put_message) (defScope s_Net_put_message) .none z7t z7u z7v z7r z7w z7x), fun_mk zog zoh zoi, ⟨zoe, zof, zoi⟩, (PySem.W.fnOf "get_message" "Net.get_message" (defArgs s_Net_get_message) (defBody s_Net_get_message) (defScope s_Net_get_message) .none z83 z84 z85 z81 z86 z87), fun_mk zol zom zon, ⟨zoj, zok, zon⟩, (PySem.W.fnOf "send_on" "Net.send_on" (defArgs s_Net_send_on) (defBody s_Net_send_on) (defScope s_Net_send_on) .none z8d z8e z8f z8b z8g z8h), fun_mk zoq zor zos, ⟨zoo, zop, zos⟩, (PySem.W.fnOf "begin_picture" "Net.begin_picture" (defArgs s_Net_begin_picture) (defBody s_Net_begin_picture) (defScope s_Net_begin_picture) .none z8n z8o z8p z8l z8q z8r), fun_mk zov zow zox, ⟨zot, zou, zox⟩, (PySem.W.fnOf "record" "Net.record" (defArgs s_Net_record) (defBody s_Net_record) (defScope s_Net_record) .none z8x z8y z8z z8v z90 z91), fun_mk zp0 zp1 zp2, ⟨zoy, zoz, zp2⟩, (PySem.W.fnOf "record_once" "Net.record_once" (defArgs s_Net_record_once) (defBody s_Net_record_once) (defScope s_Net_record_once) .none z97 z98 z99 z95 z9a z9b), fun_mk zp5 zp6 zp7, ⟨zp3, zp4, zp7⟩, (PySem.W.fnOf "take_first" "Net.take_first" (defArgs s_Net_take_first) (defBody s_Net_take_first) (defScope s_Net_take_first) .none z9h z9i z9j z9f z9k z9l), fun_mk zpa zpb zpc, ⟨zp8, zp9, zpc⟩, (PySem.W.fnOf "take_mark" "Net.take_mark" (defArgs s_Net_take_mark) (defBody s_Net_take_mark) (defScope s_Net_take_mark) .none z9r z9s z9t z9p z9u z9v), fun_mk zpf zpg zph, ⟨zpd, zpe, zph⟩, (PySem.W.fnOf "take_message" "Net.take_message" (defArgs s_Net_take_message) (defBody s_Net_take_message) (defScope s_Net_take_message) .none za1 za2 za3 z9z za4 za5), fun_mk zpk zpl zpm, ⟨zpi, zpj, zpm⟩, (PySem.W.fnOf "take_round" "Net.take_round" (defArgs s_Net_take_round) (defBody s_Net_take_round) (defScope s_Net_take_round) .none zab zac zad za9 zae zaf), fun_mk zpp zpq zpr, ⟨zpn, zpo, zpr⟩, (PySem.W.fnOf "drop_picture" "Net.drop_picture" (defArgs s_Net_drop_picture) (defBody s_Net_drop_picture) (defScope s_Net_drop_picture) .none zal zam zan zaj zao zap), fun_mk zpu zpv zpw, ⟨zps, zpt, zpw⟩, (PySem.W.fnOf "whole_pictures" "Net.whole_pictures" (defArgs s_Net_whole_pictures) (defBody s_Net_whole_pictures) (defScope s_Net_whole_pictures) .none zav zaw zax zat zay zaz), fun_mk zpz zq0 zq1, ⟨zpx, zpy, zq1⟩, (PySem.W.fnOf "keep_whole_pictures" "Net.keep_whole_pictures" (defArgs s_Net_keep_whole_pictures) (defBody s_Net_keep_whole_pictures) (defScope s_Net_keep_whole_pictures) .none zb5 zb6 zb7 zb3 zb8 zb9), fun_mk zq4 zq5 zq6, ⟨zq2, zq3, zq6⟩, (PySem.W.fnOf "go_back" "Net.go_back" (defArgs s_Net_go_back) (defBody s_Net_go_back) (defScope s_Net_go_back) .none zbf zbg zbh zbd zbi zbj), fun_mk zq9 zqa zqb, ⟨zq7, zq8, zqb⟩, (PySem.W.fnOf "__init__" "Reader.__init__" (defArgs s_Reader_init) (defBody s_Reader_init) (defScope s_Reader_init) .none zbp zbq zbr zbn zbs zbt), fun_mk zqe zqf zqg, (PySem.W.fnOf "has_more" "Reader.has_more" (defArgs s_Reader_has_more) (defBody s_Reader_has_more) (defScope s_Reader_has_more) .none zbz zc0 zc1 zbx zc2 zc3), fun_mk zqj zqk zql, ⟨zqh, zqi, zql⟩, (PySem.W.fnOf "read_number" "Reader.read_number" (defArgs s_Reader_read_number) (defBody s_Reader_read_number) (defScope s_Reader_read_number) .none zc9 zca zcb zc7 zcc zcd), fun_mk zqo zqp zqq, ⟨zqm, zqn, zqq⟩, (PySem.W.fnOf "read_row" "Reader.read_row" (defArgs s_Reader_read_row) (defBody s_Reader_read_row) (defScope s_Reader_read_row) .none zcj zck zcl zch zcm zcn), fun_mk zqt zqu zqv, ⟨zqr, zqs, zqv⟩, (PySem.W.fnOf "answer_net" "answer_net" (defArgs s_answer_net) (defBody s_answer_net) (defScope s_answer_net) .none zct zcu zcv zcr zcw zcx), fun_mk zqx zqy zqz, PySem.W.mg_of X G zqw, (PySem.W.fnOf "answer_put" "answer_put" (defArgs s_answer_put) (defBody s_answer_put) (defScope s_answer_put) .none zd3 zd4 zd5 zd1 zd6 zd7), fun_mk zr1 zr2 zr3, PySem.W.mg_of X G zr0, (PySem.W.fnOf "answer_take" "answer_take" (defArgs s_answer_take) (defBody s_answer_take) (defScope s_answer_take) .none zdd zde zdf zdb zdg zdh), fun_mk zr5 zr6 zr7, PySem.W.mg_of X G zr4, (PySem.W.fnOf "answer_turns" "answer_turns" (defArgs s_answer_turns) (defBody s_answer_turns) (defScope s_answer_turns) .none zdn zdo zdp zdl zdq zdr), fun_mk zr9 zra zrb, PySem.W.mg_of X G zr8, (PySem.W.fnOf "are_processes_told_once" "are_processes_told_once" (defArgs s_are_processes_told_once) (defBody s_are_processes_told_once) (defScope s_are_processes_told_once) .none zdx zdy zdz zdv ze0 ze1), fun_mk zrd zre zrf, PySem.W.mg_of X G zrc, (PySem.W.fnOf "answer_cut" "answer_cut" (defArgs s_answer_cut) (defBody s_answer_cut) (defScope s_answer_cut) .none ze7 ze8 ze9 ze5 zea zeb), fun_mk zrh zri zrj, PySem.W.mg_of X G zrg, (PySem.W.fnOf "answer_join" "answer_join" (defArgs s_answer_join) (defBody s_answer_join) (defScope s_answer_join) .none zeh zei zej zef zek zel), fun_mk zrl zrm zrn, PySem.W.mg_of X G zrk, (PySem.W.fnOf "tell_picture" "tell_picture" (defArgs s_tell_picture) (defBody s_tell_picture) (defScope s_tell_picture) .none zer zes zet zep zeu zev), fun_mk zrp zrq zrr, PySem.W.mg_of X G zro, (PySem.W.fnOf "answer_picture" "answer_picture" (defArgs s_answer_picture) (defBody s_answer_picture) (defScope s_answer_picture) .none zf1 zf2 zf3 zez zf4 zf5), fun_mk zrt zru zrv, PySem.W.mg_of X G zrs, (PySem.W.fnOf "answer_lacks" "answer_lacks" (defArgs s_answer_lacks) (defBody s_answer_lacks) (defScope s_answer_lacks) .none zfb zfc zfd zf9 zfe zff), fun_mk zrx zry zrz, PySem.W.mg_of X G zrw, (PySem.W.fnOf "answer_count" "answer_count" (defArgs s_answer_count) (defBody s_answer_count) (defScope s_answer_count) .none zfl zfm zfn zfj zfo zfp), fun_mk zs1 zs2 zs3, PySem.W.mg_of X G zs0, (PySem.W.fnOf "answer_fall" "answer_fall" (defArgs s_answer_fall) (defBody s_answer_fall) (defScope s_answer_fall) .none zfv zfw zfx zft zfy zfz), fun_mk zs5 zs6 zs7, PySem.W.mg_of X G zs4, (PySem.W.fnOf "answer_back" "answer_back" (defArgs s_answer_back) (defBody s_answer_back) (defScope s_answer_back) .none zg5 zg6 zg7 zg3 zg8 zg9), fun_mk zs9 zsa zsb, PySem.W.mg_of X G zs8, (PySem.W.fnOf "answer_drop" "answer_drop" (defArgs s_answer_drop) (defBody s_answer_drop) (defScope s_answer_drop) .none zgf zgg zgh zgd zgi zgj), fun_mk zsd zse zsf, PySem.W.mg_of X G zsc, (PySem.W.fnOf "answer_shows" "answer_shows" (defArgs s_answer_shows) (defBody s_answer_shows) (defScope s_answer_shows) .none zgp zgq zgr zgn zgs zgt), fun_mk zsh zsi zsj, PySem.W.mg_of X G zsg, (PySem.W.fnOf "tell_waiting" "tell_waiting" (defArgs s_tell_waiting) (defBody s_tell_waiting) (defScope s_tell_waiting) .none zgz zh0 zh1 zgx zh2 zh3), fun_mk zsl zsm zsn, PySem.W.mg_of X G zsk, (PySem.W.fnOf "answer_channel" "answer_channel" (defArgs s_answer_channel) (defBody s_answer_channel) (defScope s_answer_channel) .none zh9 zha zhb zh7 zhc zhd), fun_mk zsp zsq zsr, PySem.W.mg_of X G zso, (PySem.W.fnOf "answer_total" "answer_total" (defArgs s_answer_total) (defBody s_answer_total) (defScope s_answer_total) .none zhj zhk zhl zhh zhm zhn), fun_mk zst zsu zsv, PySem.W.mg_of X G zss, (PySem.W.fnOf "answer_newest" "answer_newest" (defArgs s_answer_newest) (defBody s_answer_newest) (defScope s_answer_newest) .none zht zhu zhv zhr zhw zhx), fun_mk zsx zsy zsz, PySem.W.mg_of X G zsw, (PySem.W.fnOf "answers" "answers" (defArgs s_answers) (defBody s_answers) (defScope s_answers) .none zi3 zi4 zi5 zi1 zi6 zi7), fun_mk zt1 zt2 zt3, PySem.W.mg_of X G zt0, ⟨zt4, zko, zkp, zt5⟩, ⟨zt6, zkt, zku, zt7⟩, ⟨zt8, zl2, zl3, zt9⟩, ⟨zta, zlh, zli, ztb⟩, ⟨ztc, zlm, zln, ztd⟩, ⟨zte, zml, zmm, ztf⟩, ⟨ztg, zqc, zqd, zth⟩, zi9, PySem.W.mg_of X G zti, zia, PySem.W.mg_of X G ztj, zib, PySem.W.mg_of X G ztk, zic, PySem.W.mg_of X G ztl, fun H => .inr ⟨_, _, _, ztm, rfl, rfl, by show 2 ≤ sizeLine; decide, (.cons ⟨_, rfl⟩ (.cons ⟨_, rfl⟩ .nil))⟩, zii, PySem.W.mg_of X G ztn, fun H => .inr ⟨_, _, _, zto, rfl, rfl, by show 4 ≤ sizeLine; decide, (.cons ⟨_, rfl⟩ (.cons ⟨_, rfl⟩ (.cons ⟨_, rfl⟩ (.cons ⟨_, rfl⟩ .nil))))⟩, ziq, PySem.W.mg_of X G ztp, zir, PySem.W.mg_of X G ztq, zis, PySem.W.mg_of X G ztr, zit, PySem.W.mg_of X G zts, ziu, PySem.W.mg_of X G ztt, ziv, PySem.W.mg_of X G ztu, ziw, PySem.W.mg_of X G ztv, zix, PySem.W.mg_of X G ztw, ziy, PySem.W.mg_of X G ztx, fun H => .inr ⟨_, _, _, zty, rfl, rfl, by show 16 ≤ sizeLine; decide, (.cons rfl (.cons rfl (.cons rfl (.cons rfl (.cons rfl (.cons rfl (.cons rfl (.cons rfl (.cons rfl (.cons rfl (.cons rfl (.cons rfl (.cons rfl (.cons rfl (.cons rfl (.cons rfl .nil))))))))))))))))⟩, PySem.W.mg_none_of X G ztz, PySem.W.mg_none_of X G zu0, PySem.W.mg_none_of X G zu1, PySem.W.mg_none_of X G zu2, PySem.W.mg_none_of X G zu3, PySem.W.mg_none_of X G zu4, PySem.W.mg_none_of X G zu5, zu6, zu7, zu8, zu9, zua, zub, zuc, zud, zue, zuf⟩⟩
end Cp

set_option Elab.async false
set_option linter.all false
set_option maxRecDepth 100000
set_option maxHeartbeats 2000000
namespace Cp
open PySem PySem.Spec PyProof.Rows L2
theorem getD_of {α : Type} {l : List α} {i : Nat} {x d : α} (h : l[i]? = some x) : l.getD i d = x := by
  rw [List.getD_eq_getElem?_getD, h]; rfl
theorem get_range {α : Type} {n i : Nat} (f : Nat → α) (h : i < n) : ((List.range n).map f)[i]? = some (f i) := by
  rw [List.getElem?_map, List.getElem?_range h]; rfl
theorem Paired.get {α β : Type} {F : α → β → Prop} : ∀ {l₁ : List α} {l₂ : List β} {i : Nat} {b : β}, Paired F l₁ l₂ → l₂[i]? = some b → ∃ a, l₁[i]? = some a ∧ F a b
  | _, _, _, _, .nil, h => by simp at h
  | _, _, 0, _, .cons r t, h => by cases h; exact ⟨_, rfl, r⟩
  | _, _, i + 1, _, .cons r t, h => by
    have h' := Paired.get (i := i) t (by simpa using h)
    simpa using h'
theorem Paired.snoc' {α β : Type} {F : α → β → Prop} {a : α} {b : β} : ∀ {l₁ : List α} {l₂ : List β}, Paired F l₁ l₂ → F a b → Paired F (l₁ ++ [a]) (l₂ ++ [b])
  | _, _, .nil, h => .cons h .nil
  | _, _, .cons r t, h => .cons r (Paired.snoc' t h)
theorem set_get {α : Type} {l : List α} {i j : Nat} {x y : α} (h : (l.set i x)[j]? = some y) : (i = j ∧ y = x) ∨ (i ≠ j ∧ l[j]? = some y) := by
  by_cases e : i = j
  · subst e
    refine .inl ⟨rfl, ?_⟩
    rw [List.getElem?_set] at h
    simp at h
    exact h.2.symm
  · rw [List.getElem?_set_ne e] at h
    exact .inr ⟨e, h⟩
def Im (S S' : Sto) : Prop := ∀ a o, S.ob (.imm a) = some o → S'.ob (.imm a) = some o
theorem Im.refl {S : Sto} : Im S S := fun _ _ e => e
theorem Im.trans {S S1 S2 : Sto} (a : Im S S1) (b : Im S1 S2) : Im S S2 := fun c o e => b c o (a c o e)
theorem Im.put {S : Sto} {r : Ro} {o : HO} (h : ∀ a, r ≠ .imm a) : Im S (S.put r o) := fun a u e => by rw [put_ne (Ne.symm (h a))]; exact e
theorem Im.lay {S : Sto} {r : Ro} {b : Addr} {o : HO} (h : ∀ a, r ≠ .imm a) : Im S (S.lay r b o) := fun a u e => by rw [lay_ne (Ne.symm (h a))]; exact e
theorem Im.layI {S : Sto} {b : Addr} {o : HO} (n : S.ob (.imm b) = none) : Im S (S.lay (.imm b) b o) := fun a u e => by
  rw [lay_ne (fun z => ?_)]
  · exact e
  · rw [z, n] at e
    cases e
def msgF (m : Hs07.Msg) : List (Str × V) := [("coins", .int m.coins), ("memory", .int m.memory), ("hops", .int m.hops)]
def markF (k : Nat) : List (Str × V) := [("picture_number", .int k)]
def procF (p : Hs07.Proc) (lv : Addr) : List (Str × V) := [("purse", .int p.purse), ("memory", .int p.memory), ("down", .bl p.down), ("leaving", .ref lv)]
def chanF (x : Nat × Nat) (w : Addr) : List (Str × V) := [("source", .int ((x.1 : Int) + 1)), ("target", .int ((x.2 : Int) + 1)), ("waiting", .ref w)]
def picF (n d : Nat) (a b c : Addr) : List (Str × V) := [("process_count", .int n), ("deeds_before", .int d), ("records", .ref a), ("shut", .ref b), ("caught", .ref c)]
def netF (pl cl pd : Addr) (last deeds : Nat) : List (Str × V) := [("processes", .ref pl), ("channels", .ref cl), ("pictures", .ref pd), ("begun", .int last), ("deeds", .int deeds)]
def rdF (ca : Addr) (i : Nat) : List (Str × V) := [("numbers", .ref ca), ("place", .int i)]
section
variable {K : PySem.W.Frag} {mg : Str → Option Value} (T : Env K mg)
def MsgAt (S : Sto) (a : Addr) (m : Hs07.Msg) : Prop := ∃ dx, S.ob (.imm a) = some (.ins T.cMessage dx (msgF m))
def MarkAt (S : Sto) (a : Addr) (k : Nat) : Prop := ∃ dx, S.ob (.imm a) = some (.ins T.cMark dx (markF k))
def ItemAt (S : Sto) (a : Addr) : Hs07.Item → Prop
  | .msg m => MsgAt T S a m
  | .mark k => MarkAt T S a k
def RecV (S : Sto) (kv : Key × V) (n : Nat) : Prop := ∃ t b, kv.2 = .ref t ∧ S.ob (.imm t) = some (.tup [.int (n : Nat), .int (b : Nat)])
def purseOf (y : Option (Nat × Nat)) : Nat := (y.getD (0, 0)).1
structure RecsIs (S : Sto) (kvs : List (Key × V)) (has : List (Option (Nat × Nat))) : Prop where
  len : kvs.length = has.countP Option.isSome
  val : ∀ (p : Nat) y, has[p]? = some y → (y = none ∧ valV kvs (.inl ((p : Int) + 1)) = none) ∨ ∃ a b t, y = some (a, b) ∧ valV kvs (.inl ((p : Int) + 1)) = some (.ref t) ∧ S.ob (.imm t) = some (.tup [.int (a : Nat), .int (b : Nat)])
  sum : ∃ l : List Nat, Paired (RecV S) kvs l ∧ l.sum = (has.map purseOf).sum
structure ShutIs (kvs : List (Key × V)) (shut : List Bool) : Prop where
  len : kvs.length = shut.countP id
  val : ∀ (c : Nat) y, shut[c]? = some y → (valV kvs (.inl ((c : Int) + 1))).isSome = y
structure PicAt (S : Sto) (x : Hs07.Pic) : Prop where
  pic : ∃ dx, S.ob (.pic x.number) = some (.ins T.cPicture dx (picF x.has.length x.before (S.ad (.recs x.number)) (S.ad (.shut x.number)) (S.ad (.caught x.number))))
  recs : ∃ kvs, S.ob (.recs x.number) = some (.dK kvs) ∧ RecsIs S kvs x.has
  shut : ∃ kvs, S.ob (.shut x.number) = some (.dK kvs) ∧ ShutIs kvs x.shut
  caught : S.ob (.caught x.number) = some (.lst ((List.range x.came.length).map fun c => .ref (S.ad (.cl x.number c))))
  cl : ∀ c l, x.came[c]? = some l → ∃ as : List Addr, S.ob (.cl x.number c) = some (.lst (as.map V.ref)) ∧ Paired (MsgAt T S) as l
structure WF (s : Hs07.St) : Prop where
  ends : ∀ (c : Nat) (x : Nat × Nat), s.chans[c]? = some x → x.1 < s.procs.length ∧ x.2 < s.procs.length
  on : s.on.length = s.chans.length
  pics : ∀ x ∈ s.pics, x.has.length = s.procs.length ∧ x.came.length = s.chans.length ∧ x.shut.length = s.chans.length ∧ x.number ≤ s.last
  nd : (s.pics.map (·.number)).Nodup
  np : s.procs.length ≤ 8
  nc : s.chans.length ≤ 16
  nk : s.pics.length ≤ 8
structure Shape (S : Sto) (s : Hs07.St) : Prop where
  net : ∃ dx, S.ob .net = some (.ins T.cNet dx (netF (S.ad .plist) (S.ad .clist) (S.ad .pdict) s.last s.deeds))
  plist : S.ob .plist = some (.lst ((List.range s.procs.length).map fun i => .ref (S.ad (.proc i))))
  proc : ∀ i p, s.procs[i]? = some p → ∃ dx, S.ob (.proc i) = some (.ins T.cProcess dx (procF p (S.ad (.leav i))))
  leav : ∀ i, i < s.procs.length → S.ob (.leav i) = some (.lst ((Hs07.outs s i).map fun (c : Nat) => .int ((c : Int) + 1)))
  clist : S.ob .clist = some (.lst ((List.range s.chans.length).map fun i => .ref (S.ad (.chan i))))
  chan : ∀ c x, s.chans[c]? = some x → ∃ dx, S.ob (.chan c) = some (.ins T.cChannel dx (chanF x (S.ad (.wait c))))
  wait : ∀ c l, s.on[c]? = some l → ∃ as : List Addr, S.ob (.wait c) = some (.lst (as.map V.ref)) ∧ Paired (ItemAt T S) as l
  pdict : S.ob .pdict = some (.dK (s.pics.map fun x => (Sum.inl (x.number : Int), .ref (S.ad (.pic x.number)))))
  pic : ∀ x ∈ s.pics, PicAt T S x
  wf : WF s
structure Sk (S : Sto) (s : Hs07.St) : Prop where
  net : ∃ dx, S.ob .net = some (.ins T.cNet dx (netF (S.ad .plist) (S.ad .clist) (S.ad .pdict) s.last s.deeds))
  plist : S.ob .plist = some (.lst ((List.range s.procs.length).map fun i => .ref (S.ad (.proc i))))
  clist : S.ob .clist = some (.lst ((List.range s.chans.length).map fun i => .ref (S.ad (.chan i))))
  chan : ∀ c x, s.chans[c]? = some x → ∃ dx, S.ob (.chan c) = some (.ins T.cChannel dx (chanF x (S.ad (.wait c))))
  ends : ∀ (c : Nat) (x : Nat × Nat), s.chans[c]? = some x → x.1 < s.procs.length ∧ x.2 < s.procs.length
variable {T} {S : Sto} {s : Hs07.St}
theorem Shape.sk (h : Shape T S s) : Sk T S s := ⟨h.net, h.plist, h.clist, h.chan, h.wf.ends⟩
@[simp] theorem lay_ob' {r x : Ro} {a : Addr} {o : HO} : (S.lay r a o).ob x = if x = r then some o else S.ob x := rfl
@[simp] theorem lay_ad' {r x : Ro} {a : Addr} {o : HO} : (S.lay r a o).ad x = if x = r then a else S.ad x := rfl
@[simp] theorem put_ob' {r x : Ro} {o : HO} : (S.put r o).ob x = if x = r then some o else S.ob x := rfl
theorem RecsIs.of {S' : Sto} {kvs : List (Key × V)} {has : List (Option (Nat × Nat))} (r : RecsIs S kvs has) (im : ∀ a o, S.ob (.imm a) = some o → S'.ob (.imm a) = some o) : RecsIs S' kvs has := by
  refine ⟨r.len, fun p y hy => ?_, ?_⟩
  · rcases r.val p y hy with z | ⟨u, v, t, z1, z2, z3⟩
    · exact .inl z
    · exact .inr ⟨u, v, t, z1, z2, im _ _ z3⟩
  · obtain ⟨l, q, e⟩ := r.sum
    exact ⟨l, Paired.mapP q fun kv n ⟨t, b, z1, z2⟩ => ⟨t, b, z1, im _ _ z2⟩, e⟩
theorem PicAt.of {S' : Sto} {x : Hs07.Pic} (P : PicAt T S x) (ad : ∀ r : Ro, (∀ a, r ≠ .imm a) → S'.ad r = S.ad r) (im : ∀ a o, S.ob (.imm a) = some o → S'.ob (.imm a) = some o)
    (e1 : S'.ob (.pic x.number) = S.ob (.pic x.number)) (e2 : S'.ob (.recs x.number) = S.ob (.recs x.number)) (e3 : S'.ob (.shut x.number) = S.ob (.shut x.number)) (e4 : S'.ob (.caught x.number) = S.ob (.caught x.number)) (e5 : ∀ c, S'.ob (.cl x.number c) = S.ob (.cl x.number c)) : PicAt T S' x := by
  refine ⟨?_, ?_, ?_, ?_, fun c l hl => ?_⟩
  · rw [e1, ad (.recs _) (by simp), ad (.shut _) (by simp), ad (.caught _) (by simp)]; exact P.pic
  · obtain ⟨kvs, q, r⟩ := P.recs
    exact ⟨kvs, by rw [e2]; exact q, r.of im⟩
  · rw [e3]; exact P.shut
  · rw [e4, P.caught]
    simp only [ad (.cl _ _) (by simp)]
  · obtain ⟨as, q, r⟩ := P.cl c l hl
    exact ⟨as, by rw [e5]; exact q, Paired.mapP r fun a it ⟨dx, z⟩ => ⟨dx, im _ _ z⟩⟩
theorem ItemAt.of {S' : Sto} (im : ∀ a o, S.ob (.imm a) = some o → S'.ob (.imm a) = some o) {a : Addr} {it : Hs07.Item} (h : ItemAt T S a it) : ItemAt T S' a it := by
  cases it with
  | msg m =>
    obtain ⟨dx, e⟩ := h
    exact ⟨dx, im _ _ e⟩
  | mark k =>
    obtain ⟨dx, e⟩ := h
    exact ⟨dx, im _ _ e⟩
theorem Shape.imm (h : Shape T S s) {b : Addr} (o : HO) (n : S.ob (.imm b) = none) : Shape T (S.lay (.imm b) b o) s := by
  have im : ∀ a u, S.ob (.imm a) = some u → (S.lay (.imm b) b o).ob (.imm a) = some u := fun a u q => by
    rw [lay_ne (fun z => ?_)]
    · exact q
    · rw [z, n] at q
      cases q
  refine ⟨by simpa using h.net, by simpa using h.plist, by simpa using h.proc, by simpa using h.leav, by simpa using h.clist, by simpa using h.chan, ?_, by simpa using h.pdict, fun x hx => ?_, h.wf⟩
  · intro c l hl
    obtain ⟨as, q, r⟩ := h.wait c l hl
    exact ⟨as, by simpa using q, Paired.mapP r fun a it z => z.of im⟩
  · exact (h.pic x hx).of (fun r hr => lay_adne (hr b)) im (by simp) (by simp) (by simp) (by simp) (by simp)
end
end Cp

set_option Elab.async false
set_option linter.all false
set_option maxRecDepth 100000
set_option maxHeartbeats 2000000
namespace Cp
open PySem PySem.Spec PyProof.Rows L2
theorem map_set_same {α β : Type} {f : α → β} {l : List α} {j : Nat} {x y : α} (h : l[j]? = some x) (e : f y = f x) : (l.set j y).map f = l.map f := by
  apply List.ext_getElem?
  intro i
  rw [List.getElem?_map, List.getElem?_map]
  by_cases hi : j = i
  · subst hi
    rw [List.getElem?_set_self (List.getElem?_eq_some_iff.mp h).1, h]
    simp [e]
  · rw [List.getElem?_set_ne hi]
theorem countP_set {α : Type} {f : α → Bool} : ∀ {l : List α} {j : Nat} {x y : α}, l[j]? = some x → (l.set j y).countP f + (if f x = true then 1 else 0) = l.countP f + (if f y = true then 1 else 0)
  | [], j, x, y, h => by simp at h
  | a :: r, 0, x, y, h => by
    have e : a = x := Option.some.inj h
    subst e
    simp only [List.set_cons_zero, List.countP_cons]
    omega
  | a :: r, j + 1, x, y, h => by
    have ih := countP_set (f := f) (l := r) (j := j) (x := x) (y := y) (by simpa using h)
    simp only [List.set_cons_succ, List.countP_cons]
    omega
theorem sum_setN {α : Type} {f : α → Nat} : ∀ {l : List α} {j : Nat} {x y : α}, l[j]? = some x → ((l.set j y).map f).sum + f x = (l.map f).sum + f y
  | [], j, x, y, h => by simp at h
  | a :: r, 0, x, y, h => by
    have e : a = x := Option.some.inj h
    subst e
    simp only [List.set_cons_zero, List.map_cons, List.sum_cons]
    omega
  | a :: r, j + 1, x, y, h => by
    have ih := sum_setN (f := f) (l := r) (j := j) (x := x) (y := y) (by simpa using h)
    simp only [List.set_cons_succ, List.map_cons, List.sum_cons]
    omega
section
variable {K : PySem.W.Frag} {mg : Str → Option Value} {T : Env K mg} {S S' : Sto} {s : Hs07.St}
theorem WF.setProc (h : WF s) (i : Nat) (p : Hs07.Proc) : WF (Hs07.setProc s i p) :=
  ⟨fun c x e => by show x.1 < (s.procs.set i p).length ∧ x.2 < (s.procs.set i p).length; rw [List.length_set]; exact h.ends c x e, h.on, fun x hx => by show x.has.length = (s.procs.set i p).length ∧ _; rw [List.length_set]; exact h.pics x hx, h.nd,
    by show (s.procs.set i p).length ≤ 8; rw [List.length_set]; exact h.np, h.nc, h.nk⟩
theorem Shape.setProc (h : Shape T S s) (i : Nat) (p : Hs07.Proc) (dx : Addr) : Shape T (S.put (.proc i) (.ins T.cProcess dx (procF p (S.ad (.leav i))))) (Hs07.setProc s i p) := by
  refine ⟨by simpa [Hs07.setProc] using h.net, ?_, fun j q hq => ?_, fun j hj => ?_, by simpa [Hs07.setProc] using h.clist, by simpa [Hs07.setProc] using h.chan, ?_, by simpa [Hs07.setProc] using h.pdict, fun x hx => ?_, h.wf.setProc i p⟩
  · have e : (Hs07.setProc s i p).procs.length = s.procs.length := List.length_set
    rw [e]
    simpa using h.plist
  · rcases set_get (show (s.procs.set i p)[j]? = some q from hq) with ⟨e, e2⟩ | ⟨e, e2⟩
    · subst e e2
      exact ⟨dx, by simp⟩
    · obtain ⟨d, z⟩ := h.proc j q e2
      exact ⟨d, by simpa [Ne.symm e] using z⟩
  · have e : (Hs07.setProc s i p).procs.length = s.procs.length := List.length_set
    rw [e] at hj
    have z := h.leav j hj
    show (S.put _ _).ob (.leav j) = some (.lst ((Hs07.outs s j).map fun (c : Nat) => .int ((c : Int) + 1)))
    simpa using z
  · intro c l hl
    obtain ⟨as, q, r⟩ := h.wait c l hl
    exact ⟨as, by simpa using q, Paired.mapP r fun a it z => z.of fun a o e => by simpa using e⟩
  · exact (h.pic x hx).of (fun r hr => rfl) (fun a o e => by simpa using e) (by simp) (by simp) (by simp) (by simp) (by simp)
theorem WF.setOn (h : WF s) (c : Nat) (l : List Hs07.Item) : WF { s with on := s.on.set c l } :=
  ⟨h.ends, by show (s.on.set c l).length = _; rw [List.length_set]; exact h.on, h.pics, h.nd, h.np, h.nc, h.nk⟩
theorem Shape.setOn (h : Shape T S s) {c : Nat} {as : List Addr} {l : List Hs07.Item} (r : Paired (ItemAt T S) as l) : Shape T (S.put (.wait c) (.lst (as.map V.ref))) { s with on := s.on.set c l } := by
  have im : ∀ a o, S.ob (.imm a) = some o → (S.put (.wait c) (.lst (as.map V.ref))).ob (.imm a) = some o := fun a o e => by simpa using e
  refine ⟨by simpa using h.net, by simpa using h.plist, by simpa using h.proc, fun j hj => ?_, by simpa using h.clist, by simpa using h.chan, fun d l' hl => ?_, by simpa using h.pdict, fun x hx => ?_, h.wf.setOn c l⟩
  · show (S.put _ _).ob (.leav j) = some (.lst ((Hs07.outs s j).map fun (c : Nat) => .int ((c : Int) + 1)))
    simpa using h.leav j hj
  · rcases set_get (show (s.on.set c l)[d]? = some l' from hl) with ⟨e, e2⟩ | ⟨e, e2⟩
    · subst e e2
      exact ⟨as, by simp, Paired.mapP r fun a it z => z.of im⟩
    · obtain ⟨as', q, r'⟩ := h.wait d l' e2
      exact ⟨as', by simpa [Ne.symm e] using q, Paired.mapP r' fun a it z => z.of im⟩
  · exact (h.pic x hx).of (fun r hr => rfl) im (by simp) (by simp) (by simp) (by simp) (by simp)
theorem items_of {c : Nat} {l : List Hs07.Item} (h : s.on[c]? = some l) : Hs07.items s c = l := getD_of h
theorem Shape.onto (h : Shape T S s) {c : Nat} {as : List Addr} {l : List Hs07.Item} (hl : s.on[c]? = some l) (r : Paired (ItemAt T S) as l) {a : Addr} {it : Hs07.Item} (ia : ItemAt T S a it) :
    Shape T (S.put (.wait c) (.lst ((as ++ [a]).map V.ref))) (Hs07.onto s c it) := by
  have e : Hs07.onto s c it = { s with on := s.on.set c (l ++ [it]) } := by unfold Hs07.onto; rw [items_of hl]
  rw [e]
  exact h.setOn (Cp.Paired.snoc' r ia)
def isPic (k : Nat) : Ro → Bool
  | .pic j => j == k
  | .recs j => j == k
  | .shut j => j == k
  | .caught j => j == k
  | .cl j _ => j == k
  | _ => false
theorem nd_num {l : List Hs07.Pic} (nd : (l.map (·.number)).Nodup) {i j : Nat} {x y : Hs07.Pic} (hx : l[i]? = some x) (hy : l[j]? = some y) (e : x.number = y.number) : i = j :=
  nd_ix nd (x := x.number) (by rw [List.getElem?_map, hx]; rfl) (by rw [List.getElem?_map, hy, e]; rfl)
theorem Shape.setPicAt (h : Shape T S s) {j : Nat} {x y : Hs07.Pic} (hx : s.pics[j]? = some x) (hy : y.number = x.number) (h1 : y.has.length = x.has.length) (h2 : y.came.length = x.came.length) (h3 : y.shut.length = x.shut.length)
    (ad : S'.ad = S.ad) (ob : ∀ r, isPic x.number r = false → S'.ob r = S.ob r) (P : PicAt T S' y) : Shape T S' { s with pics := s.pics.set j y } := by
  have im : ∀ a o, S.ob (.imm a) = some o → S'.ob (.imm a) = some o := fun a o e => by rw [ob _ rfl]; exact e
  refine ⟨?_, ?_, ?_, ?_, ?_, ?_, ?_, ?_, ?_, ⟨h.wf.ends, h.wf.on, ?_, ?_, h.wf.np, h.wf.nc, ?_⟩⟩
  · rw [ob _ rfl, ad]; exact h.net
  · rw [ob _ rfl, ad]; exact h.plist
  · intro i p hp; rw [ob _ rfl, ad]; exact h.proc i p hp
  · intro i hi; rw [ob _ rfl]; exact h.leav i hi
  · rw [ob _ rfl, ad]; exact h.clist
  · intro i p hp; rw [ob _ rfl, ad]; exact h.chan i p hp
  · intro c l hl
    obtain ⟨as, q, r⟩ := h.wait c l hl
    exact ⟨as, by rw [ob _ rfl]; exact q, Paired.mapP r fun a it z => z.of im⟩
  · rw [ob _ rfl, ad, h.pdict]
    exact congrArg (fun z => some (HO.dK z)) (map_set_same hx (by rw [hy])).symm
  · intro z hz
    obtain ⟨i, hi⟩ := List.mem_iff_getElem?.mp hz
    rcases set_get (show (s.pics.set j y)[i]? = some z from hi) with ⟨e, e2⟩ | ⟨e, e2⟩
    · subst e2; exact P
    · have ne : z.number ≠ x.number := fun q => e (nd_num h.wf.nd hx e2 q.symm)
      have f : ∀ r, isPic z.number r = true → S'.ob r = S.ob r := fun r hr => ob r (by
        cases r <;> simp_all [isPic])
      exact (h.pic z (List.mem_of_getElem? e2)).of (fun r hr => by rw [ad]) im (f _ (by simp [isPic])) (f _ (by simp [isPic])) (f _ (by simp [isPic])) (f _ (by simp [isPic])) (fun c => f _ (by simp [isPic]))
  · intro z hz
    obtain ⟨i, hi⟩ := List.mem_iff_getElem?.mp hz
    rcases set_get (show (s.pics.set j y)[i]? = some z from hi) with ⟨e, e2⟩ | ⟨e, e2⟩
    · subst e2
      have w := h.wf.pics x (List.mem_of_getElem? hx)
      exact ⟨h1.trans w.1, h2.trans w.2.1, h3.trans w.2.2.1, by rw [hy]; exact w.2.2.2⟩
    · exact h.wf.pics z (List.mem_of_getElem? e2)
  · show ((s.pics.set j y).map (·.number)).Nodup
    rw [map_set_same hx hy]
    exact h.wf.nd
  · show (s.pics.set j y).length ≤ 8
    rw [List.length_set]
    exact h.wf.nk
theorem setPic_eq (nd : (s.pics.map (·.number)).Nodup) {j : Nat} {x y : Hs07.Pic} (hx : s.pics[j]? = some x) (hy : y.number = x.number) : Hs07.setPic s y = { s with pics := s.pics.set j y } := by
  unfold Hs07.setPic
  congr 1
  apply List.ext_getElem?
  intro i
  rw [List.getElem?_map]
  by_cases hi : j = i
  · subst hi
    rw [List.getElem?_set_self (List.getElem?_eq_some_iff.mp hx).1, hx]
    simp [hy]
  · rw [List.getElem?_set_ne hi]
    cases q : s.pics[i]? with
    | none => rfl
    | some z =>
      have ne : z.number ≠ y.number := fun w => hi (nd_num nd hx q (by rw [← hy, ← w]))
      simp [ne]
theorem find_of {l : List Hs07.Pic} (nd : (l.map (·.number)).Nodup) {j : Nat} {x : Hs07.Pic} (hx : l[j]? = some x) : l.find? (fun z => z.number == x.number) = some x := by
  cases q : l.find? (fun z => z.number == x.number) with
  | none => exact absurd (List.find?_eq_none.mp q x (List.mem_of_getElem? hx)) (by simp)
  | some z =>
    obtain ⟨i, hi⟩ := List.mem_iff_getElem?.mp (List.mem_of_find?_eq_some q)
    have e : z.number = x.number := by simpa using List.find?_some q
    have ij := nd_num nd hi hx e
    subst ij
    rw [hi] at hx
    exact hx
theorem Shape.recorded (h : Shape T S s) {j p t a b : Nat} {x : Hs07.Pic} (hx : s.pics[j]? = some x) {kvs : List (Key × V)} (q : S.ob (.recs x.number) = some (.dK kvs)) (r : RecsIs S kvs x.has) (hp : x.has[p]? = some none) (ht : S.ob (.imm t) = some (.tup [.int a, .int b])) :
    Shape T (S.put (.recs x.number) (.dK (putK kvs (.inl ((p : Int) + 1)) (.ref t)))) { s with pics := s.pics.set j { x with has := x.has.set p (some (a, b)) } } := by
  refine h.setPicAt hx rfl List.length_set rfl rfl rfl (fun r hr => ?_) ?_
  · cases r <;> simp_all [isPic]
  · have P := h.pic x (List.mem_of_getElem? hx)
    have im : ∀ a o, S.ob (.imm a) = some o → (S.put (.recs x.number) (.dK (putK kvs (.inl ((p : Int) + 1)) (.ref t)))).ob (.imm a) = some o := fun a o e => by simpa using e
    have hn : valV kvs (.inl ((p : Int) + 1)) = none := by
      rcases r.val p none hp with z | ⟨_, _, _, z, _⟩
      · exact z.2
      · cases z
    refine ⟨?_, ⟨_, put_self, ?_, fun p' y hy => ?_, ?_⟩, by simpa using P.shut, by simpa using P.caught, fun c l hl => ?_⟩
    · obtain ⟨dx, e⟩ := P.pic
      exact ⟨dx, by simpa using e⟩
    · rw [putK_new _ hn, List.length_append, r.len]
      have := countP_set (f := Option.isSome) (y := some (a, b)) hp
      simp at this
      simp
      omega
    · rcases set_get hy with ⟨e, e2⟩ | ⟨e, e2⟩
      · subst e e2
        exact .inr ⟨a, b, t, rfl, by rw [valV_put, if_pos rfl], im _ _ ht⟩
      · have ne : ¬ (Sum.inl ((p' : Int) + 1) : Key) = .inl ((p : Int) + 1) := fun z => e (by have := Sum.inl.inj z; omega)
        rcases r.val p' y e2 with z | ⟨u, v, t', z1, z2, z3⟩
        · exact .inl ⟨z.1, by rw [valV_put, if_neg ne]; exact z.2⟩
        · exact .inr ⟨u, v, t', z1, by rw [valV_put, if_neg ne]; exact z2, im _ _ z3⟩
    · obtain ⟨l, q2, e2⟩ := r.sum
      refine ⟨l ++ [a], ?_, ?_⟩
      · rw [putK_new _ hn]
        exact Cp.Paired.snoc' (Paired.mapP q2 fun kv n ⟨t', b', z1, z2⟩ => ⟨t', b', z1, im _ _ z2⟩) ⟨t, b, rfl, im _ _ ht⟩
      · have := sum_setN (f := purseOf) (y := some (a, b)) hp
        show (l ++ [a]).sum = ((x.has.set p (some (a, b))).map purseOf).sum
        have n0 : purseOf none = 0 := rfl
        have n1 : purseOf (some (a, b)) = a := rfl
        rw [n0, n1] at this
        have n2 : (l ++ [a]).sum = l.sum + a := by rw [List.sum_append]; simp
        omega
    · obtain ⟨as, q', r'⟩ := P.cl c l hl
      exact ⟨as, by simpa using q', Paired.mapP r' fun a it ⟨dx, z⟩ => ⟨dx, im _ _ z⟩⟩
theorem putK_len {kvs : List (Key × V)} {k : Key} {v : V} : (putK kvs k v).length = kvs.length + (if (valV kvs k).isSome = true then 0 else 1) := by
  unfold putK
  rw [valV_any]
  by_cases e : (valV kvs k).isSome = true
  · rw [if_pos e, if_pos e]; simp
  · rw [if_neg e, if_neg e]; simp
theorem Shape.shutAt (h : Shape T S s) {j c : Nat} {x : Hs07.Pic} (hx : s.pics[j]? = some x) {kvs : List (Key × V)} (q : S.ob (.shut x.number) = some (.dK kvs)) (r : ShutIs kvs x.shut) (hc : c < x.shut.length) :
    Shape T (S.put (.shut x.number) (.dK (putK kvs (.inl ((c : Int) + 1)) (.bl true)))) { s with pics := s.pics.set j { x with shut := x.shut.set c true } } := by
  refine h.setPicAt hx rfl rfl rfl List.length_set rfl (fun r hr => ?_) ?_
  · cases r <;> simp_all [isPic]
  · have P := h.pic x (List.mem_of_getElem? hx)
    have im : ∀ a o, S.ob (.imm a) = some o → (S.put (.shut x.number) (.dK (putK kvs (.inl ((c : Int) + 1)) (.bl true)))).ob (.imm a) = some o := fun a o e => by simpa using e
    refine ⟨?_, ?_, ⟨_, put_self, ?_, fun c' y hy => ?_⟩, by simpa using P.caught, fun c l hl => ?_⟩
    · obtain ⟨dx, e⟩ := P.pic
      exact ⟨dx, by simpa using e⟩
    · obtain ⟨kvs', q', r'⟩ := P.recs
      exact ⟨kvs', by simpa using q', r'.of im⟩
    · have e1 : x.shut[c]? = some x.shut[c] := List.getElem?_eq_getElem hc
      have e2 := r.val c _ e1
      have := countP_set (f := id) (y := true) e1
      rw [putK_len, r.len, e2]
      simp at this
      cases hb : x.shut[c] <;> simp [hb] at this ⊢ <;> omega
    · rcases set_get hy with ⟨e, e2⟩ | ⟨e, e2⟩
      · subst e e2
        rw [valV_put, if_pos rfl]; rfl
      · have ne : ¬ (Sum.inl ((c' : Int) + 1) : Key) = .inl ((c : Int) + 1) := fun z => e (by have := Sum.inl.inj z; omega)
        rw [valV_put, if_neg ne]
        exact r.val c' y e2
    · obtain ⟨as, q', r'⟩ := P.cl c l hl
      exact ⟨as, by simpa using q', Paired.mapP r' fun a it ⟨dx, z⟩ => ⟨dx, im _ _ z⟩⟩
theorem Shape.caughtAt (h : Shape T S s) {j c : Nat} {x : Hs07.Pic} (hx : s.pics[j]? = some x) {as : List Addr} {l : List Hs07.Msg} (hl : x.came[c]? = some l) (r : Paired (MsgAt T S) as l) {a : Addr} {m : Hs07.Msg} (hm : MsgAt T S a m) :
    Shape T (S.put (.cl x.number c) (.lst ((as ++ [a]).map V.ref))) { s with pics := s.pics.set j { x with came := x.came.set c (l ++ [m]) } } := by
  refine h.setPicAt hx rfl rfl List.length_set rfl rfl (fun r hr => ?_) ?_
  · cases r <;> simp_all [isPic]
  · have P := h.pic x (List.mem_of_getElem? hx)
    have im : ∀ b o, S.ob (.imm b) = some o → (S.put (.cl x.number c) (.lst ((as ++ [a]).map V.ref))).ob (.imm b) = some o := fun a o e => by simpa using e
    refine ⟨?_, ?_, by simpa using P.shut, ?_, fun c' l' hl' => ?_⟩
    · obtain ⟨dx, e⟩ := P.pic
      exact ⟨dx, by simpa using e⟩
    · obtain ⟨kvs', q', r'⟩ := P.recs
      exact ⟨kvs', by simpa using q', r'.of im⟩
    · have e : (x.came.set c (l ++ [m])).length = x.came.length := List.length_set
      simpa [e] using P.caught
    · rcases set_get hl' with ⟨e, e2⟩ | ⟨e, e2⟩
      · subst e e2
        exact ⟨as ++ [a], by simp, Paired.mapP (Cp.Paired.snoc' r hm) fun a it ⟨dx, z⟩ => ⟨dx, im _ _ z⟩⟩
      · obtain ⟨as', q', r'⟩ := P.cl c' l' e2
        exact ⟨as', by simpa [Ne.symm e] using q', Paired.mapP r' fun a it ⟨dx, z⟩ => ⟨dx, im _ _ z⟩⟩
end
end Cp

set_option Elab.async false
set_option linter.all false
set_option maxRecDepth 100000
set_option maxHeartbeats 2000000
namespace Cp
open PySem PySem.Spec PyProof.Rows L2
theorem upd_swap {H : Hp} {a b : Addr} {o u : HO} (h : a ≠ b) : upd (upd H a o) b u = upd (upd H b u) a o := by
  funext c
  unfold upd
  by_cases h1 : c = a
  · subst h1
    rw [if_neg h, if_pos rfl, if_pos rfl]
  · by_cases h2 : c = b
    · subst h2
      rw [if_pos rfl, if_neg h1, if_pos rfl]
    · rw [if_neg h2, if_neg h1, if_neg h1, if_neg h2]
theorem lt1000 {n : Nat} (h : Nat.blt n 1000 = true) : n < 1000 := by simpa using h
section
variable {P : Program} {w : World} {K : PySem.W.Frag} {mg : Str → Option Value} {base : Heap} (T : Env K mg)
def spMessage_init : Sp := fun vs H Q _ => ∃ (p dx : Addr) (a b c : V), vs = [.ref p, a, b, c] ∧ H p = some (.ins T.cMessage dx []) ∧ Q .non (upd H p (.ins T.cMessage dx [("coins", a), ("memory", b), ("hops", c)]))
theorem ok_Message_init : FnOk P w K mg base CX0 1 T.f_Message_init T.d_Message_init ["self", "coins", "memory", "hops"] (spMessage_init T) := by
  refine T.F_Message_init.ok sc_Message_init (fun vs H Q E h => ?_) (fun cdv A outer s H vs Q E hr h => ?_)
  · obtain ⟨p, dx, a, b, c, rfl, _⟩ := h
    rfl
  · obtain ⟨p, dx, a, b, c, rfl, hp, k⟩ := h
    refine ⟨_, (pss_cons (ps_fld (pv 0) (pv 1) rfl)
      (pss_cons (ps_fld (pv 0) (pv 2) rfl)
      (pss_one (ps_fld (pv 0) (pv 3) rfl)))), ?_⟩
    refine ⟨_, rfl, _, rfl, p, T.cMessage, dx, _, rfl, hp, T.c_Message, T.n_Message_coins, lt1000 rfl, ?_⟩
    refine ⟨_, rfl, _, rfl, p, T.cMessage, dx, _, rfl, upd_same, T.c_Message, T.n_Message_memory, lt1000 rfl, ?_⟩
    refine ⟨_, rfl, _, rfl, p, T.cMessage, dx, _, rfl, upd_same, T.c_Message, T.n_Message_hops, lt1000 rfl, ?_⟩
    rw [upd_upd, upd_upd]
    exact k
def spMark_init : Sp := fun vs H Q _ => ∃ (p dx : Addr) (a : V), vs = [.ref p, a] ∧ H p = some (.ins T.cMark dx []) ∧ Q .non (upd H p (.ins T.cMark dx [("picture_number", a)]))
theorem ok_Mark_init : FnOk P w K mg base CX0 1 T.f_Mark_init T.d_Mark_init ["self", "picture_number"] (spMark_init T) := by
  refine T.F_Mark_init.ok sc_Mark_init (fun vs H Q E h => ?_) (fun cdv A outer s H vs Q E hr h => ?_)
  · obtain ⟨p, dx, a, rfl, _⟩ := h
    rfl
  · obtain ⟨p, dx, a, rfl, hp, k⟩ := h
    refine ⟨_, (pss_one (ps_fld (pv 0) (pv 1) rfl)), ?_⟩
    refine ⟨_, rfl, _, rfl, p, T.cMark, dx, _, rfl, hp, T.c_Mark, T.n_Mark_picture_number, lt1000 rfl, ?_⟩
    exact k
def spProcess_init : Sp := fun vs H Q _ => ∃ (p dx : Addr) (a : V), vs = [.ref p, a] ∧ H p = some (.ins T.cProcess dx []) ∧ ∀ l, H l = none → Q .non (upd (upd H l (.lst [])) p (.ins T.cProcess dx [("purse", a), ("memory", .int 0), ("down", .bl false), ("leaving", .ref l)]))
theorem ok_Process_init : FnOk P w K mg base CX0 1 T.f_Process_init T.d_Process_init ["self", "purse"] (spProcess_init T) := by
  refine T.F_Process_init.ok sc_Process_init (fun vs H Q E h => ?_) (fun cdv A outer s H vs Q E hr h => ?_)
  · obtain ⟨p, dx, a, rfl, _⟩ := h
    rfl
  · obtain ⟨p, dx, a, rfl, hp, k⟩ := h
    refine ⟨_, (pss_cons (ps_fld (pv 0) (pv 1) rfl)
      (pss_cons (ps_fld (pv 0) pe_int rfl)
      (pss_cons (ps_fld (pv 0) pe_bl rfl)
      (pss_one (ps_fld (pv 0) (pe_lst pa_nil) rfl))))), ?_⟩
    refine ⟨_, rfl, _, rfl, p, T.cProcess, dx, _, rfl, hp, T.c_Process, T.n_Process_purse, lt1000 rfl, ?_⟩
    refine ⟨_, rfl, p, T.cProcess, dx, _, rfl, upd_same, T.c_Process, T.n_Process_memory, lt1000 rfl, ?_⟩
    refine ⟨_, rfl, p, T.cProcess, dx, _, rfl, upd_same, T.c_Process, T.n_Process_down, lt1000 rfl, ?_⟩
    refine ⟨Nat.zero_le _, fun l hl => ?_⟩
    rw [upd_upd, upd_upd] at hl ⊢
    have np : p ≠ l := ne_of_none upd_same hl
    rw [upd_ne np.symm] at hl
    refine ⟨_, rfl, p, T.cProcess, dx, _, rfl, by rw [upd_ne np]; exact upd_same, T.c_Process, T.n_Process_leaving, lt1000 rfl, ?_⟩
    rw [upd_swap np, upd_upd]
    exact k l hl
def spChannel_init : Sp := fun vs H Q _ => ∃ (p dx : Addr) (a b : V), vs = [.ref p, a, b] ∧ H p = some (.ins T.cChannel dx []) ∧ ∀ l, H l = none → Q .non (upd (upd H l (.lst [])) p (.ins T.cChannel dx [("source", a), ("target", b), ("waiting", .ref l)]))
theorem ok_Channel_init : FnOk P w K mg base CX0 1 T.f_Channel_init T.d_Channel_init ["self", "source", "target"] (spChannel_init T) := by
  refine T.F_Channel_init.ok sc_Channel_init (fun vs H Q E h => ?_) (fun cdv A outer s H vs Q E hr h => ?_)
  · obtain ⟨p, dx, a, b, rfl, _⟩ := h
    rfl
  · obtain ⟨p, dx, a, b, rfl, hp, k⟩ := h
    refine ⟨_, (pss_cons (ps_fld (pv 0) (pv 1) rfl)
      (pss_cons (ps_fld (pv 0) (pv 2) rfl)
      (pss_one (ps_fld (pv 0) (pe_lst pa_nil) rfl)))), ?_⟩
    refine ⟨_, rfl, _, rfl, p, T.cChannel, dx, _, rfl, hp, T.c_Channel, T.n_Channel_source, lt1000 rfl, ?_⟩
    refine ⟨_, rfl, _, rfl, p, T.cChannel, dx, _, rfl, upd_same, T.c_Channel, T.n_Channel_target, lt1000 rfl, ?_⟩
    refine ⟨Nat.zero_le _, fun l hl => ?_⟩
    rw [upd_upd] at hl ⊢
    have np : p ≠ l := ne_of_none upd_same hl
    rw [upd_ne np.symm] at hl
    refine ⟨_, rfl, p, T.cChannel, dx, _, rfl, by rw [upd_ne np]; exact upd_same, T.c_Channel, T.n_Channel_waiting, lt1000 rfl, ?_⟩
    rw [upd_swap np, upd_upd]
    exact k l hl
def spNet_process : Sp := fun vs H Q _ => ∃ (S : Sto) (s : Hs07.St) (i : Nat), vs = [.ref (S.ad .net), .int ((i : Int) + 1)] ∧ Hold H S ∧ Sk T S s ∧ i < s.procs.length ∧ Q (.ref (S.ad (.proc i))) H
theorem ok_Net_process : FnOk P w K mg base CX0 1 T.f_Net_process T.d_Net_process ["self", "p"] (spNet_process T) := by
  refine T.F_Net_process.ok sc_Net_process (fun vs H Q E h => ?_) (fun cdv A outer s H vs Q E hr h => ?_)
  · obtain ⟨S, s, i, rfl, _⟩ := h
    rfl
  · obtain ⟨S, s, i, rfl, hH, hS, hi, k⟩ := h
    obtain ⟨dn, en⟩ := hS.net
    refine ⟨_, (pss_one (ps_ret (pe_ix ix_list (pe_fld (pv 0) rfl) (pe_op op_sub (pv 1) pe_int) (fun _ _ => rfl)))), ?_⟩
    refine ⟨_, rfl, _, T.cNet, dn, _, _, rfl, hH.at_ _ _ en, T.c_Net, T.n_Net_processes, rfl, _, rfl, _, _, rfl, rfl, ?_⟩
    refine ⟨_, _, _, _, rfl, rfl, SqL.of (hH.at_ _ _ hS.plist), at_of (j := i) (by omega) (get_range _ hi), k⟩
def spNet_channel : Sp := fun vs H Q _ => ∃ (S : Sto) (s : Hs07.St) (i : Nat), vs = [.ref (S.ad .net), .int ((i : Int) + 1)] ∧ Hold H S ∧ Sk T S s ∧ i < s.chans.length ∧ Q (.ref (S.ad (.chan i))) H
theorem ok_Net_channel : FnOk P w K mg base CX0 1 T.f_Net_channel T.d_Net_channel ["self", "c"] (spNet_channel T) := by
  refine T.F_Net_channel.ok sc_Net_channel (fun vs H Q E h => ?_) (fun cdv A outer s H vs Q E hr h => ?_)
  · obtain ⟨S, s, i, rfl, _⟩ := h
    rfl
  · obtain ⟨S, s, i, rfl, hH, hS, hi, k⟩ := h
    obtain ⟨dn, en⟩ := hS.net
    refine ⟨_, (pss_one (ps_ret (pe_ix ix_list (pe_fld (pv 0) rfl) (pe_op op_sub (pv 1) pe_int) (fun _ _ => rfl)))), ?_⟩
    refine ⟨_, rfl, _, T.cNet, dn, _, _, rfl, hH.at_ _ _ en, T.c_Net, T.n_Net_channels, rfl, _, rfl, _, _, rfl, rfl, ?_⟩
    refine ⟨_, _, _, _, rfl, rfl, SqL.of (hH.at_ _ _ hS.clist), at_of (j := i) (by omega) (get_range _ hi), k⟩
def spNet_sender : Sp := fun vs H Q _ => ∃ (S : Sto) (s : Hs07.St) (i : Nat), vs = [.ref (S.ad .net), .int ((i : Int) + 1)] ∧ Hold H S ∧ Sk T S s ∧ i < s.chans.length ∧ Q (.ref (S.ad (.proc (Hs07.source s i)))) H
theorem ok_Net_sender : FnOk P w K mg base CX0 2 T.f_Net_sender T.d_Net_sender ["self", "c"] (spNet_sender T) := by
  refine T.F_Net_sender.ok sc_Net_sender (fun vs H Q E h => ?_) (fun cdv A outer s H vs Q E hr h => ?_)
  · obtain ⟨S, s, i, rfl, _⟩ := h
    rfl
  · obtain ⟨S, s, i, rfl, hH, hS, hi, k⟩ := h
    obtain ⟨dn, en⟩ := hS.net
    have ex : s.chans[i]? = some s.chans[i] := List.getElem?_eq_getElem hi
    obtain ⟨dc, ec⟩ := hS.chan i _ ex
    have es : Hs07.source s i = s.chans[i].1 := by unfold Hs07.source; rw [getD_of ex]
    refine ⟨_, (pss_one (ps_ret (pe_meth (pv 0) T.c_Net T.m_Net_process (ok_Net_process T) (hr.mono (by decide)) T.b_Net_process .nil pass0 (pa_cons (pe_fld (pe_meth (pv 0) T.c_Net T.m_Net_channel (ok_Net_channel T) (hr.mono (by decide)) T.b_Net_channel .nil pass0 (pa_cons (pv 1) pa_nil)) rfl) pa_nil)))), ?_⟩
    refine ⟨_, rfl, _, dn, _, rfl, hH.at_ _ _ en, rfl, _, rfl, _, dn, _, rfl, hH.at_ _ _ en, rfl, _, rfl, ?_⟩
    refine ⟨S, s, i, rfl, hH, hS, hi, ?_⟩
    refine ⟨_, T.cChannel, dc, _, _, rfl, hH.at_ _ _ ec, T.c_Channel, T.n_Channel_source, rfl, ?_⟩
    rw [es] at k
    exact ⟨S, s, _, rfl, hH, hS, (hS.ends i _ ex).1, k⟩
end
end Cp

set_option Elab.async false
set_option linter.all false
set_option maxRecDepth 100000
set_option maxHeartbeats 2000000
namespace Cp
open PySem PySem.Spec PyProof.Rows L2
theorem valV_pics (ad : Ro → Addr) (k : Nat) : ∀ l : List Hs07.Pic, valV (l.map fun x => ((Sum.inl (x.number : Int) : Key), V.ref (ad (.pic x.number)))) (.inl (k : Int)) = (l.find? fun x => x.number == k).map fun x => V.ref (ad (.pic x.number))
  | [] => rfl
  | x :: r => by
    rw [List.map_cons, List.find?_cons]
    by_cases e : x.number = k
    · rw [valV_pos (by show (Sum.inl (x.number : Int) : Key) = _; rw [e])]
      simp [e]
    · rw [valV_neg (by show ¬ (Sum.inl (x.number : Int) : Key) = _; intro z; have := Sum.inl.inj z; omega), valV_pics ad k r]
      have b : (x.number == k) = false := by simpa using e
      rw [b]
theorem pe_gint {X : Cx} {x : Str} {i : Int} {t : Tok} {pos : Pos} (hg : Gl X x) (hm : X.mg x = some (.int i t)) (hd : (x == ("__debug__" : Str)) = false := by decide) : PE X (.Name x pos) (tC (.int i)) := pe_glob (v := .int i) hg hm ⟨t, rfl⟩ hd
section
variable {P : Program} {w : World} {K : PySem.W.Frag} {mg : Str → Option Value} {base : Heap} (T : Env K mg)
theorem lay_imm_ad {H : Hp} {S : Sto} (h : Hold H S) {a : Addr} {o : HO} : (S.lay (.imm a) a o).ad = S.ad := by
  funext r
  show (if r = .imm a then a else S.ad r) = S.ad r
  by_cases e : r = .imm a
  · rw [if_pos e, e, h.imm]
  · rw [if_neg e]
theorem Hold.made {H : Hp} {S : Sto} {x dx : Addr} (h : Hold H S) (nx : H x = none) (nd : H dx = none) (ne : dx ≠ x) (o : HO) : Hold (upd (upd H dx (.own x)) x o) (S.lay (.imm x) x o) :=
  (h.other nd _).lay (by rw [upd_ne (Ne.symm ne)]; exact nx) o (fun b e => by cases e; rfl)
theorem Fr.made {H : Hp} {S : Sto} {x dx : Addr} (nx : H x = none) (nd : H dx = none) (ne : dx ≠ x) (o : HO) : Fr H S (upd (upd H dx (.own x)) x o) (S.lay (.imm x) x o) :=
  (Fr.other nd _).trans (Fr.lay (by rw [upd_ne (Ne.symm ne)]; exact nx) o)
def spNet_getter : Sp := fun vs H Q _ => ∃ (S : Sto) (s : Hs07.St) (i : Nat), vs = [.ref (S.ad .net), .int ((i : Int) + 1)] ∧ Hold H S ∧ Sk T S s ∧ i < s.chans.length ∧ Q (.ref (S.ad (.proc (Hs07.target s i)))) H
theorem ok_Net_getter : FnOk P w K mg base CX0 2 T.f_Net_getter T.d_Net_getter ["self", "c"] (spNet_getter T) := by
  refine T.F_Net_getter.ok sc_Net_getter (fun vs H Q E h => ?_) (fun cdv A outer s H vs Q E hr h => ?_)
  · obtain ⟨S, s, i, rfl, _⟩ := h
    rfl
  · obtain ⟨S, s, i, rfl, hH, hS, hi, k⟩ := h
    obtain ⟨dn, en⟩ := hS.net
    have ex : s.chans[i]? = some s.chans[i] := List.getElem?_eq_getElem hi
    obtain ⟨dc, ec⟩ := hS.chan i _ ex
    have es : Hs07.target s i = s.chans[i].2 := by unfold Hs07.target; rw [getD_of ex]
    refine ⟨_, (pss_one (ps_ret (pe_meth (pv 0) T.c_Net T.m_Net_process (ok_Net_process T) (hr.mono (by decide)) T.b_Net_process .nil pass0 (pa_cons (pe_fld (pe_meth (pv 0) T.c_Net T.m_Net_channel (ok_Net_channel T) (hr.mono (by decide)) T.b_Net_channel .nil pass0 (pa_cons (pv 1) pa_nil)) rfl) pa_nil)))), ?_⟩
    refine ⟨_, rfl, _, dn, _, rfl, hH.at_ _ _ en, rfl, _, rfl, _, dn, _, rfl, hH.at_ _ _ en, rfl, _, rfl, ?_⟩
    refine ⟨S, s, i, rfl, hH, hS, hi, ?_⟩
    refine ⟨_, T.cChannel, dc, _, _, rfl, hH.at_ _ _ ec, T.c_Channel, T.n_Channel_target, rfl, ?_⟩
    rw [es] at k
    exact ⟨S, s, _, rfl, hH, hS, (hS.ends i _ ex).2, k⟩
def spNet_has_process : Sp := fun vs H Q _ => ∃ (S : Sto) (s : Hs07.St) (i : Int), vs = [.ref (S.ad .net), .int i] ∧ Hold H S ∧ Shape T S s ∧ Q (.bl (decide (1 ≤ i ∧ i ≤ s.procs.length))) H
theorem chain_dec {i n : Int} {Q : V → Prop} (k : Q (.bl (decide (1 ≤ i ∧ i ≤ n)))) : (∃ c : Bool, V.bl (decide ((1 : Int) ≤ i)) = .bl c ∧ (if c = true then Q (.bl (decide (i ≤ n))) else Q (.bl false))) := by
  refine ⟨_, rfl, ?_⟩
  by_cases h : (1 : Int) ≤ i
  · rw [decide_eq_true h]
    have e : decide (1 ≤ i ∧ i ≤ n) = decide (i ≤ n) := by simp [h]
    rw [e] at k
    exact iteT k
  · rw [decide_eq_false h]
    have e : decide (1 ≤ i ∧ i ≤ n) = false := by simp [h]
    rw [e] at k
    exact iteF k
theorem ok_Net_has_process : FnOk P w K mg base CX0 1 T.f_Net_has_process T.d_Net_has_process ["self", "p"] (spNet_has_process T) := by
  refine T.F_Net_has_process.ok sc_Net_has_process (fun vs H Q E h => ?_) (fun cdv A outer s H vs Q E hr h => ?_)
  · obtain ⟨S, s, i, rfl, _⟩ := h
    rfl
  · obtain ⟨S, s, i, rfl, hH, hS, k⟩ := h
    obtain ⟨dn, en⟩ := hS.net
    refine ⟨_, (pss_one (ps_ret (pe_chain op_le op_le pe_int (pv 1) (pe_callB call_len_seq rfl T.n_len PySem.boot_len (pa_cons (pe_fld (pv 0) rfl) pa_nil))))), ?_⟩
    refine ⟨_, rfl, _, _, rfl, rfl, _, rfl, ite2 (fun c => ?_) (fun c => ?_)⟩
    · refine ⟨_, rfl, _, T.cNet, dn, _, _, rfl, hH.at_ _ _ en, T.c_Net, T.n_Net_processes, rfl, _, _, rfl, .inl (SqL.of (hH.at_ _ _ hS.plist)), _, _, rfl, rfl, ?_⟩
      have c' := of_decide_eq_true c
      have e : decide (1 ≤ i ∧ i ≤ s.procs.length) = decide (i ≤ (((List.range s.procs.length).map fun i => V.ref (S.ad (.proc i))).length : Int)) := by simp [c']
      rw [e] at k
      exact k
    · have c' : ¬ (1 : Int) ≤ i := fun z => c (decide_eq_true z)
      have e : decide (1 ≤ i ∧ i ≤ s.procs.length) = false := by simp [c']
      rw [e] at k
      exact k
def spNet_has_channel : Sp := fun vs H Q _ => ∃ (S : Sto) (s : Hs07.St) (i : Int), vs = [.ref (S.ad .net), .int i] ∧ Hold H S ∧ Shape T S s ∧ Q (.bl (decide (1 ≤ i ∧ i ≤ s.chans.length))) H
theorem ok_Net_has_channel : FnOk P w K mg base CX0 1 T.f_Net_has_channel T.d_Net_has_channel ["self", "c"] (spNet_has_channel T) := by
  refine T.F_Net_has_channel.ok sc_Net_has_channel (fun vs H Q E h => ?_) (fun cdv A outer s H vs Q E hr h => ?_)
  · obtain ⟨S, s, i, rfl, _⟩ := h
    rfl
  · obtain ⟨S, s, i, rfl, hH, hS, k⟩ := h
    obtain ⟨dn, en⟩ := hS.net
    refine ⟨_, (pss_one (ps_ret (pe_chain op_le op_le pe_int (pv 1) (pe_callB call_len_seq rfl T.n_len PySem.boot_len (pa_cons (pe_fld (pv 0) rfl) pa_nil))))), ?_⟩
    refine ⟨_, rfl, _, _, rfl, rfl, _, rfl, ite2 (fun c => ?_) (fun c => ?_)⟩
    · refine ⟨_, rfl, _, T.cNet, dn, _, _, rfl, hH.at_ _ _ en, T.c_Net, T.n_Net_channels, rfl, _, _, rfl, .inl (SqL.of (hH.at_ _ _ hS.clist)), _, _, rfl, rfl, ?_⟩
      have c' := of_decide_eq_true c
      have e : decide (1 ≤ i ∧ i ≤ s.chans.length) = decide (i ≤ (((List.range s.chans.length).map fun i => V.ref (S.ad (.chan i))).length : Int)) := by simp [c']
      rw [e] at k
      exact k
    · have c' : ¬ (1 : Int) ≤ i := fun z => c (decide_eq_true z)
      have e : decide (1 ≤ i ∧ i ≤ s.chans.length) = false := by simp [c']
      rw [e] at k
      exact k
def spNet_has_picture : Sp := fun vs H Q _ => ∃ (S : Sto) (s : Hs07.St) (i : Nat), vs = [.ref (S.ad .net), .int i] ∧ Hold H S ∧ Shape T S s ∧ Q (.bl (Hs07.picOf s i).isSome) H
theorem ok_Net_has_picture : FnOk P w K mg base CX0 1 T.f_Net_has_picture T.d_Net_has_picture ["self", "k"] (spNet_has_picture T) := by
  refine T.F_Net_has_picture.ok sc_Net_has_picture (fun vs H Q E h => ?_) (fun cdv A outer s H vs Q E hr h => ?_)
  · obtain ⟨S, s, i, rfl, _⟩ := h
    rfl
  · obtain ⟨S, s, i, rfl, hH, hS, k⟩ := h
    obtain ⟨dn, en⟩ := hS.net
    have hu := hu_of hr
    refine ⟨_, (pss_one (ps_ret (pe_cmp (pc_din hu (pv 1) (pe_fld (pv 0) rfl))))), ?_⟩
    refine ⟨_, rfl, _, rfl, _, T.cNet, dn, _, _, rfl, hH.at_ _ _ en, T.c_Net, T.n_Net_pictures, rfl, _, _, rfl, DGet.k (k := Sum.inl (i : Int)) (hH.at_ _ _ hS.pdict), ?_⟩
    rw [valV_pics S.ad i s.pics, Option.isSome_map]
    exact k
def spPicture_has_record : Sp := fun vs H Q _ => ∃ (S : Sto) (x : Hs07.Pic) (i : Nat), vs = [.ref (S.ad (.pic x.number)), .int ((i : Int) + 1)] ∧ Hold H S ∧ PicAt T S x ∧ i < x.has.length ∧ Q (.bl (Hs07.hasDone x i)) H
theorem ok_Picture_has_record : FnOk P w K mg base CX0 1 T.f_Picture_has_record T.d_Picture_has_record ["self", "p"] (spPicture_has_record T) := by
  refine T.F_Picture_has_record.ok sc_Picture_has_record (fun vs H Q E h => ?_) (fun cdv A outer s H vs Q E hr h => ?_)
  · obtain ⟨S, s, i, rfl, _⟩ := h
    rfl
  · obtain ⟨S, x, i, rfl, hH, hP, hi, k⟩ := h
    obtain ⟨dn, en⟩ := hP.pic
    obtain ⟨kvs, er, hR⟩ := hP.recs
    have hu := hu_of hr
    refine ⟨_, (pss_one (ps_ret (pe_cmp (pc_din hu (pv 1) (pe_fld (pv 0) rfl))))), ?_⟩
    refine ⟨_, rfl, _, rfl, _, T.cPicture, dn, _, _, rfl, hH.at_ _ _ en, T.c_Picture, T.n_Picture_records, rfl, _, _, rfl, DGet.k (k := Sum.inl ((i : Int) + 1)) (hH.at_ _ _ er), ?_⟩
    have ex : x.has[i]? = some x.has[i] := List.getElem?_eq_getElem hi
    have e : Hs07.hasDone x i = (valV kvs (.inl ((i : Int) + 1))).isSome := by
      unfold Hs07.hasDone
      rw [getD_of ex]
      rcases hR.val i _ ex with z | ⟨u, v, t, z1, z2, z3⟩
      · rw [z.1, z.2]; rfl
      · rw [z1, z2]; rfl
    rw [e] at k
    exact k
def spPicture_is_shut : Sp := fun vs H Q _ => ∃ (S : Sto) (x : Hs07.Pic) (i : Nat), vs = [.ref (S.ad (.pic x.number)), .int ((i : Int) + 1)] ∧ Hold H S ∧ PicAt T S x ∧ i < x.shut.length ∧ Q (.bl (x.shut.getD i false)) H
theorem ok_Picture_is_shut : FnOk P w K mg base CX0 1 T.f_Picture_is_shut T.d_Picture_is_shut ["self", "c"] (spPicture_is_shut T) := by
  refine T.F_Picture_is_shut.ok sc_Picture_is_shut (fun vs H Q E h => ?_) (fun cdv A outer s H vs Q E hr h => ?_)
  · obtain ⟨S, s, i, rfl, _⟩ := h
    rfl
  · obtain ⟨S, x, i, rfl, hH, hP, hi, k⟩ := h
    obtain ⟨dn, en⟩ := hP.pic
    obtain ⟨kvs, er, hR⟩ := hP.shut
    have hu := hu_of hr
    refine ⟨_, (pss_one (ps_ret (pe_cmp (pc_din hu (pv 1) (pe_fld (pv 0) rfl))))), ?_⟩
    refine ⟨_, rfl, _, rfl, _, T.cPicture, dn, _, _, rfl, hH.at_ _ _ en, T.c_Picture, T.n_Picture_shut, rfl, _, _, rfl, DGet.k (k := Sum.inl ((i : Int) + 1)) (hH.at_ _ _ er), ?_⟩
    have ex : x.shut[i]? = some x.shut[i] := List.getElem?_eq_getElem hi
    rw [getD_of ex, ← hR.val i _ ex] at k
    exact k
theorem countP_all {α : Type} {f : α → Bool} : ∀ {l : List α}, (l.countP f = l.length) = (l.all f = true)
  | [] => by simp
  | a :: r => by
    have ih := countP_all (f := f) (l := r)
    rw [List.countP_cons, List.all_cons, Bool.and_eq_true, ← ih, List.length_cons]
    have := List.countP_le_length (p := f) (l := r)
    by_cases h : f a = true
    · rw [if_pos h]; simp [h]
    · rw [if_neg h]; simp [h]; omega
def spPicture_is_whole : Sp := fun vs H Q _ => ∃ (S : Sto) (x : Hs07.Pic), vs = [.ref (S.ad (.pic x.number))] ∧ Hold H S ∧ PicAt T S x ∧ x.came.length = x.shut.length ∧ Q (.bl (Hs07.isWhole x)) H
theorem ok_Picture_is_whole : FnOk P w K mg base CX0 1 T.f_Picture_is_whole T.d_Picture_is_whole ["self"] (spPicture_is_whole T) := by
  refine T.F_Picture_is_whole.ok sc_Picture_is_whole (fun vs H Q E h => ?_) (fun cdv A outer s H vs Q E hr h => ?_)
  · obtain ⟨S, s, rfl, _⟩ := h
    rfl
  · obtain ⟨S, x, rfl, hH, hP, hl, k⟩ := h
    obtain ⟨dn, en⟩ := hP.pic
    obtain ⟨kr, er, hR⟩ := hP.recs
    obtain ⟨ks, es, hT⟩ := hP.shut
    refine ⟨_, (pss_one (ps_ret (pe_and (pe_cmpR op_eq (pe_callB call_lenD rfl T.n_len PySem.boot_len (pa_cons (pe_fld (pv 0) rfl) pa_nil)) (pe_fld (pv 0) rfl) (nomark _)) (pe_one (pe_cmpR op_eq (pe_callB call_lenD rfl T.n_len PySem.boot_len (pa_cons (pe_fld (pv 0) rfl) pa_nil)) (pe_callB call_len_seq rfl T.n_len PySem.boot_len (pa_cons (pe_fld (pv 0) rfl) pa_nil)) (nomark _)))))), ?_⟩
    have gn := hH.at_ _ _ en
    refine ⟨_, rfl, _, T.cPicture, dn, _, _, rfl, gn, T.c_Picture, T.n_Picture_records, rfl, _, kr, rfl, hH.at_ _ _ er, _, rfl, _, T.cPicture, dn, _, _, rfl, gn, T.c_Picture, T.n_Picture_process_count, rfl, rfl, _, rfl, ite2 (fun c => ?_) (fun c => ?_)⟩
    · refine ⟨_, rfl, _, T.cPicture, dn, _, _, rfl, gn, T.c_Picture, T.n_Picture_shut, rfl, _, ks, rfl, hH.at_ _ _ es, _, rfl, _, T.cPicture, dn, _, _, rfl, gn, T.c_Picture, T.n_Picture_caught, rfl, _, _, rfl, .inl (SqL.of (hH.at_ _ _ hP.caught)), rfl, ?_⟩
      have c' : (kr.length : Int) = x.has.length := V.int.inj (of_decide_eq_true c)
      have e : Hs07.isWhole x = decide (V.int ks.length = V.int ((List.range x.came.length).map fun c => V.ref (S.ad (.cl x.number c))).length) := by
        unfold Hs07.isWhole
        have e1 : x.has.all Option.isSome = true := by rw [← countP_all, ← hR.len]; omega
        rw [e1, Bool.true_and, Bool.eq_iff_iff, ← countP_all, ← hT.len, decide_eq_true_iff]
        simp [hl]
        omega
      rw [e] at k
      exact k
    · have c' : ¬ kr.length = x.has.length := fun z => c (decide_eq_true (by rw [z]))
      have e : Hs07.isWhole x = false := by
        unfold Hs07.isWhole
        have e1 : x.has.all Option.isSome = false := by
          rw [Bool.eq_false_iff]
          intro z
          rw [← countP_all, ← hR.len] at z
          exact c' z
        rw [e1, Bool.false_and]
      rw [e] at k
      exact k
end
end Cp

set_option Elab.async false
set_option linter.all false
set_option maxRecDepth 100000
set_option maxHeartbeats 2000000
namespace Cp
open PySem PySem.Spec PyProof.Rows L2
theorem proc_of {s : Hs07.St} {p : Nat} (h : p < s.procs.length) : s.procs[p]? = some (Hs07.proc s p) := by
  have e : s.procs[p]? = some s.procs[p] := List.getElem?_eq_getElem h
  rw [e]
  unfold Hs07.proc
  rw [getD_of e]
theorem items_get {s : Hs07.St} {c : Nat} (h : c < s.on.length) : s.on[c]? = some (Hs07.items s c) := by
  have e : s.on[c]? = some s.on[c] := List.getElem?_eq_getElem h
  rw [e, items_of e]
theorem src_lt {s : Hs07.St} (h : WF s) {c : Nat} (hc : c < s.chans.length) : Hs07.source s c < s.procs.length := by
  have ex : s.chans[c]? = some s.chans[c] := List.getElem?_eq_getElem hc
  have es : Hs07.source s c = s.chans[c].1 := by unfold Hs07.source; rw [getD_of ex]
  rw [es]
  exact (h.ends c _ ex).1
theorem tgt_lt {s : Hs07.St} (h : WF s) {c : Nat} (hc : c < s.chans.length) : Hs07.target s c < s.procs.length := by
  have ex : s.chans[c]? = some s.chans[c] := List.getElem?_eq_getElem hc
  have es : Hs07.target s c = s.chans[c].2 := by unfold Hs07.target; rw [getD_of ex]
  rw [es]
  exact (h.ends c _ ex).2
theorem setProc_set {s : Hs07.St} {p : Nat} {x y : Hs07.Proc} : Hs07.setProc (Hs07.setProc s p x) p y = Hs07.setProc s p y := by
  unfold Hs07.setProc
  simp
theorem put_put {S : Sto} {r : Ro} {o u : HO} : (S.put r o).put r u = S.put r u := by
  unfold Sto.put
  congr 1
  funext x
  by_cases e : x = r <;> simp [e]
theorem hp_eq {F : Hp → Prop} {H1 H2 : Hp} (e : H1 = H2) (h : F H2) : F H1 := by rw [e]; exact h
theorem procF_purse {y : Hs07.Proc} {lv : Addr} {z : Int} {m : Nat} (e : z = (m : Int)) : putF "purse" (.int z) (procF y lv) = procF ⟨m, y.memory, y.down⟩ lv := by subst e; rfl
theorem procF_memory {y : Hs07.Proc} {lv : Addr} {z : Int} {m : Nat} (e : z = (m : Int)) : putF "memory" (.int z) (procF y lv) = procF ⟨y.purse, m, y.down⟩ lv := by subst e; rfl
section
variable {P : Program} {w : World} {K : PySem.W.Frag} {mg : Str → Option Value} {base : Heap} (T : Env K mg)
def spNet_put_message : Sp := fun vs H Q _ => ∃ (S : Sto) (s : Hs07.St) (c coins hops : Nat), vs = [.ref (S.ad .net), .int ((c : Int) + 1), .int coins, .int hops] ∧ Hold H S ∧ Shape T S s ∧ c < s.chans.length ∧
  coins ≤ (Hs07.proc s (Hs07.source s c)).purse ∧ (Hs07.items s c).length < sizeLine ∧ ∀ H' S', Hold H' S' → Fr H S H' S' → Shape T S' (Hs07.puts s c coins hops) → S'.ad = S.ad → Im S S' → Q .non H'
theorem ok_Net_put_message : FnOk P w K mg base CX0 3 T.f_Net_put_message T.d_Net_put_message ["self", "c", "coins", "hops"] (spNet_put_message T) := by
  refine T.F_Net_put_message.ok sc_Net_put_message (fun vs H Q E h => ?_) (fun cdv A outer s H vs Q E hr h => ?_)
  · obtain ⟨S, s, c, coins, hops, rfl, _⟩ := h
    rfl
  · obtain ⟨S, s, c, coins, hops, rfl, hH, hS, hc, hco, hlen, k⟩ := h
    obtain ⟨dn, en⟩ := hS.net
    have hu := hu_of hr
    have hp := src_lt hS.wf hc
    obtain ⟨dp, ep⟩ := hS.proc _ _ (proc_of hp)
    refine ⟨_, (pss_cons (ps_set (i := 4) sc_Net_put_message.nd rfl (Or.inl rfl) (pe_meth (pv 0) T.c_Net T.m_Net_sender (ok_Net_sender T) (hr.mono (by decide)) T.b_Net_sender .nil pass0 (pa_cons (pv 1) pa_nil)))
      (pss_cons (ps_fldaug (pv 4) (pv 2) in_sub)
      (pss_cons (ps_fld (pv 4) (pe_op op_mod (pe_op op_add (pe_op op_add (pe_op op_add (pe_op op_mul pe_int (pe_fld (pv 4) rfl)) (pe_op op_mul pe_int (pv 1))) (pe_op op_mul pe_int (pv 3))) (pv 2)) (pe_gint rfl T.g_MODULUS)) rfl)
      (pss_one (ps_expr (pe_bm PySem.F.plainAttrs_list PySem.F.slot_list_append PySem.F.type_list_append mt_append (pe_fld (pe_meth (pv 0) T.c_Net T.m_Net_channel (ok_Net_channel T) (hr.mono (by decide)) T.b_Net_channel .nil pass0 (pa_cons (pv 1) pa_nil)) rfl) (pa_cons (pe_make T.mk_Message (ok_Message_init T) (hr.mono (by decide)) rfl T.g_Message T.b_Message_init .nil pass0 (pa_cons (pv 2) (pa_cons (pe_fld (pv 4) rfl) (pa_cons (pv 3) pa_nil)))) pa_nil))))))), ?_⟩
    refine ⟨_, rfl, _, dn, _, rfl, hH.at_ _ _ en, rfl, _, rfl, S, s, c, rfl, hH, hS.sk, hc, ?_⟩
    generalize hx : Hs07.proc s (Hs07.source s c) = x at *
    refine ⟨_, rfl, _, T.cProcess, dp, _, _, rfl, hH.at_ _ _ ep, T.c_Process, T.n_Process_purse, rfl, _, rfl, _, _, rfl, rfl, dp, _, hH.at_ _ _ ep, lt1000 rfl, ?_⟩
    refine hp_eq (congrArg (fun z => upd _ _ (HO.ins T.cProcess dp z)) (procF_purse (m := x.purse - coins) (by omega))) ?_
    have hH1 := hH.write ep (.ins T.cProcess dp (procF ⟨x.purse - coins, x.memory, x.down⟩ (S.ad (.leav (Hs07.source s c)))))
    have f1 : Fr H S _ _ := Fr.write ep (.ins T.cProcess dp (procF ⟨x.purse - coins, x.memory, x.down⟩ (S.ad (.leav (Hs07.source s c)))))
    have ep1 : (S.put (.proc (Hs07.source s c)) (.ins T.cProcess dp (procF ⟨x.purse - coins, x.memory, x.down⟩ (S.ad (.leav (Hs07.source s c)))))).ob (.proc (Hs07.source s c)) = some _ := put_self
    have em : (31 * (x.memory : Int) + 101 * ((c : Int) + 1) + 7 * (hops : Int) + (coins : Int)) % 65521 = ((Hs07.mix x.memory c coins hops : Nat) : Int) := by
      unfold Hs07.mix
      omega
    refine ⟨_, rfl, _, T.cProcess, dp, _, _, rfl, upd_same, T.c_Process, T.n_Process_memory, rfl, _, _, rfl, rfl, .inl ⟨by decide, by decide⟩, _, rfl, _, _, rfl, rfl, .inl ⟨by decide, by decide⟩, _, _, rfl, rfl, _, rfl, _, _, rfl, rfl, .inl ⟨by decide, by decide⟩,
      _, _, rfl, rfl, _, rfl, _, _, rfl, rfl, _, _, rfl, rfl, (by show (0 : Int) < 65521; decide), _, rfl, _, T.cProcess, dp, _, rfl, upd_same, T.c_Process, T.n_Process_memory, lt1000 rfl, ?_⟩
    refine hp_eq (congrArg (fun z => upd _ _ (HO.ins T.cProcess dp z)) (procF_memory em)) ?_
    have hH2 := hH1.write ep1 (.ins T.cProcess dp (procF ⟨x.purse - coins, Hs07.mix x.memory c coins hops, x.down⟩ (S.ad (.leav (Hs07.source s c)))))
    have f2 := Fr.write (H := upd H (S.ad (.proc (Hs07.source s c))) (.ins T.cProcess dp (procF ⟨x.purse - coins, x.memory, x.down⟩ (S.ad (.leav (Hs07.source s c)))))) ep1 (.ins T.cProcess dp (procF ⟨x.purse - coins, Hs07.mix x.memory c coins hops, x.down⟩ (S.ad (.leav (Hs07.source s c)))))
    rw [put_put] at hH2 f2
    have f12 := f1.trans f2
    have hS2 := hS.setProc (Hs07.source s c) ⟨x.purse - coins, Hs07.mix x.memory c coins hops, x.down⟩ dp
    have ep2 : (S.put (.proc (Hs07.source s c)) (.ins T.cProcess dp (procF ⟨x.purse - coins, Hs07.mix x.memory c coins hops, x.down⟩ (S.ad (.leav (Hs07.source s c)))))).ob (.proc (Hs07.source s c)) = some _ := put_self
    have ead : (S.put (.proc (Hs07.source s c)) (.ins T.cProcess dp (procF ⟨x.purse - coins, Hs07.mix x.memory c coins hops, x.down⟩ (S.ad (.leav (Hs07.source s c)))))).ad = S.ad := rfl
    have im2 : Im S (S.put (.proc (Hs07.source s c)) (.ins T.cProcess dp (procF ⟨x.purse - coins, Hs07.mix x.memory c coins hops, x.down⟩ (S.ad (.leav (Hs07.source s c)))))) := Im.put (by simp)
    generalize hS2e : S.put (.proc (Hs07.source s c)) (.ins T.cProcess dp (procF ⟨x.purse - coins, Hs07.mix x.memory c coins hops, x.down⟩ (S.ad (.leav (Hs07.source s c))))) = S2 at *
    generalize hs2e : Hs07.setProc s (Hs07.source s c) ⟨x.purse - coins, Hs07.mix x.memory c coins hops, x.down⟩ = s2 at *
    have hc2 : c < s2.chans.length := by rw [← hs2e]; exact hc
    have gp2 := hH2.at_ _ _ ep2
    rw [put_ad, upd_upd] at hH2
    refine hp_eq upd_upd ?_
    rw [put_ad, upd_upd] at gp2
    rw [put_ad, upd_upd] at f12
    generalize hH2e : upd H (S.ad (.proc (Hs07.source s c))) (.ins T.cProcess dp (procF ⟨x.purse - coins, Hs07.mix x.memory c coins hops, x.down⟩ (S.ad (.leav (Hs07.source s c))))) = H2 at *
    obtain ⟨dn2, en2⟩ := hS2.net
    have ex : s2.chans[c]? = some s2.chans[c] := List.getElem?_eq_getElem hc2
    obtain ⟨dc, ec⟩ := hS2.chan c _ ex
    have hon : c < s2.on.length := by rw [hS2.wf.on]; exact hc2
    obtain ⟨as, ew, hw⟩ := hS2.wait c _ (items_get hon)
    rw [← ead]
    refine ⟨_, rfl, _, dn2, _, rfl, hH2.at_ _ _ en2, rfl, _, rfl, S2, s2, c, rfl, hH2, hS2.sk, hc2, ?_⟩
    refine ⟨_, T.cChannel, dc, _, _, rfl, hH2.at_ _ _ ec, T.c_Channel, T.n_Channel_waiting, rfl, .inl ⟨rfl, _, SqL.of (hH2.at_ _ _ ew)⟩, ?_⟩
    refine ⟨_, rfl, _, rfl, _, T.cProcess, dp, _, _, rfl, gp2, T.c_Process, T.n_Process_memory, rfl, _, rfl, ?_⟩
    intro a da na nda nda'
    refine ⟨a, da, _, _, _, rfl, upd_same, rfl, ?_⟩
    rw [upd_upd]
    have hH3 := hH2.made na nda nda' (.ins T.cMessage da (msgF ⟨coins, Hs07.mix x.memory c coins hops, hops⟩))
    have f3 : Fr H2 S2 _ _ := Fr.made na nda nda' (.ins T.cMessage da (msgF ⟨coins, Hs07.mix x.memory c coins hops, hops⟩))
    have hS3 := hS2.imm (.ins T.cMessage da (msgF ⟨coins, Hs07.mix x.memory c coins hops, hops⟩)) (hH2.free na)
    have ad3 : (S2.lay (.imm a) a (.ins T.cMessage da (msgF ⟨coins, Hs07.mix x.memory c coins hops, hops⟩))).ad = S2.ad := lay_imm_ad hH2
    have ia : ItemAt T (S2.lay (.imm a) a (.ins T.cMessage da (msgF ⟨coins, Hs07.mix x.memory c coins hops, hops⟩))) a (.msg ⟨coins, Hs07.mix x.memory c coins hops, hops⟩) := ⟨da, lay_self⟩
    have ew3 : (S2.lay (.imm a) a (.ins T.cMessage da (msgF ⟨coins, Hs07.mix x.memory c coins hops, hops⟩))).ob (.wait c) = some (.lst (as.map V.ref)) := by simpa using ew
    have im3 : Im S2 (S2.lay (.imm a) a (.ins T.cMessage da (msgF ⟨coins, Hs07.mix x.memory c coins hops, hops⟩))) := Im.layI (hH2.free na)
    generalize hS3e : S2.lay (.imm a) a (.ins T.cMessage da (msgF ⟨coins, Hs07.mix x.memory c coins hops, hops⟩)) = S3 at *
    obtain ⟨as3, ew3', hw3⟩ := hS3.wait c _ (items_get hon)
    have eas : as3 = as := by
      rw [ew3] at ew3'
      have q := HO.lst.inj (Option.some.inj ew3')
      exact (List.map_inj_right (fun a b h => V.ref.inj h)).mp q.symm
    subst eas
    have hit : Hs07.items s2 c = Hs07.items s c := by rw [← hs2e]; rfl
    refine ⟨_, _, _, rfl, rfl, (by rw [← ad3]; exact hH3.at_ _ _ ew3), ?_, ?_⟩
    · rw [List.length_map, Paired.length hw3, hit]
      exact hlen
    · have hH4 := hH3.write ew3 (.lst ((as3 ++ [a]).map V.ref))
      have f4 : Fr _ S3 _ _ := Fr.write (H := upd (upd H2 da (.own a)) a (.ins T.cMessage da (msgF ⟨coins, Hs07.mix x.memory c coins hops, hops⟩))) ew3 (.lst ((as3 ++ [a]).map V.ref))
      have hS4 := hS3.onto (items_get hon) hw3 ia
      rw [ad3] at hH4 f4
      rw [List.map_append] at hH4 f4
      refine k _ _ hH4 ((f12.trans f3).trans f4) ?_ (ad3.trans ead) ((im2.trans im3).trans (Im.put (by simp)))
      have e : Hs07.puts s c coins hops = Hs07.onto s2 c (.msg ⟨coins, Hs07.mix x.memory c coins hops, hops⟩) := by
        rw [← hs2e, ← hx]
        rfl
      rw [e]
      rw [List.map_append] at hS4
      exact hS4
end
end Cp

set_option Elab.async false
set_option linter.all false
set_option maxRecDepth 100000
set_option maxHeartbeats 2000000
namespace Cp
open PySem PySem.Spec PyProof.Rows L2
structure Bd (N : Nat) (s : Hs07.St) : Prop where
  on : ∀ l ∈ s.on, l.length ≤ N
  came : ∀ x ∈ s.pics, ∀ l ∈ x.came, l.length ≤ N
theorem Bd.mono {N M : Nat} {s : Hs07.St} (h : Bd N s) (e : N ≤ M) : Bd M s := ⟨fun l hl => Nat.le_trans (h.on l hl) e, fun x hx l hl => Nat.le_trans (h.came x hx l hl) e⟩
theorem Bd.items {N : Nat} {s : Hs07.St} (h : Bd N s) (c : Nat) : (Hs07.items s c).length ≤ N := by
  unfold Hs07.items
  rw [List.getD_eq_getElem?_getD]
  cases q : s.on[c]? with
  | none => simp
  | some l => exact h.on l (List.mem_of_getElem? q)
theorem mem_set {α : Type} {l : List α} {i : Nat} {x y : α} (h : y ∈ l.set i x) : y = x ∨ y ∈ l := by
  obtain ⟨j, hj⟩ := List.mem_iff_getElem?.mp h
  rcases set_get hj with ⟨_, e⟩ | ⟨_, e⟩
  · exact .inl e
  · exact .inr (List.mem_of_getElem? e)
theorem Bd.setOn {N : Nat} {s : Hs07.St} (h : Bd N s) {c : Nat} {l : List Hs07.Item} (hl : l.length ≤ N) : Bd N { s with on := s.on.set c l } :=
  ⟨fun y hy => by
    rcases mem_set hy with e | e
    · rw [e]; exact hl
    · exact h.on y e, h.came⟩
theorem Bd.onto {N : Nat} {s : Hs07.St} (h : Bd N s) (c : Nat) (it : Hs07.Item) : Bd (N + 1) (Hs07.onto s c it) := by
  refine (h.mono (Nat.le_succ N)).setOn ?_
  rw [List.length_append]
  exact Nat.succ_le_succ (h.items c)
theorem Bd.setProc {N : Nat} {s : Hs07.St} (h : Bd N s) (i : Nat) (p : Hs07.Proc) : Bd N (Hs07.setProc s i p) := ⟨h.on, h.came⟩
theorem Bd.puts {N : Nat} {s : Hs07.St} (h : Bd N s) (c coins hops : Nat) : Bd (N + 1) (Hs07.puts s c coins hops) := (h.setProc _ _).onto _ _
theorem outs_congr {s t : Hs07.St} (h : t.chans = s.chans) (p : Nat) : Hs07.outs t p = Hs07.outs s p := by
  unfold Hs07.outs Hs07.source
  rw [h]
theorem outs_mem {s : Hs07.St} {p c : Nat} (h : c ∈ Hs07.outs s p) : c < s.chans.length ∧ Hs07.source s c = p := by
  unfold Hs07.outs at h
  obtain ⟨h1, h2⟩ := List.mem_filter.mp h
  exact ⟨List.mem_range.mp h1, by simpa using h2⟩
theorem outs_len {s : Hs07.St} (p : Nat) : (Hs07.outs s p).length ≤ s.chans.length := by
  unfold Hs07.outs
  exact Nat.le_trans (List.length_filter_le _ _) (by simp)
theorem puts_chans {s : Hs07.St} {c coins hops : Nat} : (Hs07.puts s c coins hops).chans = s.chans := rfl
theorem puts_procs {s : Hs07.St} {c coins hops : Nat} : (Hs07.puts s c coins hops).procs.length = s.procs.length := List.length_set
theorem sendsOn_chans {hops : Nat} : ∀ (l : List Nat) (s : Hs07.St), (Hs07.sendsOn s hops l).chans = s.chans
  | [], s => rfl
  | c :: r, s => sendsOn_chans r _
section
variable {P : Program} {w : World} {K : PySem.W.Frag} {mg : Str → Option Value} {base : Heap} (T : Env K mg)
structure Go (H : Hp) (S : Sto) (H' : Hp) (S' : Sto) (s' : Hs07.St) : Prop where
  hold : Hold H' S'
  fr : Fr H S H' S'
  shape : Shape T S' s'
  ad : S'.ad = S.ad
  im : Im S S'
variable {T}
theorem Go.refl {H : Hp} {S : Sto} {s : Hs07.St} (h : Hold H S) (k : Shape T S s) : Go T H S H S s := ⟨h, Fr.refl, k, rfl, Im.refl⟩
theorem Go.trans {H H1 H2 : Hp} {S S1 S2 : Sto} {s1 s2 : Hs07.St} (a : Go T H S H1 S1 s1) (b : Go T H1 S1 H2 S2 s2) : Go T H S H2 S2 s2 := ⟨b.hold, a.fr.trans b.fr, b.shape, b.ad.trans a.ad, a.im.trans b.im⟩
theorem Go.setProc {H : Hp} {S : Sto} {s : Hs07.St} (h : Hold H S) (k : Shape T S s) {i : Nat} {o : HO} (e : S.ob (.proc i) = some o) (p : Hs07.Proc) (dx : Addr) :
    Go T H S (upd H (S.ad (.proc i)) (.ins T.cProcess dx (procF p (S.ad (.leav i))))) (S.put (.proc i) (.ins T.cProcess dx (procF p (S.ad (.leav i))))) (Hs07.setProc s i p) :=
  ⟨h.write e _, Fr.write e _, k.setProc i p dx, rfl, Im.put (by simp)⟩
variable (T)
def spNet_send_on : Sp := fun vs H Q _ => ∃ (S : Sto) (s : Hs07.St) (p hops N : Nat), vs = [.ref (S.ad .net), .ref (S.ad (.proc p)), .int hops] ∧ Hold H S ∧ Shape T S s ∧ p < s.procs.length ∧ Bd N s ∧ N + 16 < sizeLine ∧
  ∀ H' S', Go T H S H' S' (Hs07.sendsOn s hops (Hs07.outs s p)) → Bd (N + 16) (Hs07.sendsOn s hops (Hs07.outs s p)) → Q .non H'
theorem ok_Net_send_on : FnOk P w K mg base CX0 4 T.f_Net_send_on T.d_Net_send_on ["self", "process", "hops"] (spNet_send_on T) := by
  refine T.F_Net_send_on.ok sc_Net_send_on (fun vs H Q E h => ?_) (fun cdv A outer s H vs Q E hr h => ?_)
  · obtain ⟨S, s, p, hops, N, rfl, _⟩ := h
    rfl
  · obtain ⟨S, s, p, hops, N, rfl, hH, hS, hp, hB, hN, k⟩ := h
    obtain ⟨dp, ep⟩ := hS.proc _ _ (proc_of hp)
    refine ⟨_, (pss_one (ps_for PassesOwn.never rfl (pi_list (pe_fld (pv 1) rfl)) (pg_name (i := 3) sc_Net_send_on.nd rfl (Or.inl rfl)) (pss_one (ps_expr (pe_meth (pv 0) T.c_Net T.m_Net_put_message (ok_Net_put_message T) (hr.mono (by decide)) T.b_Net_put_message .nil pass0 (pa_cons (pv 3) (pa_cons (pe_op op_fdiv (pe_fld (pv 1) rfl) pe_int) (pa_cons (pv 2) pa_nil)))))))), ?_⟩
    have hnc := hS.wf.nc
    have hol : (Hs07.outs s p).length ≤ 16 := Nat.le_trans (outs_len p) hnc
    refine ⟨_, rfl, _, T.cProcess, dp, _, _, rfl, hH.at_ _ _ ep, T.c_Process, T.n_Process_leaving, rfl, _, rfl, ⟨_, SqL.of (hH.at_ _ _ (hS.leav p hp))⟩, for_list (K := K) (a := S.ad (.leav p)) (xs := (Hs07.outs s p).map fun (c : Nat) => V.int ((c : Int) + 1))
      (fun i σ H' => ∃ (v : Option V) (S' : Sto) (t : Hs07.St), σ = [some (.ref (S.ad .net)), some (.ref (S.ad (.proc p))), some (.int hops), v] ∧ Go T H S H' S' t ∧ t.chans = s.chans ∧ t.procs.length = s.procs.length ∧
        Hs07.sendsOn t hops ((Hs07.outs s p).drop i) = Hs07.sendsOn s hops (Hs07.outs s p) ∧ Bd (N + i) t)
      ⟨none, S, s, rfl, Go.refl hH hS, rfl, rfl, rfl, hB⟩ ?_ ?_ ?_⟩
    · rintro i σ H' hi ⟨v, S', t, rfl, g, ec, el, es, hb⟩
      have e := g.hold.at_ _ _ (g.shape.leav p (by omega))
      rw [outs_congr ec, g.ad] at e
      exact SqL.of e
    · rintro i y σ H' hy ⟨v, S', t, rfl, g, ec, el, es, hb⟩
      obtain ⟨c, hc, rfl⟩ : ∃ c, (Hs07.outs s p)[i]? = some c ∧ V.int ((c : Int) + 1) = y := by
        rw [List.getElem?_map] at hy
        cases q : (Hs07.outs s p)[i]? with
        | none => rw [q] at hy; cases hy
        | some c => rw [q] at hy; exact ⟨c, rfl, Option.some.inj hy⟩
      obtain ⟨hc1, hc2⟩ := outs_mem (List.mem_of_getElem? hc)
      have hi : i < (Hs07.outs s p).length := (List.getElem?_eq_some_iff.mp hc).1
      have hct : c < t.chans.length := by rw [ec]; exact hc1
      have hst : Hs07.source t c = p := by unfold Hs07.source; rw [ec]; exact hc2
      obtain ⟨dn, en⟩ := g.shape.net
      obtain ⟨dt, et⟩ := g.shape.proc _ _ (proc_of (s := t) (p := p) (by omega))
      have hed : ((Hs07.proc t p).purse : Int) / 2 = (((Hs07.proc t p).purse / 2 : Nat) : Int) := by omega
      rw [← g.ad]
      refine ⟨_, rfl, _, dn, _, rfl, g.hold.at_ _ _ en, rfl, _, rfl, _, rfl, _, T.cProcess, dt, _, _, rfl, g.hold.at_ _ _ et, T.c_Process, T.n_Process_purse, rfl, _, _, rfl, rfl, ⟨by decide, by decide⟩, _, rfl, ?_⟩
      refine ⟨S', t, c, (Hs07.proc t p).purse / 2, hops, ?_, g.hold, g.shape, hct, ?_, ?_, fun H2 S2 h1 h2 h3 h4 h5 => ?_⟩
      · show [V.ref (S'.ad .net), V.int ((c : Int) + 1), V.int (((Hs07.proc t p).purse : Int) / 2), V.int hops] = _
        rw [hed]
      · rw [hst]; exact Nat.div_le_self _ _
      · exact Nat.lt_of_le_of_lt (hb.items c) (by omega)
      · refine ⟨_, S2, _, rfl, (g.trans ⟨h1, h2, h3, h4, h5⟩), ec, ?_, ?_, ?_⟩
        · rw [puts_procs]; exact el
        · rw [← es]
          have ed : (Hs07.outs s p).drop i = c :: (Hs07.outs s p).drop (i + 1) := by
            rw [List.drop_eq_getElem_cons hi]
            rw [List.getElem?_eq_getElem hi] at hc
            rw [Option.some.inj hc]
          rw [ed]
          show _ = Hs07.sendsOn (Hs07.puts t c ((Hs07.proc t (Hs07.source t c)).purse / 2) hops) hops _
          rw [hst]
        · exact hb.puts _ _ _
    · rintro σ H' ⟨v, S', t, rfl, g, ec, el, es, hb⟩
      rw [List.length_map] at es hb
      rw [List.drop_length] at es
      have es' : t = Hs07.sendsOn s hops (Hs07.outs s p) := es
      rw [es'] at g hb
      exact k H' S' g (hb.mono (by omega))
def spNet_get_message : Sp := fun vs H Q _ => ∃ (S : Sto) (s : Hs07.St) (c : Nat) (a : Addr) (m : Hs07.Msg) (N : Nat), vs = [.ref (S.ad .net), .int ((c : Int) + 1), .ref a] ∧ Hold H S ∧ Shape T S s ∧ c < s.chans.length ∧ MsgAt T S a m ∧ Bd N s ∧ N + 16 < sizeLine ∧
  ∀ H' S', Go T H S H' S' (Hs07.gets s c m) → Bd (N + 16) (Hs07.gets s c m) → Q .non H'
theorem ok_Net_get_message : FnOk P w K mg base CX0 5 T.f_Net_get_message T.d_Net_get_message ["self", "c", "message"] (spNet_get_message T) := by
  refine T.F_Net_get_message.ok sc_Net_get_message (fun vs H Q E h => ?_) (fun cdv A outer s H vs Q E hr h => ?_)
  · obtain ⟨S, s, c, a, m, N, rfl, _⟩ := h
    rfl
  · obtain ⟨S, s, c, a, m, N, rfl, hH, hS, hc, ⟨da, ea⟩, hB, hN, k⟩ := h
    obtain ⟨dn, en⟩ := hS.net
    have hq := tgt_lt hS.wf hc
    obtain ⟨dp, ep⟩ := hS.proc _ _ (proc_of hq)
    have ga := hH.at_ _ _ ea
    rw [hH.imm] at ga
    refine ⟨_, (pss_cons (ps_set (i := 3) sc_Net_get_message.nd rfl (Or.inl rfl) (pe_meth (pv 0) T.c_Net T.m_Net_getter (ok_Net_getter T) (hr.mono (by decide)) T.b_Net_getter .nil pass0 (pa_cons (pv 1) pa_nil)))
      (pss_cons (ps_fldaug (pv 3) (pe_fld (pv 2) rfl) in_add)
      (pss_cons (ps_set (i := 4) sc_Net_get_message.nd rfl (Or.inl rfl) (pe_op op_add (pe_fld (pv 3) rfl) (pe_fld (pv 2) rfl)))
      (pss_cons (ps_fld (pv 3) (pe_op op_mod (pe_op op_add (pe_op op_add (pe_op op_add (pe_op op_mul pe_int (pv 4)) (pe_op op_mul pe_int (pv 1))) (pe_op op_mul pe_int (pe_fld (pv 2) rfl))) (pe_fld (pv 2) rfl)) (pe_gint rfl T.g_MODULUS)) rfl)
      (pss_one (ps_if (pt_cmpR op_ge (pe_fld (pv 2) rfl) pe_int (nomark _)) (pss_one (ps_expr (pe_meth (pv 0) T.c_Net T.m_Net_send_on (ok_Net_send_on T) (hr.mono (by decide)) T.b_Net_send_on .nil pass0 (pa_cons (pv 3) (pa_cons (pe_op op_sub (pe_fld (pv 2) rfl) pe_int) pa_nil))))) pss_nil)))))), ?_⟩
    refine ⟨_, rfl, _, dn, _, rfl, hH.at_ _ _ en, rfl, _, rfl, S, s, c, rfl, hH, hS.sk, hc, ?_⟩
    generalize hx : Hs07.proc s (Hs07.target s c) = x at *
    refine ⟨_, rfl, _, T.cProcess, dp, _, _, rfl, hH.at_ _ _ ep, T.c_Process, T.n_Process_purse, rfl, _, rfl, _, T.cMessage, da, _, _, rfl, ga, T.c_Message, T.n_Message_coins, rfl, _, _, rfl, rfl, dp, _, hH.at_ _ _ ep, lt1000 rfl, ?_⟩
    refine hp_eq (congrArg (fun z => upd _ _ (HO.ins T.cProcess dp z)) (procF_purse (m := x.purse + m.coins) (by omega))) ?_
    have g1 := Go.setProc hH hS ep ⟨x.purse + m.coins, x.memory, x.down⟩ dp
    have ga1 := g1.hold.at_ (.imm a) _ (by simpa using ea)
    rw [g1.hold.imm] at ga1
    refine ⟨_, rfl, _, T.cProcess, dp, _, _, rfl, upd_same, T.c_Process, T.n_Process_memory, rfl, _, rfl, _, T.cMessage, da, _, _, rfl, ga1, T.c_Message, T.n_Message_memory, rfl, _, _, rfl, rfl, ?_⟩
    have em : (31 * ((x.memory : Int) + (m.memory : Int)) + 101 * ((c : Int) + 1) + 7 * (m.hops : Int) + (m.coins : Int)) % 65521 = ((Hs07.mix (x.memory + m.memory) c m.coins m.hops : Nat) : Int) := by
      unfold Hs07.mix
      omega
    refine ⟨_, rfl, _, _, rfl, rfl, .inl ⟨by decide, by decide⟩, _, rfl, _, _, rfl, rfl, .inl ⟨by decide, by decide⟩, _, _, rfl, rfl, _, rfl, _, T.cMessage, da, _, _, rfl, ga1, T.c_Message, T.n_Message_hops, rfl, _, _, rfl, rfl, .inl ⟨by decide, by decide⟩,
      _, _, rfl, rfl, _, rfl, _, T.cMessage, da, _, _, rfl, ga1, T.c_Message, T.n_Message_coins, rfl, _, _, rfl, rfl, _, _, rfl, rfl, (by show (0 : Int) < 65521; decide), _, rfl, _, T.cProcess, dp, _, rfl, upd_same, T.c_Process, T.n_Process_memory, lt1000 rfl, ?_⟩
    refine hp_eq (congrArg (fun z => upd _ _ (HO.ins T.cProcess dp z)) (procF_memory em)) ?_
    refine hp_eq upd_upd ?_
    have g2 := Go.setProc hH hS ep ⟨x.purse + m.coins, Hs07.mix (x.memory + m.memory) c m.coins m.hops, x.down⟩ dp
    have ga2 := g2.hold.at_ (.imm a) _ (by simpa using ea)
    rw [g2.hold.imm] at ga2
    have eg : Hs07.gets s c m = if m.hops = 0 then Hs07.setProc s (Hs07.target s c) ⟨x.purse + m.coins, Hs07.mix (x.memory + m.memory) c m.coins m.hops, x.down⟩ else Hs07.sendsOn (Hs07.setProc s (Hs07.target s c) ⟨x.purse + m.coins, Hs07.mix (x.memory + m.memory) c m.coins m.hops, x.down⟩) (m.hops - 1) (Hs07.outs s (Hs07.target s c)) := by
      rw [← hx]
      rfl
    have hB2 := hB.setProc (Hs07.target s c) ⟨x.purse + m.coins, Hs07.mix (x.memory + m.memory) c m.coins m.hops, x.down⟩
    have hq2 : Hs07.target s c < (Hs07.setProc s (Hs07.target s c) ⟨x.purse + m.coins, Hs07.mix (x.memory + m.memory) c m.coins m.hops, x.down⟩).procs.length := by
      show _ < (s.procs.set _ _).length
      rw [List.length_set]
      exact hq
    have eo : Hs07.outs (Hs07.setProc s (Hs07.target s c) ⟨x.purse + m.coins, Hs07.mix (x.memory + m.memory) c m.coins m.hops, x.down⟩) (Hs07.target s c) = Hs07.outs s (Hs07.target s c) := outs_congr rfl _
    generalize Hs07.setProc s (Hs07.target s c) ⟨x.purse + m.coins, Hs07.mix (x.memory + m.memory) c m.coins m.hops, x.down⟩ = s2 at *
    refine ⟨_, rfl, _, T.cMessage, da, _, _, rfl, ga2, T.c_Message, T.n_Message_hops, rfl, _, _, rfl, rfl, _, rfl, ite2 (fun h1 => ?_) (fun h1 => ?_)⟩
    · have h1' : (1 : Int) ≤ m.hops := of_decide_eq_true h1
      obtain ⟨dn2, en2⟩ := g2.shape.net
      rw [if_neg (by omega), ← eo] at eg
      rw [eg] at k
      refine ⟨_, rfl, _, dn2, _, rfl, g2.hold.at_ _ _ en2, rfl, _, rfl, _, rfl, _, T.cMessage, da, _, _, rfl, ga2, T.c_Message, T.n_Message_hops, rfl, _, _, rfl, rfl, ?_⟩
      refine ⟨_, s2, Hs07.target s c, m.hops - 1, N, ?_, g2.hold, g2.shape, hq2, hB2, hN, fun H' S' g b => k H' S' (g2.trans g) b⟩
      show [V.ref (S.ad .net), V.ref (S.ad (.proc (Hs07.target s c))), V.int ((m.hops : Int) - 1)] = [V.ref (S.ad .net), V.ref (S.ad (.proc (Hs07.target s c))), V.int ((m.hops - 1 : Nat) : Int)]
      rw [Int.ofNat_sub (by omega)]
      rfl
    · have h1' : ¬ (1 : Int) ≤ m.hops := fun z => h1 (decide_eq_true z)
      rw [if_pos (by omega)] at eg
      rw [eg] at k
      exact k _ _ g2 (hB2.mono (by omega))
end
end Cp

set_option Elab.async false
set_option linter.all false
set_option maxRecDepth 100000
set_option maxHeartbeats 2000000
namespace Cp
open PySem PySem.Spec PyProof.Rows L2
theorem dget_of {H : Hp} {a : Addr} {kvs : List (Key × V)} {k : Key} {v : V} (e : H a = some (.dK kvs)) (hv : valV kvs k = some v) : DGet H a (kV k) (some v) := .inl ⟨kvs, k, .inl e, rfl, hv.symm⟩
theorem Bd.setPics {N : Nat} {s : Hs07.St} (h : Bd N s) {j : Nat} {y : Hs07.Pic} (hy : ∀ l ∈ y.came, l.length ≤ N) : Bd N { s with pics := s.pics.set j y } :=
  ⟨h.on, fun x hx => by
    rcases mem_set hx with e | e
    · rw [e]; exact hy
    · exact h.came x e⟩
def marks (k : Nat) (s : Hs07.St) (l : List Nat) : Hs07.St := l.foldl (fun t c => Hs07.onto t c (.mark k)) s
theorem marks_chans {k : Nat} : ∀ (l : List Nat) (s : Hs07.St), (marks k s l).chans = s.chans
  | [], s => rfl
  | c :: r, s => marks_chans r (Hs07.onto s c (.mark k))
theorem marks_procs {k : Nat} : ∀ (l : List Nat) (s : Hs07.St), (marks k s l).procs = s.procs
  | [], s => rfl
  | c :: r, s => marks_procs r (Hs07.onto s c (.mark k))
theorem marks_pics {k : Nat} : ∀ (l : List Nat) (s : Hs07.St), (marks k s l).pics = s.pics
  | [], s => rfl
  | c :: r, s => marks_pics r (Hs07.onto s c (.mark k))
section
variable {P : Program} {w : World} {K : PySem.W.Frag} {mg : Str → Option Value} {base : Heap} (T : Env K mg)
variable {T} in
theorem Shape.dget {H : Hp} {S : Sto} {s : Hs07.St} (h : Hold H S) (k : Shape T S s) {j : Nat} {x : Hs07.Pic} (hx : s.pics[j]? = some x) : DGet H (S.ad .pdict) (.int (x.number : Int)) (some (.ref (S.ad (.pic x.number)))) := by
  refine dget_of (k := Sum.inl (x.number : Int)) (h.at_ _ _ k.pdict) ?_
  rw [valV_pics S.ad x.number s.pics, find_of k.wf.nd hx]
  rfl
def spNet_record : Sp := fun vs H Q _ => ∃ (S : Sto) (s : Hs07.St) (j p N : Nat) (x : Hs07.Pic), vs = [.ref (S.ad .net), .int x.number, .int ((p : Int) + 1)] ∧ Hold H S ∧ Shape T S s ∧ s.pics[j]? = some x ∧ p < s.procs.length ∧ x.has[p]? = some none ∧ Bd N s ∧ N + 16 < sizeLine ∧
  ∀ H' S', Go T H S H' S' (Hs07.records s x p) → Bd (N + 16) (Hs07.records s x p) → Q .non H'
theorem ok_Net_record : FnOk P w K mg base CX0 3 T.f_Net_record T.d_Net_record ["self", "k", "p"] (spNet_record T) := by
  refine T.F_Net_record.ok sc_Net_record (fun vs H Q E h => ?_) (fun cdv A outer s H vs Q E hr h => ?_)
  · obtain ⟨S, s, j, p, N, x, rfl, _⟩ := h
    rfl
  · obtain ⟨S, s, j, p, N, x, rfl, hH, hS, hx, hp, hh, hB, hN, k⟩ := h
    obtain ⟨dn, en⟩ := hS.net
    have hu := hu_of hr
    obtain ⟨dp, ep⟩ := hS.proc _ _ (proc_of hp)
    have gp := hH.at_ _ _ ep
    refine ⟨_, (pss_cons (ps_set (i := 3) sc_Net_record.nd rfl (Or.inl rfl) (pe_meth (pv 0) T.c_Net T.m_Net_process (ok_Net_process T) (hr.mono (by decide)) T.b_Net_process .nil pass0 (pa_cons (pv 2) pa_nil)))
      (pss_cons (ps_dput hu (pe_fld (pe_dget hu (pe_fld (pv 0) rfl) (pv 1) (fun _ _ => rfl)) rfl) (pv 2) (pe_tup (pa_cons (pe_fld (pv 3) rfl) (pa_cons (pe_fld (pv 3) rfl) pa_nil))) rfl)
      (pss_one (ps_for PassesOwn.never rfl (pi_list (pe_fld (pv 3) rfl)) (pg_name (i := 4) sc_Net_record.nd rfl (Or.inl rfl)) (pss_one (ps_expr (pe_bm PySem.F.plainAttrs_list PySem.F.slot_list_append PySem.F.type_list_append mt_append (pe_fld (pe_meth (pv 0) T.c_Net T.m_Net_channel (ok_Net_channel T) (hr.mono (by decide)) T.b_Net_channel .nil pass0 (pa_cons (pv 4) pa_nil)) rfl) (pa_cons (pe_make T.mk_Mark (ok_Mark_init T) (hr.mono (by decide)) rfl T.g_Mark T.b_Mark_init .nil pass0 (pa_cons (pv 1) pa_nil)) pa_nil)))))))), ?_⟩
    refine ⟨_, rfl, _, dn, _, rfl, hH.at_ _ _ en, rfl, _, rfl, S, s, p, rfl, hH, hS.sk, hp, ?_⟩
    refine ⟨_, rfl, _, T.cProcess, dp, _, _, rfl, gp, T.c_Process, T.n_Process_purse, rfl, _, rfl, _, T.cProcess, dp, _, _, rfl, gp, T.c_Process, T.n_Process_memory, rfl, (by show 2 ≤ sizeLine; decide), fun t ht => ?_⟩
    have nt := hH.free ht
    have hH1 := hH.lay ht (.tup [.int ((Hs07.proc s p).purse : Nat), .int ((Hs07.proc s p).memory : Nat)]) (r := .imm t) (fun b e => by cases e; rfl)
    have f1 : Fr H S _ _ := Fr.lay (r := .imm t) ht (.tup [.int ((Hs07.proc s p).purse : Nat), .int ((Hs07.proc s p).memory : Nat)])
    have hS1 := hS.imm (.tup [.int ((Hs07.proc s p).purse : Nat), .int ((Hs07.proc s p).memory : Nat)]) nt
    have ad1 : (S.lay (.imm t) t (.tup [.int ((Hs07.proc s p).purse : Nat), .int ((Hs07.proc s p).memory : Nat)])).ad = S.ad := lay_imm_ad hH
    have et1 : (S.lay (.imm t) t (.tup [.int ((Hs07.proc s p).purse : Nat), .int ((Hs07.proc s p).memory : Nat)])).ob (.imm t) = some _ := lay_self
    have im1 : Im S (S.lay (.imm t) t (.tup [.int ((Hs07.proc s p).purse : Nat), .int ((Hs07.proc s p).memory : Nat)])) := Im.layI nt
    generalize S.lay (.imm t) t (.tup [.int ((Hs07.proc s p).purse : Nat), .int ((Hs07.proc s p).memory : Nat)]) = S1 at *
    have g1 : Go T H S _ S1 s := ⟨hH1, f1, hS1, ad1, im1⟩
    obtain ⟨dn1, en1⟩ := hS1.net
    have P1 := hS1.pic x (List.mem_of_getElem? hx)
    obtain ⟨dq, eq⟩ := P1.pic
    obtain ⟨kvs, er, hR⟩ := P1.recs
    have hlen : kvs.length < sizeLine := by
      have q := hR.len
      have q2 := List.countP_le_length (p := Option.isSome) (l := x.has)
      have q3 := (hS.wf.pics x (List.mem_of_getElem? hx)).1
      have q4 := hS.wf.np
      have q5 : 8 < sizeLine := by decide
      omega
    rw [← ad1]
    refine ⟨_, rfl, _, T.cNet, dn1, _, _, rfl, hH1.at_ _ _ en1, T.c_Net, T.n_Net_pictures, rfl, _, rfl, _, _, rfl, hS1.dget hH1 hx, _, T.cPicture, dq, _, _, rfl, hH1.at_ _ _ eq, T.c_Picture, T.n_Picture_records, rfl, _, rfl, _, _, rfl, DPut.k (k := Sum.inl ((p : Int) + 1)) (hH1.at_ _ _ er) hlen, ?_⟩
    have g2 : Go T _ S1 _ _ _ := ⟨hH1.write er _, Fr.write er _, hS1.recorded hx er hR hh et1, rfl, Im.put (by simp)⟩
    have g12 := g1.trans g2
    have e2 : ({ s with pics := s.pics.set j { x with has := x.has.set p (some ((Hs07.proc s p).purse, (Hs07.proc s p).memory)) } } : Hs07.St) = Hs07.setPic s { x with has := x.has.set p (some ((Hs07.proc s p).purse, (Hs07.proc s p).memory)) } := (setPic_eq (y := { x with has := x.has.set p (some ((Hs07.proc s p).purse, (Hs07.proc s p).memory)) }) hS.wf.nd hx rfl).symm
    have hB2 : Bd N ({ s with pics := s.pics.set j { x with has := x.has.set p (some ((Hs07.proc s p).purse, (Hs07.proc s p).memory)) } } : Hs07.St) := hB.setPics (hB.came x (List.mem_of_getElem? hx))
    have ek : Hs07.records s x p = marks x.number (Hs07.setPic s { x with has := x.has.set p (some ((Hs07.proc s p).purse, (Hs07.proc s p).memory)) }) (Hs07.outs s p) := rfl
    rw [← e2] at ek
    have ec2 : ({ s with pics := s.pics.set j { x with has := x.has.set p (some ((Hs07.proc s p).purse, (Hs07.proc s p).memory)) } } : Hs07.St).chans = s.chans := rfl
    have el2 : ({ s with pics := s.pics.set j { x with has := x.has.set p (some ((Hs07.proc s p).purse, (Hs07.proc s p).memory)) } } : Hs07.St).procs = s.procs := rfl
    clear hH1 f1 hS1 en1 P1 e2 g1
    generalize ({ s with pics := s.pics.set j { x with has := x.has.set p (some ((Hs07.proc s p).purse, (Hs07.proc s p).memory)) } } : Hs07.St) = s2 at *
    generalize S1.put (.recs x.number) (.dK (putK kvs (.inl ((p : Int) + 1)) (.ref t))) = S2 at *
    generalize upd (upd H t (.tup [.int ((Hs07.proc s p).purse : Nat), .int ((Hs07.proc s p).memory : Nat)])) (S1.ad (.recs x.number)) (.dK (putK kvs (.inl ((p : Int) + 1)) (.ref t))) = H2 at *
    have hp2 : p < s2.procs.length := by rw [el2]; exact hp
    obtain ⟨dp2, ep2⟩ := g12.shape.proc _ _ (proc_of hp2)
    have eo : Hs07.outs s2 p = Hs07.outs s p := outs_congr ec2 p
    have hol : (Hs07.outs s p).length ≤ 16 := Nat.le_trans (outs_len p) hS.wf.nc
    rw [← g2.ad]
    refine ⟨_, rfl, _, T.cProcess, dp2, _, _, rfl, g12.hold.at_ _ _ ep2, T.c_Process, T.n_Process_leaving, rfl, _, rfl, ⟨_, SqL.of (g12.hold.at_ _ _ (g12.shape.leav p hp2))⟩, for_list (K := K) (a := S2.ad (.leav p)) (xs := (Hs07.outs s2 p).map fun (c : Nat) => V.int ((c : Int) + 1))
      (fun i σ H' => ∃ (v : Option V) (S' : Sto) (u : Hs07.St), σ = [some (.ref (S2.ad .net)), some (.int x.number), some (.int ((p : Int) + 1)), some (.ref (S2.ad (.proc p))), v] ∧ Go T H S H' S' u ∧ u.chans = s.chans ∧ u.procs = s.procs ∧
        marks x.number u ((Hs07.outs s p).drop i) = marks x.number s2 (Hs07.outs s p) ∧ Bd (N + i) u)
      ⟨none, S2, s2, rfl, g12, ec2, el2, rfl, hB2⟩ ?_ ?_ ?_⟩
    · rintro i σ H' hi ⟨v, S', u, rfl, g, ec, el, es, hb⟩
      have e := g.hold.at_ _ _ (g.shape.leav p (by rw [el]; exact hp))
      rw [outs_congr ec, g.ad, ← eo, ← g12.ad] at e
      exact SqL.of e
    · rintro i y σ H' hy ⟨v, S', u, rfl, g, ec, el, es, hb⟩
      rw [eo] at hy
      obtain ⟨c, hc, rfl⟩ : ∃ c, (Hs07.outs s p)[i]? = some c ∧ V.int ((c : Int) + 1) = y := by
        rw [List.getElem?_map] at hy
        cases q : (Hs07.outs s p)[i]? with
        | none => rw [q] at hy; cases hy
        | some c => rw [q] at hy; exact ⟨c, rfl, Option.some.inj hy⟩
      obtain ⟨hc1, hc2⟩ := outs_mem (List.mem_of_getElem? hc)
      have hi : i < (Hs07.outs s p).length := (List.getElem?_eq_some_iff.mp hc).1
      have hcu : c < u.chans.length := by rw [ec]; exact hc1
      obtain ⟨dnu, enu⟩ := g.shape.net
      have ex : u.chans[c]? = some u.chans[c] := List.getElem?_eq_getElem hcu
      obtain ⟨dc, ecc⟩ := g.shape.chan c _ ex
      have hon : c < u.on.length := by rw [g.shape.wf.on]; exact hcu
      obtain ⟨as, ew, hw⟩ := g.shape.wait c _ (items_get hon)
      rw [g12.ad, ← g.ad]
      refine ⟨_, rfl, _, dnu, _, rfl, g.hold.at_ _ _ enu, rfl, _, rfl, S', u, c, rfl, g.hold, g.shape.sk, hcu, ?_⟩
      refine ⟨_, T.cChannel, dc, _, _, rfl, g.hold.at_ _ _ ecc, T.c_Channel, T.n_Channel_waiting, rfl, .inl ⟨rfl, _, SqL.of (g.hold.at_ _ _ ew)⟩, ?_⟩
      refine ⟨_, rfl, ?_⟩
      intro a da na nda nda'
      refine ⟨a, da, _, rfl, upd_same, rfl, ?_⟩
      refine hp_eq upd_upd ?_
      have g3 : Go T H' S' _ _ u := ⟨g.hold.made na nda nda' (.ins T.cMark da (markF x.number)), Fr.made na nda nda' _, g.shape.imm _ (g.hold.free na), lay_imm_ad g.hold, Im.layI (g.hold.free na)⟩
      have ia : ItemAt T (S'.lay (.imm a) a (.ins T.cMark da (markF x.number))) a (.mark x.number) := ⟨da, lay_self⟩
      have ew3 : (S'.lay (.imm a) a (.ins T.cMark da (markF x.number))).ob (.wait c) = some (.lst (as.map V.ref)) := by simpa using ew
      have im : ∀ b o, S'.ob (.imm b) = some o → (S'.lay (.imm a) a (.ins T.cMark da (markF x.number))).ob (.imm b) = some o := fun b o q => by
        rw [lay_ne (fun z => ?_)]
        · exact q
        · rw [z, g.hold.free na] at q
          cases q
      have hw3 := Paired.mapP hw fun b it z => ItemAt.of im z
      generalize S'.lay (.imm a) a (.ins T.cMark da (markF x.number)) = S3 at *
      refine ⟨_, _, _, rfl, rfl, (by rw [← g3.ad]; exact g3.hold.at_ _ _ ew3), ?_, ?_⟩
      · rw [List.length_map, Paired.length hw]
        exact Nat.lt_of_le_of_lt (hb.items c) (by omega)
      · have g4 : Go T _ S3 _ _ _ := ⟨g3.hold.write ew3 (.lst ((as ++ [a]).map V.ref)), Fr.write ew3 _, g3.shape.onto (items_get hon) hw3 ia, rfl, Im.put (by simp)⟩
        rw [List.map_append, g3.ad] at g4
        refine ⟨_, _, _, rfl, g.trans (g3.trans g4), ec, el, ?_, hb.onto _ _⟩
        · rw [← es]
          have ed : (Hs07.outs s p).drop i = c :: (Hs07.outs s p).drop (i + 1) := by
            rw [List.drop_eq_getElem_cons hi]
            rw [List.getElem?_eq_getElem hi] at hc
            rw [Option.some.inj hc]
          rw [ed]
          rfl
    · rintro σ H' ⟨v, S', u, rfl, g, ec, el, es, hb⟩
      rw [List.length_map, eo] at es hb
      rw [List.drop_length] at es
      have es' : u = marks x.number s2 (Hs07.outs s p) := es
      rw [es', ← ek] at g hb
      exact k H' S' g (hb.mono (by omega))
end
end Cp

set_option Elab.async false
set_option linter.all false
set_option maxRecDepth 100000
set_option maxHeartbeats 2000000
namespace Cp
open PySem PySem.Spec PyProof.Rows L2
theorem picOf_of {s : Hs07.St} (nd : (s.pics.map (·.number)).Nodup) {j : Nat} {x : Hs07.Pic} (hx : s.pics[j]? = some x) : Hs07.picOf s x.number = some x := find_of nd hx
theorem picOf_ix {s : Hs07.St} {k : Nat} {x : Hs07.Pic} (h : Hs07.picOf s k = some x) : x.number = k ∧ ∃ j : Nat, s.pics[j]? = some x := by
  unfold Hs07.picOf at h
  exact ⟨by simpa using List.find?_some h, List.mem_iff_getElem?.mp (List.mem_of_find?_eq_some h)⟩
theorem has_get {x : Hs07.Pic} {p : Nat} (hp : p < x.has.length) (h : Hs07.hasDone x p = false) : x.has[p]? = some none := by
  have e : x.has[p]? = some x.has[p] := List.getElem?_eq_getElem hp
  unfold Hs07.hasDone at h
  rw [getD_of e] at h
  rw [e]
  cases q : x.has[p] with
  | none => rfl
  | some v => rw [q] at h; cases h
theorem records_pic {s : Hs07.St} (nd : (s.pics.map (·.number)).Nodup) {j p : Nat} {x : Hs07.Pic} (hx : s.pics[j]? = some x) :
    (Hs07.records s x p).pics = s.pics.set j { x with has := x.has.set p (some ((Hs07.proc s p).purse, (Hs07.proc s p).memory)) } ∧ (Hs07.records s x p).chans = s.chans ∧ (Hs07.records s x p).procs = s.procs := by
  have e : Hs07.records s x p = marks x.number (Hs07.setPic s { x with has := x.has.set p (some ((Hs07.proc s p).purse, (Hs07.proc s p).memory)) }) (Hs07.outs s p) := rfl
  rw [e, marks_pics, marks_chans, marks_procs, setPic_eq (y := { x with has := x.has.set p (some ((Hs07.proc s p).purse, (Hs07.proc s p).memory)) }) nd hx rfl]
  exact ⟨rfl, rfl, rfl⟩
section
variable {P : Program} {w : World} {K : PySem.W.Frag} {mg : Str → Option Value} {base : Heap} (T : Env K mg)
def spNet_record_once : Sp := fun vs H Q _ => ∃ (S : Sto) (s : Hs07.St) (j p N : Nat) (x : Hs07.Pic), vs = [.ref (S.ad .net), .int x.number, .int ((p : Int) + 1)] ∧ Hold H S ∧ Shape T S s ∧ s.pics[j]? = some x ∧ p < s.procs.length ∧ Bd N s ∧ N + 16 < sizeLine ∧
  ∀ H' S', Go T H S H' S' (Hs07.recordsFor s x.number p) → Bd (N + 16) (Hs07.recordsFor s x.number p) → Q (.bl (!Hs07.hasDone x p)) H'
theorem ok_Net_record_once : FnOk P w K mg base CX0 4 T.f_Net_record_once T.d_Net_record_once ["self", "k", "p"] (spNet_record_once T) := by
  refine T.F_Net_record_once.ok sc_Net_record_once (fun vs H Q E h => ?_) (fun cdv A outer s H vs Q E hr h => ?_)
  · obtain ⟨S, s, j, p, N, x, rfl, _⟩ := h
    rfl
  · obtain ⟨S, s, j, p, N, x, rfl, hH, hS, hx, hp, hB, hN, k⟩ := h
    obtain ⟨dn, en⟩ := hS.net
    have hu := hu_of hr
    have hP := hS.pic x (List.mem_of_getElem? hx)
    obtain ⟨dq, eq⟩ := hP.pic
    have hpl : p < x.has.length := by rw [(hS.wf.pics x (List.mem_of_getElem? hx)).1]; exact hp
    refine ⟨_, (pss_cons (ps_if (pt_val (pe_meth (pe_dget hu (pe_fld (pv 0) rfl) (pv 1) (fun _ _ => rfl)) T.c_Picture T.m_Picture_has_record (ok_Picture_has_record T) (hr.mono (by decide)) T.b_Picture_has_record .nil pass0 (pa_cons (pv 2) pa_nil))) (pss_one (ps_ret pe_bl)) pss_nil)
      (pss_cons (ps_expr (pe_meth (pv 0) T.c_Net T.m_Net_record (ok_Net_record T) (hr.mono (by decide)) T.b_Net_record .nil pass0 (pa_cons (pv 1) (pa_cons (pv 2) pa_nil))))
      (pss_one (ps_ret pe_bl)))), ?_⟩
    refine ⟨_, rfl, _, T.cNet, dn, _, _, rfl, hH.at_ _ _ en, T.c_Net, T.n_Net_pictures, rfl, _, rfl, _, _, rfl, hS.dget hH hx, _, dq, _, rfl, hH.at_ _ _ eq, rfl, _, rfl, ?_⟩
    refine ⟨S, x, p, rfl, hH, hP, hpl, _, rfl, ite2 (fun h => ?_) (fun h => ?_)⟩
    · have e : Hs07.recordsFor s x.number p = s := by unfold Hs07.recordsFor; rw [picOf_of hS.wf.nd hx]; exact if_pos h
      rw [e, h] at k
      exact k H S (Go.refl hH hS) (hB.mono (by omega))
    · have e : Hs07.recordsFor s x.number p = Hs07.records s x p := by unfold Hs07.recordsFor; rw [picOf_of hS.wf.nd hx]; exact if_neg h
      have h' : Hs07.hasDone x p = false := by simpa using h
      rw [e, h'] at k
      refine ⟨_, rfl, _, dn, _, rfl, hH.at_ _ _ en, rfl, _, rfl, _, rfl, ?_⟩
      exact ⟨S, s, j, p, N, x, rfl, hH, hS, hx, hp, has_get hpl h', hB, hN, fun H' S' g b => k H' S' g b⟩
def spNet_take_mark : Sp := fun vs H Q _ => ∃ (S : Sto) (s : Hs07.St) (c i N : Nat), vs = [.ref (S.ad .net), .int ((c : Int) + 1), .int i] ∧ Hold H S ∧ Shape T S s ∧ c < s.chans.length ∧ Bd N s ∧ N + 16 < sizeLine ∧
  ∀ H' S' l, Go T H S H' S' (Hs07.marked s c i) → Bd (N + 16) (Hs07.marked s c i) → H' l = none → Q (.ref l) (upd H' l (.lst [.int 2, .int i, .int (match Hs07.picOf s i with | some x => if Hs07.hasDone x (Hs07.target s c) = true then 0 else 1 | none => 0)]))
theorem ok_Net_take_mark : FnOk P w K mg base CX0 5 T.f_Net_take_mark T.d_Net_take_mark ["self", "c", "k"] (spNet_take_mark T) := by
  refine T.F_Net_take_mark.ok sc_Net_take_mark (fun vs H Q E h => ?_) (fun cdv A outer s H vs Q E hr h => ?_)
  · obtain ⟨S, s, c, i, N, rfl, _⟩ := h
    rfl
  · obtain ⟨S, s, c, i, N, rfl, hH, hS, hc, hB, hN, k⟩ := h
    obtain ⟨dn, en⟩ := hS.net
    have hu := hu_of hr
    refine ⟨_, (pss_cons (ps_if (pt_not (pt_val (pe_meth (pv 0) T.c_Net T.m_Net_has_picture (ok_Net_has_picture T) (hr.mono (by decide)) T.b_Net_has_picture .nil pass0 (pa_cons (pv 2) pa_nil)))) (pss_one (ps_ret (pe_lst (pa_cons (pe_gint rfl T.g_MARK) (pa_cons (pv 2) (pa_cons pe_int pa_nil)))))) pss_nil)
      (pss_cons (ps_set (i := 3) sc_Net_take_mark.nd rfl (Or.inl rfl) (pe_meth (pv 0) T.c_Net T.m_Net_record_once (ok_Net_record_once T) (hr.mono (by decide)) T.b_Net_record_once .nil pass0 (pa_cons (pv 2) (pa_cons (pe_fld (pe_meth (pv 0) T.c_Net T.m_Net_channel (ok_Net_channel T) (hr.mono (by decide)) T.b_Net_channel .nil pass0 (pa_cons (pv 1) pa_nil)) rfl) pa_nil))))
      (pss_cons (ps_dput hu (pe_fld (pe_dget hu (pe_fld (pv 0) rfl) (pv 2) (fun _ _ => rfl)) rfl) (pv 1) pe_bl rfl)
      (pss_one (ps_ret (pe_lst (pa_cons (pe_gint rfl T.g_MARK) (pa_cons (pv 2) (pa_cons (pe_ifExp (pt_truth (pv 3) (by intro _; rfl)) pe_int pe_int) pa_nil))))))))), ?_⟩
    refine ⟨_, rfl, _, dn, _, rfl, hH.at_ _ _ en, rfl, _, rfl, S, s, i, rfl, hH, hS, _, rfl, ite2 (fun h => ?_) (fun h => ?_)⟩
    · have h' : Hs07.picOf s i = none := by simpa using h
      rw [h'] at k
      refine ⟨_, rfl, (by show 3 ≤ sizeLine; decide), fun l hl => ?_⟩
      have e : Hs07.marked s c i = s := by
        unfold Hs07.marked Hs07.recordsFor
        simp only [h']
      rw [e] at k
      exact k H S l (Go.refl hH hS) (hB.mono (by omega)) hl
    · obtain ⟨x, hx⟩ : ∃ x, Hs07.picOf s i = some x := by
        cases q : Hs07.picOf s i with
        | none => rw [q] at h; exact absurd rfl h
        | some x => exact ⟨x, rfl⟩
      obtain ⟨rfl, j, hj⟩ := picOf_ix hx
      have ex : s.chans[c]? = some s.chans[c] := List.getElem?_eq_getElem hc
      obtain ⟨dc, ec⟩ := hS.chan c _ ex
      have es : Hs07.target s c = s.chans[c].2 := by unfold Hs07.target; rw [getD_of ex]
      have hq := tgt_lt hS.wf hc
      refine ⟨_, rfl, _, dn, _, rfl, hH.at_ _ _ en, rfl, _, rfl, _, rfl, _, dn, _, rfl, hH.at_ _ _ en, rfl, _, rfl, S, s, c, rfl, hH, hS.sk, hc, _, T.cChannel, dc, _, _, rfl, hH.at_ _ _ ec, T.c_Channel, T.n_Channel_target, rfl, ?_⟩
      refine ⟨S, s, j, Hs07.target s c, N, x, by rw [es]; rfl, hH, hS, hj, hq, hB, hN, fun H1 S1 g1 hB1 => ?_⟩
      have hw := hS.wf.pics x (List.mem_of_getElem? hj)
      obtain ⟨y, hy, hyn, hys, ech⟩ : ∃ y, (Hs07.recordsFor s x.number (Hs07.target s c)).pics[j]? = some y ∧ y.number = x.number ∧ y.shut = x.shut ∧ (Hs07.recordsFor s x.number (Hs07.target s c)).chans = s.chans := by
        unfold Hs07.recordsFor
        rw [hx]
        by_cases hd : Hs07.hasDone x (Hs07.target s c) = true
        · simp only [hd, if_true]
          exact ⟨x, hj, rfl, rfl, trivial⟩
        · simp only [hd]
          obtain ⟨r1, r2, r3⟩ := records_pic (p := Hs07.target s c) hS.wf.nd hj
          rw [if_neg Bool.false_ne_true, r1, r2]
          exact ⟨_, List.getElem?_set_self (List.getElem?_eq_some_iff.mp hj).1, rfl, rfl, rfl⟩
      have em : Hs07.marked s c x.number = { Hs07.recordsFor s x.number (Hs07.target s c) with pics := (Hs07.recordsFor s x.number (Hs07.target s c)).pics.set j { y with shut := y.shut.set c true } } := by
        unfold Hs07.marked
        have e := picOf_of g1.shape.wf.nd hy
        rw [hyn] at e
        simp only [e]
        exact setPic_eq (y := { y with shut := y.shut.set c true }) g1.shape.wf.nd hy rfl
      rw [em] at k
      have hB2 := hB1.setPics (j := j) (y := { y with shut := y.shut.set c true }) (hB1.came y (List.mem_of_getElem? hy))
      generalize Hs07.recordsFor s x.number (Hs07.target s c) = s1 at *
      obtain ⟨dn1, en1⟩ := g1.shape.net
      have P1 := g1.shape.pic y (List.mem_of_getElem? hy)
      obtain ⟨dq, eq⟩ := P1.pic
      obtain ⟨kvs, er, hT⟩ := P1.shut
      have hcs : c < y.shut.length := by rw [hys, hw.2.2.1]; exact hc
      have hlen : kvs.length < sizeLine := by
        have q := hT.len
        have q2 := List.countP_le_length (p := id) (l := y.shut)
        have q3 := hw.2.2.1
        have q4 := hS.wf.nc
        have q5 : 16 < sizeLine := by decide
        rw [hys] at q q2
        omega
      have dg := g1.shape.dget g1.hold hy
      have g2 : Go T _ S1 _ _ _ := ⟨g1.hold.write er _, Fr.write er _, g1.shape.shutAt hy er hT hcs, rfl, Im.put (by simp)⟩
      rw [hx, ← hyn] at k
      rw [← g1.ad, ← hyn]
      refine ⟨_, rfl, _, T.cNet, dn1, _, _, rfl, g1.hold.at_ _ _ en1, T.c_Net, T.n_Net_pictures, rfl, _, rfl, _, _, rfl, dg, _, T.cPicture, dq, _, _, rfl, g1.hold.at_ _ _ eq, T.c_Picture, T.n_Picture_shut, rfl, _, rfl, _, _, rfl, DPut.k (k := Sum.inl ((c : Int) + 1)) (g1.hold.at_ _ _ er) hlen, ?_⟩
      have e0 : (match (some x : Option Hs07.Pic) with | some x => if Hs07.hasDone x (Hs07.target s c) = true then (0 : Int) else 1 | none => 0) = if Hs07.hasDone x (Hs07.target s c) = true then (0 : Int) else 1 := rfl
      refine ⟨_, rfl, _, rfl, _, rfl, ite2 (fun h1 => ?_) (fun h1 => ?_)⟩
      · have h1' : Hs07.hasDone x (Hs07.target s c) = false := by simpa using h1
        refine ⟨(by show 3 ≤ sizeLine; decide), fun l hl => ?_⟩
        have k' := k _ _ l (g1.trans g2) hB2 hl
        simp only [h1', if_neg Bool.false_ne_true] at k'
        exact k'
      · have h1' : Hs07.hasDone x (Hs07.target s c) = true := by simpa using h1
        refine ⟨(by show 3 ≤ sizeLine; decide), fun l hl => ?_⟩
        have k' := k _ _ l (g1.trans g2) hB2 hl
        simp only [h1', if_true] at k'
        exact k'
def spPicture_see_message : Sp := fun vs H Q _ => ∃ (S : Sto) (x : Hs07.Pic) (c p : Nat) (a : Addr) (as : List Addr), vs = [.ref (S.ad (.pic x.number)), .int ((c : Int) + 1), .int ((p : Int) + 1), .ref a] ∧ Hold H S ∧ PicAt T S x ∧ p < x.has.length ∧ c < x.shut.length ∧ c < x.came.length ∧
  S.ob (.cl x.number c) = some (.lst (as.map V.ref)) ∧ as.length < sizeLine ∧
  (Hs07.hasDone x p = true ∧ x.shut.getD c false = false → Q .non (upd H (S.ad (.cl x.number c)) (.lst ((as ++ [a]).map V.ref)))) ∧ (¬ (Hs07.hasDone x p = true ∧ x.shut.getD c false = false) → Q .non H)
theorem ok_Picture_see_message : FnOk P w K mg base CX0 2 T.f_Picture_see_message T.d_Picture_see_message ["self", "c", "p", "message"] (spPicture_see_message T) := by
  refine T.F_Picture_see_message.ok sc_Picture_see_message (fun vs H Q E h => ?_) (fun cdv A outer s H vs Q E hr h => ?_)
  · obtain ⟨S, x, c, p, a, as, rfl, _⟩ := h
    rfl
  · obtain ⟨S, x, c, p, a, as, rfl, hH, hP, hp, hc, hcc, ecl, hlen, k1, k2⟩ := h
    obtain ⟨dq, eq⟩ := hP.pic
    have gq := hH.at_ _ _ eq
    refine ⟨_, (pss_one (ps_if ((pw_and (pt_val (pe_meth (pv 0) T.c_Picture T.m_Picture_has_record (ok_Picture_has_record T) (hr.mono (by decide)) T.b_Picture_has_record .nil pass0 (pa_cons (pv 2) pa_nil))) (pw_and1 (pt_not (pt_val (pe_meth (pv 0) T.c_Picture T.m_Picture_is_shut (ok_Picture_is_shut T) (hr.mono (by decide)) T.b_Picture_is_shut .nil pass0 (pa_cons (pv 1) pa_nil))))))).pt (pss_one (ps_expr (pe_bm PySem.F.plainAttrs_list PySem.F.slot_list_append PySem.F.type_list_append mt_append (pe_ix ix_list (pe_fld (pv 0) rfl) (pe_op op_sub (pv 1) pe_int) (fun _ _ => rfl)) (pa_cons (pv 3) pa_nil)))) pss_nil)), ?_⟩
    refine ⟨_, rfl, _, dq, _, rfl, gq, rfl, _, rfl, S, x, p, rfl, hH, hP, hp, _, rfl, ite2 (fun h1 => ?_) (fun h1 => ?_)⟩
    · refine ⟨_, rfl, _, dq, _, rfl, gq, rfl, _, rfl, S, x, c, rfl, hH, hP, hc, _, rfl, ite2 (fun h2 => ?_) (fun h2 => ?_)⟩
      · have h2' : x.shut.getD c false = false := by simpa using h2
        refine ⟨_, rfl, _, T.cPicture, dq, _, _, rfl, gq, T.c_Picture, T.n_Picture_caught, rfl, _, rfl, _, _, rfl, rfl, _, _, _, _, rfl, rfl, SqL.of (hH.at_ _ _ hP.caught), at_of (j := c) (by omega) (get_range _ hcc), .inl ⟨rfl, _, SqL.of (hH.at_ _ _ ecl)⟩, _, rfl, _, _, _, rfl, rfl, hH.at_ _ _ ecl, ?_, ?_⟩
        · rw [List.length_map]; exact hlen
        · have z := k1 ⟨h1, h2'⟩
          rw [List.map_append] at z
          exact z
      · exact k2 fun z => h2 (by rw [z.2]; rfl)
    · exact iteF (k2 fun z => h1 z.1)
end
end Cp

set_option Elab.async false
set_option linter.all false
set_option maxRecDepth 100000
set_option maxHeartbeats 2000000
namespace Cp
open PySem PySem.Spec PyProof.Rows L2
theorem drop_get {α : Type} {l : List α} {i : Nat} {x : α} {r : List α} (h : l.drop i = x :: r) : l[i]? = some x ∧ l.drop (i + 1) = r ∧ i < l.length := by
  have hi : i < l.length := by
    have := congrArg List.length h
    simp at this
    omega
  rw [List.drop_eq_getElem_cons hi] at h
  injection h with h1 h2
  exact ⟨by rw [List.getElem?_eq_getElem hi, h1], h2, hi⟩
theorem sIx_nat {n d i : Nat} (h : i ≤ n) : HT.sIx n d (some (i : Int)) = i := by
  unfold HT.sIx
  simp only
  split <;> omega
theorem cut_row {ns a r : List Int} {i : Nat} (h : ns.drop i = a ++ r) : cutV (ns.map V.int) (some (i : Int)) (some ((i + a.length : Nat) : Int)) = a.map V.int := by
  have hl : i + a.length ≤ ns.length ∨ (i > ns.length ∧ a = []) := by
    have := congrArg List.length h
    simp at this
    by_cases hi : i ≤ ns.length
    · exact .inl (by omega)
    · exact .inr ⟨by omega, by cases a with | nil => rfl | cons _ _ => simp at this; omega⟩
  rcases hl with hl | ⟨hl, rfl⟩
  · unfold cutV
    rw [List.length_map, sIx_nat (by omega), sIx_nat (by omega), ← List.map_drop, h, Nat.add_sub_cancel_left, ← List.map_take, List.take_left']
    rfl
  · unfold cutV
    rw [← List.map_drop]
    have e : HT.sIx (ns.map V.int).length (ns.map V.int).length (some ((i + ([] : List Int).length : Nat) : Int)) - HT.sIx (ns.map V.int).length 0 (some (i : Int)) = 0 := by
      unfold HT.sIx
      simp
    rw [e]
    rfl
theorem sq_frame {K : PySem.W.Frag} {H H' : Hp} {a : Addr} {xs : List V} (h : SqL K H a xs) (k : ∀ o, H a = some o → H' a = some o) : SqL K H' a xs := by
  rcases h with (h | ⟨o, h⟩) | h
  · exact .inl (.inl (k _ h))
  · exact .inl (.inr ⟨o, k _ h⟩)
  · exact .inr h
theorem sq_ins {K : PySem.W.Frag} {H H' : Hp} {a p C dx : Addr} {xs : List V} {fs : List (Str × V)} (h : SqL K H a xs) (hp : H p = some (.ins C dx fs)) (k : ∀ c o, H c = some o → c ≠ p → H' c = some o) : SqL K H' a xs := by
  rcases h with (h | ⟨o, h⟩) | h
  · exact .inl (.inl (k _ _ h (ne_of h hp (by intro z; cases z))))
  · exact .inl (.inr ⟨o, k _ _ h (ne_of h hp (by intro z; cases z))⟩)
  · exact .inr h
def LstAt (K : PySem.W.Frag) (H : Hp) (S : Sto) (a : Addr) (xs : List V) : Prop := (Rd H a (.lst xs) ∧ ¬ Own S a) ∨ ∀ H' : Hp, SqL K H' a xs
theorem LstAt.seq {K : PySem.W.Frag} {H : Hp} {S : Sto} {a : Addr} {xs : List V} (h : LstAt K H S a xs) : SqL K H a xs := h.elim (fun z => .inl z.1) fun z => z H
theorem LstAt.of {K : PySem.W.Frag} {H : Hp} {S : Sto} {a : Addr} {xs : List V} (h : SqL K H a xs) (n : ∀ o, H a = some o → ¬ Own S a) : LstAt K H S a xs := by
  rcases h with (h | ⟨o, h⟩) | h
  · exact .inl ⟨.inl h, n _ h⟩
  · exact .inl ⟨.inr ⟨o, h⟩, n _ h⟩
  · exact .inr fun _ => .inr h
theorem LstAt.go {K : PySem.W.Frag} {H H' : Hp} {S S' : Sto} {a r C dx : Addr} {xs : List V} {fs : List (Str × V)} (h : LstAt K H S a xs) (hr : H r = some (.ins C dx fs)) (k : ∀ c o, H c = some o → c ≠ r → ¬ Own S c → H' c = some o ∧ ¬ Own S' c) : LstAt K H' S' a xs := by
  rcases h with ⟨h | ⟨o, h⟩, n⟩ | h
  · obtain ⟨e1, e2⟩ := k _ _ h (ne_of h hr (by intro z; cases z)) n
    exact .inl ⟨.inl e1, e2⟩
  · obtain ⟨e1, e2⟩ := k _ _ h (ne_of h hr (by intro z; cases z)) n
    exact .inl ⟨.inr ⟨o, e1⟩, e2⟩
  · exact .inr h
section
variable {P : Program} {w : World} {K : PySem.W.Frag} {mg : Str → Option Value} {base : Heap} (T : Env K mg)
def spReader_init : Sp := fun vs H Q _ => ∃ (p dx a : Addr), vs = [.ref p, .ref a] ∧ H p = some (.ins T.cReader dx []) ∧ Q .non (upd H p (.ins T.cReader dx (rdF a 0)))
theorem ok_Reader_init : FnOk P w K mg base CX0 1 T.f_Reader_init T.d_Reader_init ["self", "numbers"] (spReader_init T) := by
  refine T.F_Reader_init.ok sc_Reader_init (fun vs H Q E h => ?_) (fun cdv A outer s H vs Q E hr h => ?_)
  · obtain ⟨p, dx, a, rfl, _⟩ := h
    rfl
  · obtain ⟨p, dx, a, rfl, hp, k⟩ := h
    refine ⟨_, (pss_cons (ps_fld (pv 0) (pv 1) rfl) (pss_one (ps_fld (pv 0) pe_int rfl))), ?_⟩
    refine ⟨_, rfl, _, rfl, p, T.cReader, dx, _, rfl, hp, T.c_Reader, T.n_Reader_numbers, lt1000 rfl, ?_⟩
    refine ⟨_, rfl, p, T.cReader, dx, _, rfl, upd_same, T.c_Reader, T.n_Reader_place, lt1000 rfl, ?_⟩
    rw [upd_upd]
    exact k
def spReader_has_more : Sp := fun vs H Q _ => ∃ (r dr ca : Addr) (i : Nat) (ns : List Int), vs = [.ref r] ∧ H r = some (.ins T.cReader dr (rdF ca i)) ∧ SqL K H ca (ns.map V.int) ∧ Q (.bl (decide (i < ns.length))) H
theorem ok_Reader_has_more : FnOk P w K mg base CX0 1 T.f_Reader_has_more T.d_Reader_has_more ["self"] (spReader_has_more T) := by
  refine T.F_Reader_has_more.ok sc_Reader_has_more (fun vs H Q E h => ?_) (fun cdv A outer s H vs Q E hr h => ?_)
  · obtain ⟨r, dr, ca, i, ns, rfl, _⟩ := h
    rfl
  · obtain ⟨r, dr, ca, i, ns, rfl, hr0, hs, k⟩ := h
    refine ⟨_, (pss_one (ps_ret (pe_cmpR op_lt (pe_fld (pv 0) rfl) (pe_callB call_len_seq rfl T.n_len PySem.boot_len (pa_cons (pe_fld (pv 0) rfl) pa_nil)) (nomark _)))), ?_⟩
    refine ⟨_, rfl, _, T.cReader, dr, _, _, rfl, hr0, T.c_Reader, T.n_Reader_place, rfl, _, rfl, _, T.cReader, dr, _, _, rfl, hr0, T.c_Reader, T.n_Reader_numbers, rfl, _, _, rfl, .inl hs, _, _, rfl, rfl, ?_⟩
    have e : decide (i < ns.length) = decide ((i : Int) < ((ns.map V.int).length : Int)) := by simp
    rw [e] at k
    exact k
def spReader_read_number : Sp := fun vs H Q _ => ∃ (r dr ca : Addr) (i : Nat) (ns : List Int) (z : Int), vs = [.ref r] ∧ H r = some (.ins T.cReader dr (rdF ca i)) ∧ SqL K H ca (ns.map V.int) ∧ ns[i]? = some z ∧ Q (.int z) (upd H r (.ins T.cReader dr (rdF ca (i + 1))))
theorem ok_Reader_read_number : FnOk P w K mg base CX0 1 T.f_Reader_read_number T.d_Reader_read_number ["self"] (spReader_read_number T) := by
  refine T.F_Reader_read_number.ok sc_Reader_read_number (fun vs H Q E h => ?_) (fun cdv A outer s H vs Q E hr h => ?_)
  · obtain ⟨r, dr, ca, i, ns, z, rfl, _⟩ := h
    rfl
  · obtain ⟨r, dr, ca, i, ns, z, rfl, hr0, hs, hz, k⟩ := h
    refine ⟨_, (pss_cons (ps_set (i := 1) sc_Reader_read_number.nd rfl (Or.inl rfl) (pe_ix ix_list (pe_fld (pv 0) rfl) (pe_fld (pv 0) rfl) (fun _ _ => rfl)))
      (pss_cons (ps_fldaug (pv 0) pe_int in_add)
      (pss_one (ps_ret (pv 1))))), ?_⟩
    refine ⟨_, rfl, _, T.cReader, dr, _, _, rfl, hr0, T.c_Reader, T.n_Reader_numbers, rfl, _, rfl, _, T.cReader, dr, _, _, rfl, hr0, T.c_Reader, T.n_Reader_place, rfl, _, _, _, _, rfl, rfl, hs, at_of (j := i) rfl (by rw [List.getElem?_map, hz]; rfl), ?_⟩
    refine ⟨_, rfl, _, T.cReader, dr, _, _, rfl, hr0, T.c_Reader, T.n_Reader_place, rfl, _, _, rfl, rfl, dr, _, hr0, lt1000 rfl, ?_⟩
    exact ⟨_, rfl, k⟩
def spReader_read_row : Sp := fun vs H Q _ => ∃ (r dr ca : Addr) (i : Nat) (ns a rest : List Int), vs = [.ref r] ∧ H r = some (.ins T.cReader dr (rdF ca i)) ∧ SqL K H ca (ns.map V.int) ∧ ns.drop i = (a.length : Int) :: (a ++ rest) ∧
  ∀ l, H l = none → Q (.ref l) (upd (upd H l (.lst (a.map V.int))) r (.ins T.cReader dr (rdF ca (i + 1 + a.length))))
theorem ok_Reader_read_row : FnOk P w K mg base CX0 2 T.f_Reader_read_row T.d_Reader_read_row ["self"] (spReader_read_row T) := by
  refine T.F_Reader_read_row.ok sc_Reader_read_row (fun vs H Q E h => ?_) (fun cdv A outer s H vs Q E hr h => ?_)
  · obtain ⟨r, dr, ca, i, ns, a, rest, rfl, _⟩ := h
    rfl
  · obtain ⟨r, dr, ca, i, ns, a, rest, rfl, hr0, hs, hd, k⟩ := h
    obtain ⟨h1, h2, h3⟩ := drop_get hd
    refine ⟨_, (pss_cons (ps_set (i := 1) sc_Reader_read_row.nd rfl (Or.inl rfl) (pe_meth0 (pv 0) T.c_Reader T.m_Reader_read_number (ok_Reader_read_number T) (hr.mono (by decide)) T.b_Reader_read_number .nil pass0))
      (pss_cons (ps_set (i := 2) sc_Reader_read_row.nd rfl (Or.inl rfl) (pe_slice sl_list (pe_fld (pv 0) rfl) (po_some (pe_fld (pv 0) rfl)) (po_some (pe_op op_add (pe_fld (pv 0) rfl) (pv 1)))))
      (pss_cons (ps_fldaug (pv 0) (pv 1) in_add)
      (pss_one (ps_ret (pv 2)))))), ?_⟩
    refine ⟨_, rfl, _, dr, _, rfl, hr0, rfl, r, dr, ca, i, ns, _, rfl, hr0, hs, h1, ?_⟩
    have hs1 : SqL K (upd H r (.ins T.cReader dr (rdF ca (i + 1)))) ca (ns.map V.int) := sq_ins hs hr0 fun c o e n => by rw [upd_ne n]; exact e
    refine ⟨_, rfl, _, T.cReader, dr, _, _, rfl, upd_same, T.c_Reader, T.n_Reader_numbers, rfl, _, rfl, _, T.cReader, dr, _, _, rfl, upd_same, T.c_Reader, T.n_Reader_place, rfl, _, rfl, _, rfl, _, T.cReader, dr, _, _, rfl, upd_same, T.c_Reader, T.n_Reader_place, rfl, _, rfl, _, _, rfl, rfl, _, rfl, ?_⟩
    refine ⟨_, _, rfl, hs1, fun l hl => ?_⟩
    have nl : r ≠ l := ne_of_none upd_same hl
    rw [upd_ne nl.symm] at hl
    have ec : cutV (ns.map V.int) (some (((i + 1 : Nat)) : Int)) (some ((i + 1 + a.length : Nat) : Int)) = a.map V.int := cut_row h2
    have ei : (((i + 1 : Nat) : Int) + (a.length : Int)) = ((i + 1 + a.length : Nat) : Int) := by omega
    refine ⟨_, rfl, _, T.cReader, dr, _, _, rfl, by rw [upd_ne nl]; exact upd_same, T.c_Reader, T.n_Reader_place, rfl, _, rfl, _, _, rfl, rfl, dr, _, by rw [upd_ne nl]; exact upd_same, lt1000 rfl, ?_⟩
    refine ⟨_, rfl, ?_⟩
    have k' := k l hl
    rw [← ec, ← ei] at k'
    refine hp_eq ?_ k'
    rw [upd_swap nl, upd_upd]
    rw [ei]
    rfl
end
end Cp

set_option Elab.async false
set_option linter.all false
set_option maxRecDepth 100000
set_option maxHeartbeats 2000000
namespace Cp
open Hs07Neutral (callOf callIn nat)
def numOf : Hs07.Call → Nat
  | .net _ _ => 0 | .put _ _ _ => 1 | .take _ => 2 | .turns _ => 3 | .cut _ => 4 | .join _ _ => 5 | .picture _ => 6 | .lacks _ => 7
  | .count _ => 8 | .fall _ => 9 | .back _ => 10 | .drop _ => 11 | .shows => 12 | .channel _ => 13 | .total => 14 | .newest => 15
def zs (l : List Nat) : List Int := l.map fun (n : Nat) => (n : Int)
def rowOf (l : List Nat) : List Int := (l.length : Int) :: zs l
def argsOf : Hs07.Call → List Int
  | .net a b => rowOf a ++ rowOf b
  | .put c a b => [(c : Int), (a : Int), (b : Int)]
  | .take c => [(c : Int)] | .turns c => [(c : Int)] | .cut a => rowOf a
  | .join k p => [(k : Int), (p : Int)]
  | .picture c => [(c : Int)] | .lacks c => [(c : Int)] | .count c => [(c : Int)] | .fall c => [(c : Int)] | .back c => [(c : Int)] | .drop c => [(c : Int)] | .shows => [] | .channel c => [(c : Int)] | .total => [] | .newest => []
theorem nat_iff {z : Int} (h : nat z = true) : 0 ≤ z ∧ z < 4294967296 := by
  unfold nat at h
  rw [Bool.and_eq_true, decide_eq_true_eq, decide_eq_true_eq] at h
  exact ⟨h.1, by have := h.2; simpa using this⟩
theorem toNat_of {z : Int} (h : nat z = true) : ((z.toNat : Nat) : Int) = z := Int.toNat_of_nonneg (nat_iff h).1
theorem zs_toNat : ∀ {l : List Int}, l.all nat = true → zs (l.map Int.toNat) = l
  | [], _ => rfl
  | a :: r, h => by
    rw [List.all_cons, Bool.and_eq_true] at h
    show ((a.toNat : Nat) : Int) :: zs (r.map Int.toNat) = _
    rw [toNat_of h.1, zs_toNat h.2]
theorem row_of {l a t : List Int} (h : PyFlat.row l = some (a, t)) : l = (a.length : Int) :: (a ++ t) := by
  cases l with
  | nil => cases h
  | cons n r =>
    simp only [PyFlat.row] at h
    split at h
    · rename_i hn
      injection h with h
      injection h with h1 h2
      have hl : a.length = n.toNat := by rw [← h1, List.length_take]; omega
      rw [hl, Int.toNat_of_nonneg hn.1, ← h1, ← h2, List.take_append_drop]
    · cases h
theorem row_args {a : List Int} (h : a.all nat = true) : rowOf (a.map Int.toNat) = (a.length : Int) :: a := by
  unfold rowOf
  rw [zs_toNat h, List.length_map]
theorem calls_cons {f : Nat} {p : Int} {r : List Int} {raw : List (List (List Int))} (h : PyFlat.calls PyHs07.shape f (p :: r) = some raw) :
    ∃ c t cs f', raw = c :: cs ∧ PyFlat.call PyHs07.shape (p :: r) = some (c, t) ∧ PyFlat.calls PyHs07.shape f' t = some cs := by
  cases f with
  | zero => cases h
  | succ f =>
    unfold PyFlat.calls at h
    cases q : PyFlat.call PyHs07.shape (p :: r) with
    | none => rw [q] at h; cases h
    | some ct =>
      obtain ⟨c, t⟩ := ct
      rw [q] at h
      simp only at h
      cases q2 : PyFlat.calls PyHs07.shape f t with
      | none => rw [q2] at h; cases h
      | some cs =>
        rw [q2] at h
        simp only at h
        cases h
        exact ⟨c, t, cs, f, rfl, rfl, q2⟩
theorem call_split {p : Int} {r t : List Int} {c : List (List Int)} (h : PyFlat.call PyHs07.shape (p :: r) = some (c, t)) :
    ∃ n k xs, PyHs07.shape p = some (n, k) ∧ n ≤ r.length ∧ PyFlat.rows k (r.drop n) = some (xs, t) ∧ c = (p :: r.take n) :: xs := by
  simp only [PyFlat.call] at h
  cases q : PyHs07.shape p with
  | none => rw [q] at h; cases h
  | some nk =>
    obtain ⟨n, k⟩ := nk
    rw [q] at h
    simp only at h
    split at h
    · cases h
    · rename_i hn
      cases q2 : PyFlat.rows k (r.drop n) with
      | none => rw [q2] at h; cases h
      | some y =>
        obtain ⟨xs, t'⟩ := y
        rw [q2] at h
        simp only at h
        cases h
        exact ⟨n, k, xs, rfl, by omega, q2, rfl⟩
theorem rows0 {l t : List Int} {xs : List (List Int)} (h : PyFlat.rows 0 l = some (xs, t)) : xs = [] ∧ t = l := by
  cases h
  exact ⟨rfl, rfl⟩
theorem rowsS {k : Nat} {l t : List Int} {xs : List (List Int)} (h : PyFlat.rows (k + 1) l = some (xs, t)) : ∃ a u ys, PyFlat.row l = some (a, u) ∧ PyFlat.rows k u = some (ys, t) ∧ xs = a :: ys := by
  unfold PyFlat.rows at h
  cases q : PyFlat.row l with
  | none => rw [q] at h; cases h
  | some au =>
    obtain ⟨a, u⟩ := au
    rw [q] at h
    simp only at h
    cases q2 : PyFlat.rows k u with
    | none => rw [q2] at h; cases h
    | some y =>
      obtain ⟨ys, t'⟩ := y
      rw [q2] at h
      simp only at h
      cases h
      exact ⟨a, u, ys, rfl, q2, rfl⟩
theorem cut0 {r : List Int} (h : 0 ≤ r.length) : r.take 0 = [] ∧ r.drop 0 = r := ⟨rfl, rfl⟩
theorem cut1 {r : List Int} (h : 1 ≤ r.length) : ∃ a u, r = a :: u := by
  cases r with
  | nil => simp at h
  | cons a u => exact ⟨a, u, rfl⟩
theorem cut2 {r : List Int} (h : 2 ≤ r.length) : ∃ a b u, r = a :: b :: u := by
  match r, h with
  | [], h => simp at h
  | [a], h => simp at h
  | a :: b :: u, _ => exact ⟨a, b, u, rfl⟩
theorem cut3 {r : List Int} (h : 3 ≤ r.length) : ∃ a b c u, r = a :: b :: c :: u := by
  match r, h with
  | [], h => simp at h
  | [a], h => simp at h
  | [a, b], h => simp at h
  | a :: b :: c :: u, _ => exact ⟨a, b, c, u, rfl⟩
theorem callOf_nat {l : List (List Int)} {x : Hs07.Call} (h : callOf l = some x) : (∀ r ∈ l, r.all nat = true) ∧ callIn (l.map fun r => r.map Int.toNat) = some x := by
  unfold callOf at h
  split at h
  · cases h
  · rename_i hn
    have hn' : l.all (fun r => r.all nat) = true := by simpa using hn
    exact ⟨List.all_eq_true.mp hn', h⟩
theorem one_num {p : Int} {x : Hs07.Call} {a : Int} (h : callOf [[p, a]] = some x) (hp : nat a = true → callIn [[p.toNat, a.toNat]] = some x → argsOf x = [a] ∧ (numOf x : Int) = p) : argsOf x = [a] ∧ (numOf x : Int) = p := by
  obtain ⟨h1, h2⟩ := callOf_nat h
  have h3 := h1 _ (List.mem_cons_self ..)
  rw [List.all_cons, List.all_cons, Bool.and_eq_true, Bool.and_eq_true] at h3
  exact hp h3.2.1 h2
theorem parse {p : Int} {r t : List Int} {c : List (List Int)} {x : Hs07.Call} (h : PyFlat.call PyHs07.shape (p :: r) = some (c, t)) (hx : callOf (PyHs07.whole c) = some x) : p = (numOf x : Int) ∧ r = argsOf x ++ t := by
  obtain ⟨n, k, xs, hs, hn, hr, rfl⟩ := call_split h
  have one : ∀ q : Int, p = q → n = 1 → k = 0 → (∀ a, PyHs07.whole [[q, a]] = [[q, a]]) → (∀ a, nat a = true → callIn [[q.toNat, a.toNat]] = some x → argsOf x = [a] ∧ (numOf x : Int) = q) → p = (numOf x : Int) ∧ r = argsOf x ++ t := by
    intro q e1 e2 e3 hw hc
    subst e1 e2 e3
    obtain ⟨a, u, rfl⟩ := cut1 hn
    obtain ⟨rfl, rfl⟩ := rows0 hr
    have hx' : callOf [[p, a]] = some x := by rw [← hw a]; exact hx
    obtain ⟨e1, e2⟩ := one_num hx' (hc a)
    rw [e1, e2]
    exact ⟨rfl, rfl⟩
  have none_ : ∀ q : Int, p = q → n = 0 → k = 0 → PyHs07.whole [[q]] = [[q]] → (callIn [[q.toNat]] = some x → argsOf x = [] ∧ (numOf x : Int) = q) → p = (numOf x : Int) ∧ r = argsOf x ++ t := by
    intro q e1 e2 e3 hw hc
    subst e1 e2 e3
    obtain ⟨rfl, rfl⟩ := rows0 hr
    have hx' : callOf [[p]] = some x := by rw [← hw]; exact hx
    obtain ⟨e1, e2⟩ := hc (callOf_nat hx').2
    rw [e1, e2]
    exact ⟨rfl, rfl⟩
  unfold PyHs07.shape at hs
  by_cases e : p = 0
  · rw [if_pos e] at hs; cases hs
    subst e
    obtain ⟨a, u, ys, q1, q2, rfl⟩ := rowsS hr
    obtain ⟨b, v, ws, q3, q4, rfl⟩ := rowsS q2
    obtain ⟨rfl, rfl⟩ := rows0 q4
    have hx' : callOf [[0], a, b] = some x := hx
    obtain ⟨h1, h2⟩ := callOf_nat hx'
    cases (show some (Hs07.Call.net (a.map Int.toNat) (b.map Int.toNat)) = some x from h2)
    refine ⟨rfl, ?_⟩
    show r = (rowOf (a.map Int.toNat) ++ rowOf (b.map Int.toNat)) ++ t
    rw [row_args (h1 a (by simp)), row_args (h1 b (by simp))]
    have e1 := row_of q1
    have e2 := row_of q3
    rw [show r = r.drop 0 from rfl, e1, e2]
    simp
  rw [if_neg e] at hs
  clear e
  by_cases e : p = 1
  · rw [if_pos e] at hs; cases hs
    subst e
    obtain ⟨a, b, d, u, rfl⟩ := cut3 hn
    obtain ⟨rfl, rfl⟩ := rows0 hr
    have hx' : callOf [[1, a, b, d]] = some x := hx
    obtain ⟨h1, h2⟩ := callOf_nat hx'
    have h3 := h1 _ (List.mem_cons_self ..)
    simp only [List.all_cons, Bool.and_eq_true] at h3
    cases (show some (Hs07.Call.put a.toNat b.toNat d.toNat) = some x from h2)
    refine ⟨rfl, ?_⟩
    show _ = [((a.toNat : Nat) : Int), ((b.toNat : Nat) : Int), ((d.toNat : Nat) : Int)] ++ _
    rw [toNat_of h3.2.1, toNat_of h3.2.2.1, toNat_of h3.2.2.2.1]
    rfl
  rw [if_neg e] at hs
  clear e
  by_cases e : p = 2
  · rw [if_pos e] at hs; cases hs
    exact one 2 e rfl rfl (fun _ => rfl) fun a ha h2 => by cases (show some (Hs07.Call.take a.toNat) = some x from h2); exact ⟨congrArg (fun z => [z]) (toNat_of ha), rfl⟩
  rw [if_neg e] at hs
  clear e
  by_cases e : p = 3
  · rw [if_pos e] at hs; cases hs
    exact one 3 e rfl rfl (fun _ => rfl) fun a ha h2 => by cases (show some (Hs07.Call.turns a.toNat) = some x from h2); exact ⟨congrArg (fun z => [z]) (toNat_of ha), rfl⟩
  rw [if_neg e] at hs
  clear e
  by_cases e : p = 4
  · rw [if_pos e] at hs; cases hs
    subst e
    obtain ⟨a, u, ys, q1, q2, rfl⟩ := rowsS hr
    obtain ⟨rfl, rfl⟩ := rows0 q2
    have hx' : callOf [[4], a] = some x := hx
    obtain ⟨h1, h2⟩ := callOf_nat hx'
    cases (show some (Hs07.Call.cut (a.map Int.toNat)) = some x from h2)
    refine ⟨rfl, ?_⟩
    show r = rowOf (a.map Int.toNat) ++ t
    rw [row_args (h1 a (by simp))]
    have e1 := row_of q1
    rw [show r = r.drop 0 from rfl, e1]
    simp
  rw [if_neg e] at hs
  clear e
  by_cases e : p = 5
  · rw [if_pos e] at hs; cases hs
    subst e
    obtain ⟨a, b, u, rfl⟩ := cut2 hn
    obtain ⟨rfl, rfl⟩ := rows0 hr
    have hx' : callOf [[5, a, b]] = some x := hx
    obtain ⟨h1, h2⟩ := callOf_nat hx'
    have h3 := h1 _ (List.mem_cons_self ..)
    simp only [List.all_cons, Bool.and_eq_true] at h3
    cases (show some (Hs07.Call.join a.toNat b.toNat) = some x from h2)
    refine ⟨rfl, ?_⟩
    show _ = [((a.toNat : Nat) : Int), ((b.toNat : Nat) : Int)] ++ _
    rw [toNat_of h3.2.1, toNat_of h3.2.2.1]
    rfl
  rw [if_neg e] at hs
  clear e
  by_cases e : p = 6
  · rw [if_pos e] at hs; cases hs
    exact one 6 e rfl rfl (fun _ => rfl) fun a ha h2 => by cases (show some (Hs07.Call.picture a.toNat) = some x from h2); exact ⟨congrArg (fun z => [z]) (toNat_of ha), rfl⟩
  rw [if_neg e] at hs
  clear e
  by_cases e : p = 7
  · rw [if_pos e] at hs; cases hs
    exact one 7 e rfl rfl (fun _ => rfl) fun a ha h2 => by cases (show some (Hs07.Call.lacks a.toNat) = some x from h2); exact ⟨congrArg (fun z => [z]) (toNat_of ha), rfl⟩
  rw [if_neg e] at hs
  clear e
  by_cases e : p = 8
  · rw [if_pos e] at hs; cases hs
    exact one 8 e rfl rfl (fun _ => rfl) fun a ha h2 => by cases (show some (Hs07.Call.count a.toNat) = some x from h2); exact ⟨congrArg (fun z => [z]) (toNat_of ha), rfl⟩
  rw [if_neg e] at hs
  clear e
  by_cases e : p = 9
  · rw [if_pos e] at hs; cases hs
    exact one 9 e rfl rfl (fun _ => rfl) fun a ha h2 => by cases (show some (Hs07.Call.fall a.toNat) = some x from h2); exact ⟨congrArg (fun z => [z]) (toNat_of ha), rfl⟩
  rw [if_neg e] at hs
  clear e
  by_cases e : p = 10
  · rw [if_pos e] at hs; cases hs
    exact one 10 e rfl rfl (fun _ => rfl) fun a ha h2 => by cases (show some (Hs07.Call.back a.toNat) = some x from h2); exact ⟨congrArg (fun z => [z]) (toNat_of ha), rfl⟩
  rw [if_neg e] at hs
  clear e
  by_cases e : p = 11
  · rw [if_pos e] at hs; cases hs
    exact one 11 e rfl rfl (fun _ => rfl) fun a ha h2 => by cases (show some (Hs07.Call.drop a.toNat) = some x from h2); exact ⟨congrArg (fun z => [z]) (toNat_of ha), rfl⟩
  rw [if_neg e] at hs
  clear e
  by_cases e : p = 12
  · rw [if_pos e] at hs; cases hs
    exact none_ 12 e rfl rfl rfl fun h2 => by cases (show some Hs07.Call.shows = some x from h2); exact ⟨rfl, rfl⟩
  rw [if_neg e] at hs
  clear e
  by_cases e : p = 13
  · rw [if_pos e] at hs; cases hs
    exact one 13 e rfl rfl (fun _ => rfl) fun a ha h2 => by cases (show some (Hs07.Call.channel a.toNat) = some x from h2); exact ⟨congrArg (fun z => [z]) (toNat_of ha), rfl⟩
  rw [if_neg e] at hs
  clear e
  by_cases e : p = 14
  · rw [if_pos e] at hs; cases hs
    exact none_ 14 e rfl rfl rfl fun h2 => by cases (show some Hs07.Call.total = some x from h2); exact ⟨rfl, rfl⟩
  rw [if_neg e] at hs
  clear e
  by_cases e : p = 15
  · rw [if_pos e] at hs; cases hs
    exact none_ 15 e rfl rfl rfl fun h2 => by cases (show some Hs07.Call.newest = some x from h2); exact ⟨rfl, rfl⟩
  rw [if_neg e] at hs
  cases hs
structure Rest (l : List Int) (s : Hs07.St) (cs : List (List (List Int))) : Prop where
  calls : ∃ f, PyFlat.calls PyHs07.shape f l = some cs
  asked : (cs.map PyHs07.whole).all Hs07Neutral.asked1 = true
  many : Hs07Neutral.many s (cs.map PyHs07.whole) ≤ 1000000
def tells (s : Hs07.St) (cs : List (List (List Int))) : List Int := PyFlat.told (PyFlat.played Hs07Neutral.step s (cs.map PyHs07.whole))
theorem Rest.nil {s : Hs07.St} {cs : List (List (List Int))} (h : Rest [] s cs) : cs = [] := by
  obtain ⟨f, e⟩ := h.calls
  cases f <;> (cases e; rfl)
theorem Rest.cons {p : Int} {r : List Int} {s : Hs07.St} {cs : List (List (List Int))} (h : Rest (p :: r) s cs) :
    ∃ x t cs', p = (numOf x : Int) ∧ r = argsOf x ++ t ∧ Rest t (Hs07.step s x).1 cs' ∧ cs.length = cs'.length + 1 ∧ tells s cs = ((Hs07.step s x).2.length : Int) :: ((Hs07.step s x).2 ++ tells (Hs07.step s x).1 cs') ∧ (Hs07.step s x).2.length ≤ 1000000 := by
  obtain ⟨f, e⟩ := h.calls
  obtain ⟨c, t, cs', f', rfl, hc, he⟩ := calls_cons e
  have ha := h.asked
  rw [List.map_cons, List.all_cons, Bool.and_eq_true] at ha
  obtain ⟨x, hx⟩ := Option.isSome_iff_exists.mp (show (callOf (PyHs07.whole c)).isSome = true from ha.1)
  obtain ⟨e1, e2⟩ := parse hc hx
  have es : Hs07Neutral.step s (PyHs07.whole c) = Hs07.step s x := by
    unfold Hs07Neutral.step
    rw [hx]
  have hm : (Hs07Neutral.step s (PyHs07.whole c)).2.length + Hs07Neutral.many (Hs07Neutral.step s (PyHs07.whole c)).1 (cs'.map PyHs07.whole) ≤ 1000000 := h.many
  rw [es] at hm
  refine ⟨x, t, cs', e1, e2, ⟨⟨f', he⟩, ha.2, by omega⟩, rfl, ?_, by omega⟩
  show PyFlat.told ((Hs07Neutral.step s (PyHs07.whole c)).2 :: PyFlat.played Hs07Neutral.step (Hs07Neutral.step s (PyHs07.whole c)).1 (cs'.map PyHs07.whole)) = _
  rw [es]
  rfl
theorem rest_of {l : List Int} (h : PyHs07.answers_asked l = true) : ∃ cs, Rest l Hs07.init cs ∧ cs.length ≤ 60 ∧ PyHs07.answers l = tells Hs07.init cs ∧ (PyHs07.answers l).length ≤ 10000000 := by
  unfold PyHs07.answers_asked at h
  cases q : PyFlat.calls PyHs07.shape l.length l with
  | none => rw [q] at h; cases h
  | some raw =>
    rw [q] at h
    simp only [Bool.and_eq_true] at h
    obtain ⟨⟨⟨⟨_, h2⟩, _⟩, h4⟩, h5⟩ := h
    unfold Hs07Neutral.asked at h4
    simp only [Bool.and_eq_true, decide_eq_true_eq] at h4
    refine ⟨raw, ⟨⟨_, q⟩, h4.1, h4.2.2.2⟩, by simpa using (show decide (raw.length ≤ 60) = true from h2), ?_, by simpa using (show decide ((PyHs07.answers l).length ≤ 10000000) = true from h5)⟩
    unfold PyHs07.answers PyHs07.calls
    rw [q]
    rfl
end Cp

set_option Elab.async false
set_option linter.all false
set_option maxRecDepth 100000
set_option maxHeartbeats 2000000
namespace Cp
open PySem PySem.Spec PyProof.Rows L2
def Sq (K : PySem.W.Frag) (H : Hp) (a : Addr) (xs : List V) : Prop := SqL K H a xs ∨ SqT K H a xs
theorem sqT_frame {K : PySem.W.Frag} {H H' : Hp} {a : Addr} {xs : List V} (h : SqT K H a xs) (k : ∀ o, H a = some o → H' a = some o) : SqT K H' a xs := by
  rcases h with (h | ⟨o, h⟩) | h
  · exact .inl (.inl (k _ h))
  · exact .inl (.inr ⟨o, k _ h⟩)
  · exact .inr h
theorem Sq.frame {K : PySem.W.Frag} {H H' : Hp} {a : Addr} {xs : List V} (h : Sq K H a xs) (k : ∀ o, H a = some o → H' a = some o) : Sq K H' a xs := h.imp (fun z => sq_frame z k) fun z => sqT_frame z k
theorem Sq.frameP {K : PySem.W.Frag} {H H' : Hp} {a p C dx : Addr} {xs : List V} {fs : List (Str × V)} (h : Sq K H a xs) (hp : H p = some (.ins C dx fs)) (k : ∀ c o, H c = some o → c ≠ p → H' c = some o) : Sq K H' a xs := by
  rcases h with ((h | ⟨o, h⟩) | h) | ((h | ⟨o, h⟩) | h)
  · exact .inl (.inl (.inl (k _ _ h (ne_of h hp (by intro z; cases z)))))
  · exact .inl (.inl (.inr ⟨o, k _ _ h (ne_of h hp (by intro z; cases z))⟩))
  · exact .inl (.inr h)
  · exact .inr (.inl (.inl (k _ _ h (ne_of h hp (by intro z; cases z)))))
  · exact .inr (.inl (.inr ⟨o, k _ _ h (ne_of h hp (by intro z; cases z))⟩))
  · exact .inr (.inr h)
theorem lc_any {K : PySem.W.Frag} {n : Nat} {a : Addr} {xs : List V} {g : TG} {tt : TT} {te : TE} {vs : List Nat} {σ : L2.St} {H : Hp} {Q : VK} (hσ : σ[n]? = some (some (.ref a))) (h : Sq K H a xs) (Pv : Addr → Nat → Hp → Prop)
    (h0 : ∀ D, H D = none → Pv D 0 (upd H D (.lst []))) (hk : ∀ D i H', H D = none → Pv D i H' → ∀ o, H a = some o → H' a = some o)
    (hs : ∀ D i x H', H D = none → xs[i]? = some x → Pv D i H' → g x (wipe σ vs) H' fun σ2 H2 => wipe σ2 vs = wipe σ vs ∧ tt σ2 H2 fun b H3 =>
      if b = true then te σ2 H3 fun y H4 => ∃ acc, H4 D = some (.lst acc) ∧ acc.length < sizeLine ∧ Pv D (i + 1) (upd H4 D (.lst (acc ++ [y]))) else Pv D (i + 1) H3)
    (hd : ∀ D H', H D = none → Pv D xs.length H' → Q (.ref D) H') : tLc (fun σ H R => iList K (tVar n) σ H R ∨ iTup K (tVar n) σ H R) g tt te vs σ H Q := by
  rcases h with h | h
  · exact .inl ⟨_, hσ, a, rfl, ⟨_, h⟩, fun D hD => lc_list (K := K) (a := a) (xs := xs) (Pv D) (h0 D hD) (fun i H' _ p => sq_frame h (hk D i H' hD p)) (fun i x H' e p => hs D i x H' hD e p) (fun H' p => hd D H' hD p)⟩
  · exact .inr ⟨_, hσ, a, rfl, ⟨_, h⟩, fun D hD => lc_tup (K := K) (a := a) (xs := xs) (Pv D) (h0 D hD) (fun i H' _ p => sqT_frame h (hk D i H' hD p)) (fun i x H' e p => hs D i x H' hD e p) (fun H' p => hd D H' hD p)⟩
theorem Hold.adopt {H : Hp} {S : Sto} {r : Ro} {a : Addr} {o : HO} (h : Hold H S) (e : H a = some o) (n : ¬ Own S a) (hi : ∀ b, r = .imm b → b = a) : Hold H (S.lay r a o) := by
  refine ⟨fun x u q => ?_, fun x y u v q q' z => ?_, fun b => ?_⟩
  · by_cases hx : x = r
    · subst hx
      rw [lay_self] at q
      cases q
      rw [lay_ad]
      exact e
    · rw [lay_ne hx] at q
      rw [lay_adne hx]
      exact h.at_ x u q
  · by_cases hx : x = r
    · by_cases hy : y = r
      · exact hx.trans hy.symm
      · rw [lay_ne hy] at q'
        rw [hx, lay_ad, lay_adne hy] at z
        exact (n ⟨y, v, q', z.symm⟩).elim
    · rw [lay_ne hx] at q
      by_cases hy : y = r
      · rw [hy, lay_ad, lay_adne hx] at z
        exact (n ⟨x, u, q, z⟩).elim
      · rw [lay_ne hy] at q'
        rw [lay_adne hx, lay_adne hy] at z
        exact h.inj x y u v q q' z
  · by_cases hx : (Ro.imm b) = r
    · rw [← hx, lay_ad]
      exact (hi b hx.symm).symm
    · rw [lay_adne hx]
      exact h.imm b
theorem not_own_lay {S : Sto} {r : Ro} {a b : Addr} {o : HO} (n : ¬ Own S b) (h : b ≠ a) : ¬ Own (S.lay r a o) b := fun ⟨x, u, q, z⟩ => by
  by_cases hx : x = r
  · rw [hx, lay_ad] at z
    exact h z.symm
  · rw [lay_ne hx] at q
    rw [lay_adne hx] at z
    exact n ⟨x, u, q, z⟩
def S00 : Sto := ⟨fun r => match r with | .imm a => a | _ => 0, fun _ => none⟩
theorem hold00 (H : Hp) : Hold H S00 := ⟨(fun _ _ q => nomatch q), (fun _ _ _ _ q => nomatch q), fun _ => rfl⟩
theorem own00 (a : Addr) : ¬ Own S00 a := fun ⟨_, _, q, _⟩ => nomatch q
theorem pairs_get : ∀ {l : List Nat} {i : Nat} {x : Nat × Nat}, (Hs07.pairs l)[i]? = some x → l[2 * i]? = some x.1 ∧ l[2 * i + 1]? = some x.2
  | [], i, x, h => by simp [Hs07.pairs] at h
  | [_], i, x, h => by simp [Hs07.pairs] at h
  | a :: b :: r, 0, x, h => by
    have e : (a, b) = x := Option.some.inj h
    subst e
    exact ⟨rfl, rfl⟩
  | a :: b :: r, i + 1, x, h => by
    have ih := pairs_get (l := r) (i := i) (x := x) (by simpa [Hs07.pairs] using h)
    rw [show 2 * (i + 1) = 2 * i + 1 + 1 by omega]
    simpa using ih
theorem pairs_len : ∀ (l : List Nat), (Hs07.pairs l).length = l.length / 2
  | [] => rfl
  | [_] => by simp [Hs07.pairs]
  | a :: b :: r => by
    have ih := pairs_len r
    show (Hs07.pairs r).length + 1 = (r.length + 2) / 2
    rw [ih]
    omega
theorem seq_fld {K : PySem.W.Frag} {ta tv : TE} {f : Str} {u : TS} {D : Ends} {σ : L2.St} {H : Hp} (h : tv σ H fun y H1 => ta σ H1 fun x H2 => ∃ a C dx fs, x = .ref a ∧ H2 a = some (.ins C dx fs) ∧ Cls K C ∧ NoAttr K C f ∧ fs.length < 1000 ∧ u D σ (upd H2 a (.ins C dx (putF f y fs)))) :
    tSeq (sFld K ta tv f) u D σ H := h
theorem yes_of {σ : L2.St} {H : Hp} {Q : Bool → Hp → Prop} (h : Q true H) : tYes σ H Q := h
theorem rgc2 {n : Nat} (h : n ≤ 32) (e : n % 2 = 0) : RgC 0 (n : Int) 2 (n / 2) := by
  have all : ∀ n : Fin 33, n.val % 2 = 0 → RgC 0 (n.val : Int) 2 (n.val / 2) := by
    unfold RgC
    decide
  exact all ⟨n, by omega⟩ e
theorem rIx_sq {K : PySem.W.Frag} {H : Hp} {a : Addr} {xs : List V} {j : Nat} {z : Int} {v : V} {Q : VK} (h : Sq K H a xs) (e : z = (j : Int)) (hv : xs[j]? = some v) (q : Q v H) : rIx K (.ref a) (.int z) H Q := by
  rcases h with h | h
  · exact .inl ⟨_, _, _, _, rfl, rfl, h, at_of e hv, q⟩
  · exact .inr (.inl ⟨_, _, _, _, rfl, rfl, h, at_of e hv, q⟩)
theorem range_snoc {α : Type} {f g : Nat → α} {i : Nat} {x : α} (h : ∀ j, j < i → g j = f j) (hx : g i = x) : (List.range (i + 1)).map g = (List.range i).map f ++ [x] := by
  rw [List.range_succ, List.map_append]
  congr 1
  · exact List.map_congr_left fun j hj => h j (List.mem_range.mp hj)
  · simp [hx]
theorem upd3 {H : Hp} {x l : Addr} {o1 o2 o3 : HO} (h : x ≠ l) : upd (upd (upd H x o1) l o2) x o3 = upd (upd H l o2) x o3 := by
  rw [upd_swap h, upd_upd]
section
variable {P : Program} {w : World} {K : PySem.W.Frag} {mg : Str → Option Value} {base : Heap} (T : Env K mg)
structure PartP (S : Sto) (ps : List Nat) (i : Nat) : Prop where
  proc : ∀ j n, j < i → ps[j]? = some n → ∃ dx, S.ob (.proc j) = some (.ins T.cProcess dx (procF ⟨n, 0, false⟩ (S.ad (.leav j))))
  leav : ∀ j, j < i → S.ob (.leav j) = some (.lst [])
structure PartC (S : Sto) (cs : List (Nat × Nat)) (i : Nat) : Prop where
  chan : ∀ j x, j < i → cs[j]? = some x → ∃ dx, S.ob (.chan j) = some (.ins T.cChannel dx (chanF x (S.ad (.wait j))))
  wait : ∀ j, j < i → S.ob (.wait j) = some (.lst [])
structure Pre (S : Sto) (s : Hs07.St) (j : Nat) : Prop where
  sk : Sk T S s
  proc : ∀ i p, s.procs[i]? = some p → ∃ dx, S.ob (.proc i) = some (.ins T.cProcess dx (procF p (S.ad (.leav i))))
  leav : ∀ i, i < s.procs.length → S.ob (.leav i) = some (.lst (((List.range j).filter fun c => Hs07.source s c == i).map fun (c : Nat) => .int ((c : Int) + 1)))
  wait : ∀ c, c < s.chans.length → S.ob (.wait c) = some (.lst [])
  pdict : S.ob .pdict = some (.dK [])
def okEnds (ps es : List Nat) : Prop := ps.length ≤ 8 ∧ es.length ≤ 32 ∧ es.length % 2 = 0 ∧ ∀ e ∈ es, 1 ≤ e ∧ e ≤ ps.length
def netOf (ps es : List Nat) : Hs07.St := Hs07.fresh ps (Hs07.pairs (es.map fun e => e - 1))
def spNet_lay : Sp := fun vs H Q _ => ∃ (p dx a b : Addr) (fs : List (Str × V)) (ps es : List Nat), vs = [.ref p, .ref a, .ref b] ∧ H p = some (.ins T.cNet dx fs) ∧ (fs = [] ∨ ∃ x y z n m, fs = netF x y z n m) ∧ Sq K H a (ps.map fun (n : Nat) => .int n) ∧ Sq K H b (es.map fun (n : Nat) => .int n) ∧
  okEnds ps es ∧ ∀ H' S', Hold H' S' → Shape T S' (netOf ps es) → S'.ad .net = p → (∀ c o, H c = some o → c ≠ p → H' c = some o ∧ ¬ Own S' c) → Q .non H'
theorem ok_Net_lay : FnOk P w K mg base CX0 3 T.f_Net_lay T.d_Net_lay ["self", "purses", "ends"] (spNet_lay T) := by
  refine T.F_Net_lay.ok sc_Net_lay (fun vs H Q E h => ?_) (fun cdv A outer s H vs Q E hr h => ?_)
  · obtain ⟨p, dx, a, b, fs, ps, es, rfl, _⟩ := h
    rfl
  · obtain ⟨p, dx, a, b, fs, ps, es, rfl, hp, hfs, ha, hb, ⟨hps, hes, hev, hend⟩, k⟩ := h
    have hu := hu_of hr
    refine ⟨_, (pss_cons (ps_fld (pv 0) (pe_lc rfl sc_Net_lay.nd (pi_or (pi_list (pv 1)) (pi_tup (pv 1))) (blkOk_by (own := [("purse", 3)]) (by kernel_rfl!)) (fun _ _ _ _ _ => pg_name (i := 3) sc_Net_lay.nd rfl (Or.inl rfl)) (fun _ _ _ _ _ => pts_nil) (fun _ _ _ _ _ => pe_make T.mk_Process (ok_Process_init T) (hr.mono (by decide)) rfl T.g_Process T.b_Process_init .nil pass0 (pa_cons (pv 3) pa_nil))) rfl)
      (pss_cons (ps_fld (pv 0) (pe_lc rfl sc_Net_lay.nd (pi_range3 rfl T.n_range (pa_cons pe_int (pa_cons (pe_callB call_len_seq rfl T.n_len PySem.boot_len (pa_cons (pv 2) pa_nil)) (pa_cons pe_int pa_nil)))) (blkOk_by (own := [("k", 4)]) (by kernel_rfl!)) (fun _ _ _ _ _ => pg_name (i := 4) sc_Net_lay.nd rfl (Or.inl rfl)) (fun _ _ _ _ _ => pts_nil) (fun _ _ _ _ _ => pe_make T.mk_Channel (ok_Channel_init T) (hr.mono (by decide)) rfl T.g_Channel T.b_Channel_init .nil pass0 (pa_cons (pe_ix (show IxR _ (rIx K) from ix_seq) (pv 2) (pv 4) (fun _ _ => rfl)) (pa_cons (pe_ix (show IxR _ (rIx K) from ix_seq) (pv 2) (pe_op op_add (pv 4) pe_int) (fun _ _ => rfl)) pa_nil)))) rfl)
      (pss_cons (ps_fld (pv 0) pe_dnewK rfl)
      (pss_cons (ps_fld (pv 0) pe_int rfl)
      (pss_cons (ps_fld (pv 0) pe_int rfl)
      (pss_one (ps_for PassesOwn.never rfl (pi_range2 rfl T.n_range (pa_cons pe_int (pa_cons (pe_op op_add (pe_callB call_len_seq rfl T.n_len PySem.boot_len (pa_cons (pe_fld (pv 0) rfl) pa_nil)) pe_int) pa_nil))) (pg_name (i := 5) sc_Net_lay.nd rfl (Or.inl rfl)) (pss_one (ps_expr (pe_bm PySem.F.plainAttrs_list PySem.F.slot_list_append PySem.F.type_list_append mt_append (pe_fld (pe_meth (pv 0) T.c_Net T.m_Net_sender (ok_Net_sender T) (hr.mono (by decide)) T.b_Net_sender .nil pass0 (pa_cons (pv 5) pa_nil)) rfl) (pa_cons (pv 5) pa_nil))))))))))), ?_⟩
    have lfs : fs.length ≤ 5 := by
      rcases hfs with rfl | ⟨x, y, z, n, m, rfl⟩
      · exact Nat.zero_le _
      · exact Nat.le_refl 5
    have line : 100 < sizeLine := by decide
    refine seq_fld ?_
    refine lc_any (n := 1) (a := a) (by exact rfl) ha (fun D i H' => ∃ S', Hold H' S' ∧ PartP T S' ps i ∧ H' D = some (.lst ((List.range i).map fun j => V.ref (S'.ad (.proc j)))) ∧ ¬ Own S' D ∧ ∀ c o, H c = some o → H' c = some o ∧ ¬ Own S' c)
      (fun D hD => ⟨S00, hold00 _, ⟨fun _ _ z => absurd z (Nat.not_lt_zero _), fun _ z => absurd z (Nat.not_lt_zero _)⟩, upd_same, own00 _, fun c o e => ⟨by rw [upd_ne (ne_of_none e hD)]; exact e, own00 _⟩⟩)
      (fun D i H' _ ⟨S', _, _, _, _, old⟩ o e => (old a o e).1) ?_ ?_
    · rintro D i x H' hD hx ⟨S', hH', hP, hDl, nD, old⟩
      obtain ⟨n, hn, rfl⟩ : ∃ n, ps[i]? = some n ∧ V.int ((n : Nat) : Int) = x := by
        rw [List.getElem?_map] at hx
        cases q : ps[i]? with
        | none => rw [q] at hx; cases hx
        | some c => rw [q] at hx; exact ⟨c, rfl, Option.some.inj hx⟩
      have hi : i < ps.length := (List.getElem?_eq_some_iff.mp hn).1
      refine ⟨rfl, ?_⟩
      refine yes_of ?_
      rw [if_pos rfl]
      refine ⟨_, rfl, ?_⟩
      intro x d nx nd nxd
      refine ⟨x, d, _, rfl, upd_same, fun l hl => ⟨rfl, ?_⟩⟩
      have nlx : x ≠ l := ne_of_none upd_same hl
      rw [upd_ne nlx.symm] at hl
      have nld : d ≠ l := ne_of_none upd_same hl
      rw [upd_ne nld.symm] at hl
      have h1 : Hold (upd H' d (.own x)) S' := hH'.other nd _
      have l1 : upd H' d (.own x) l = none := by rw [upd_ne nld.symm]; exact hl
      have h2 := h1.lay (r := .leav i) l1 (.lst []) (fun b e => by cases e)
      have x2 : upd (upd H' d (.own x)) l (.lst []) x = none := by rw [upd_ne nlx, upd_ne nxd.symm]; exact nx
      have h3 := h2.lay (r := .proc i) x2 (.ins T.cProcess d (procF ⟨n, 0, false⟩ l)) (fun b e => by cases e)
      have Dx : D ≠ x := ne_of_none hDl nx
      have Dl : D ≠ l := ne_of_none hDl hl
      have Dd : D ≠ d := ne_of_none hDl nd
      have nD3 : ¬ Own ((S'.lay (.leav i) l (.lst [])).lay (.proc i) x (.ins T.cProcess d (procF ⟨n, 0, false⟩ l))) D := not_own_lay (not_own_lay nD Dl) Dx
      refine ⟨(List.range i).map fun j => V.ref (S'.ad (.proc j)), ?_, ?_, ?_⟩
      · rw [upd3 nlx, upd_ne Dx, upd_ne Dl, upd_ne Dd]; exact hDl
      · rw [List.length_map, List.length_range]; omega
      · refine ⟨(S'.lay (.leav i) l (.lst [])).lay (.proc i) x (.ins T.cProcess d (procF ⟨n, 0, false⟩ l)), ?_, ⟨fun j m hj hm => ?_, fun j hj => ?_⟩, ?_, nD3, fun c o e => ?_⟩
        · rw [upd3 nlx]; exact h3.aside nD3 _
        · by_cases hji : j = i
          · subst hji
            rw [hn] at hm
            cases hm
            exact ⟨d, by simp⟩
          · obtain ⟨dj, ej⟩ := hP.proc j m (by omega) hm
            exact ⟨dj, by simpa [hji] using ej⟩
        · by_cases hji : j = i
          · subst hji
            simp
          · simpa [hji] using hP.leav j (by omega)
        · rw [upd_same]
          refine congrArg (fun z => some (HO.lst z)) (range_snoc (fun j hj => ?_) ?_).symm
          · have : j ≠ i := by omega
            simp [this]
          · simp
        · obtain ⟨e1, e2⟩ := old c o e
          have cx : c ≠ x := ne_of_none e1 nx
          have cl : c ≠ l := ne_of_none e1 hl
          have cd : c ≠ d := ne_of_none e1 nd
          have cD : c ≠ D := ne_of_none e hD
          refine ⟨?_, not_own_lay (not_own_lay e2 cl) cx⟩
          rw [upd_ne cD, upd3 nlx, upd_ne cx, upd_ne cl, upd_ne cd]; exact e1
    rintro D H1 hD ⟨S1, hH1, hP1, hDl, nD, old1⟩
    rw [List.length_map] at hP1 hDl
    have np1 := (old1 p _ hp).2
    have pD : p ≠ D := ne_of_none hp hD
    refine ⟨_, rfl, p, T.cNet, dx, fs, rfl, (old1 p _ hp).1, T.c_Net, T.n_Net_processes, by omega, ?_⟩
    have lf1 := length_putF "processes" (V.ref D) fs
    generalize hF1 : putF "processes" (V.ref D) fs = F1 at *
    have hH1' := hH1.aside np1 (.ins T.cNet dx F1)
    have hDl' : upd H1 p (.ins T.cNet dx F1) D = some (.lst ((List.range ps.length).map fun j => V.ref (S1.ad (.proc j)))) := by rw [upd_ne pD.symm]; exact hDl
    have old1' : ∀ c o, H c = some o → c ≠ p → upd H1 p (.ins T.cNet dx F1) c = some o ∧ ¬ Own S1 c := fun c o e n => ⟨by rw [upd_ne n]; exact (old1 c o e).1, (old1 c o e).2⟩
    have hp1 : upd H1 p (.ins T.cNet dx F1) p = some (.ins T.cNet dx F1) := upd_same
    have hb1 : Sq K (upd H1 p (.ins T.cNet dx F1)) b (es.map fun (n : Nat) => .int n) := hb.frameP hp fun c o e n => (old1' c o e n).1
    generalize upd H1 p (.ins T.cNet dx F1) = H2 at *
    have hcl : (Hs07.pairs (es.map fun e => e - 1)).length = es.length / 2 := by rw [pairs_len, List.length_map]
    refine ⟨_, rfl, _, _, rfl, hb1, 0, _, 2, es.length / 2, rfl, (by rw [List.length_map]; exact rgc2 hes hev), fun D2 hD2 => lc_step (fun i H' => ∃ S', Hold H' S' ∧ PartP T S' ps ps.length ∧ PartC T S' (Hs07.pairs (es.map fun e => e - 1)) i ∧ H' D = some (.lst ((List.range ps.length).map fun j => V.ref (S'.ad (.proc j)))) ∧ ¬ Own S' D ∧
      H' D2 = some (.lst ((List.range i).map fun j => V.ref (S'.ad (.chan j)))) ∧ ¬ Own S' D2 ∧ H' p = some (.ins T.cNet dx F1) ∧ ¬ Own S' p ∧ ∀ c o, H c = some o → c ≠ p → H' c = some o ∧ ¬ Own S' c) ?_ ?_ ?_⟩
    · have D12 : D ≠ D2 := ne_of_none hDl' hD2
      have p2 : p ≠ D2 := ne_of_none hp1 hD2
      exact ⟨S1, hH1'.other hD2 _, hP1, ⟨fun _ _ z => absurd z (Nat.not_lt_zero _), fun _ z => absurd z (Nat.not_lt_zero _)⟩, by rw [upd_ne D12]; exact hDl', nD, upd_same, hH1'.notOwn hD2, by rw [upd_ne p2]; exact hp1, np1,
        fun c o e n => ⟨by rw [upd_ne (ne_of_none (old1' c o e n).1 hD2)]; exact (old1' c o e n).1, (old1' c o e n).2⟩⟩
    · rintro i H' hi ⟨S', hH', hP, hC, hDl, nD, hD2l, nD2, hp', np, old⟩
      have hi' : i < (Hs07.pairs (es.map fun e => e - 1)).length := by rw [hcl]; exact hi
      have ex : (Hs07.pairs (es.map fun e => e - 1))[i]? = some (Hs07.pairs (es.map fun e => e - 1))[i] := List.getElem?_eq_getElem hi'
      obtain ⟨g1, g2⟩ := pairs_get ex
      generalize (Hs07.pairs (es.map fun e => e - 1))[i] = x at *
      have one : ∀ {j y : Nat}, (es.map fun e => e - 1)[j]? = some y → (es.map fun (n : Nat) => V.int n)[j]? = some (V.int ((y : Int) + 1)) := fun {j y} q => by
        rw [List.getElem?_map] at q ⊢
        cases q2 : es[j]? with
        | none => rw [q2] at q; cases q
        | some e =>
          rw [q2] at q
          have e1 : e - 1 = y := Option.some.inj q
          have e2 := (hend e (List.mem_of_getElem? q2)).1
          have e3 : (e : Int) = (y : Int) + 1 := by omega
          show some (V.int (e : Int)) = _
          rw [e3]
      have hb' : Sq K H' b (es.map fun (n : Nat) => .int n) := hb.frameP hp fun c o e n => (old c o e n).1
      refine ⟨rfl, ?_⟩
      refine yes_of ?_
      rw [if_pos rfl]
      refine ⟨_, rfl, _, rfl, rIx_sq (j := 2 * i) hb' (by omega) (one g1) ⟨_, rfl, _, rfl, _, _, rfl, rfl, rIx_sq (j := 2 * i + 1) hb' (by omega) (one g2) ?_⟩⟩
      intro y d ny nd nyd
      refine ⟨y, d, _, _, rfl, upd_same, fun l hl => ⟨rfl, ?_⟩⟩
      have nly : y ≠ l := ne_of_none upd_same hl
      rw [upd_ne nly.symm] at hl
      have nld : d ≠ l := ne_of_none upd_same hl
      rw [upd_ne nld.symm] at hl
      have h1 : Hold (upd H' d (.own y)) S' := hH'.other nd _
      have l1 : upd H' d (.own y) l = none := by rw [upd_ne nld.symm]; exact hl
      have h2 := h1.lay (r := .wait i) l1 (.lst []) (fun b e => by cases e)
      have x2 : upd (upd H' d (.own y)) l (.lst []) y = none := by rw [upd_ne nly, upd_ne nyd.symm]; exact ny
      have h3 := h2.lay (r := .chan i) x2 (.ins T.cChannel d (chanF x l)) (fun b e => by cases e)
      have Dy : ∀ {c o}, H' c = some o → c ≠ y := fun e => ne_of_none e ny
      have Dl : ∀ {c o}, H' c = some o → c ≠ l := fun e => ne_of_none e hl
      have Dd : ∀ {c o}, H' c = some o → c ≠ d := fun e => ne_of_none e nd
      have D12 : D ≠ D2 := ne_of_none hDl' hD2
      have p2 : p ≠ D2 := ne_of_none hp1 hD2
      have no : ∀ {c o}, H' c = some o → ¬ Own S' c → ¬ Own ((S'.lay (.wait i) l (.lst [])).lay (.chan i) y (.ins T.cChannel d (chanF x l))) c := fun e q => not_own_lay (not_own_lay q (Dl e)) (Dy e)
      have kp : ∀ {c o}, H' c = some o → upd (upd (upd H' d (.own y)) l (.lst [])) y (.ins T.cChannel d (chanF x l)) c = some o := fun e => by rw [upd_ne (Dy e), upd_ne (Dl e), upd_ne (Dd e)]; exact e
      refine ⟨(List.range i).map fun j => V.ref (S'.ad (.chan j)), ?_, ?_, ?_⟩
      · rw [upd3 nly]; exact kp hD2l
      · rw [List.length_map, List.length_range]; omega
      · refine ⟨(S'.lay (.wait i) l (.lst [])).lay (.chan i) y (.ins T.cChannel d (chanF x l)), ?_, ⟨by simpa using hP.proc, by simpa using hP.leav⟩, ⟨fun j m hj hm => ?_, fun j hj => ?_⟩, ?_, no hDl nD, ?_, no hD2l nD2, ?_, no hp' np, fun c o e n => ?_⟩
        · rw [upd3 nly]; exact h3.aside (no hD2l nD2) _
        · by_cases hji : j = i
          · subst hji
            rw [ex] at hm
            cases hm
            exact ⟨d, by simp⟩
          · obtain ⟨dj, ej⟩ := hC.chan j m (by omega) hm
            exact ⟨dj, by simpa [hji] using ej⟩
        · by_cases hji : j = i
          · subst hji
            simp
          · simpa [hji] using hC.wait j (by omega)
        · rw [upd_ne D12, upd3 nly]; exact (kp hDl).trans (by simp)
        · rw [upd_same]
          refine congrArg (fun z => some (HO.lst z)) (range_snoc (fun j hj => ?_) ?_).symm
          · have : j ≠ i := by omega
            simp [this]
          · simp
        · rw [upd_ne p2, upd3 nly]; exact kp hp'
        · obtain ⟨e1, e2⟩ := old c o e n
          have cD : c ≠ D2 := ne_of_none (old1' c o e n).1 hD2
          exact ⟨by rw [upd_ne cD, upd3 nly]; exact kp e1, no e1 e2⟩
    rintro H3 ⟨S3, hH3, hP3, hC3, hD3, nD3, hE3, nE3, hp3, np3, old3⟩
    have D12 : D ≠ D2 := ne_of_none hDl' hD2
    refine ⟨_, rfl, p, T.cNet, dx, F1, rfl, hp3, T.c_Net, T.n_Net_channels, by omega, ?_⟩
    intro pd hpd
    have ppd : p ≠ pd := ne_of_none upd_same hpd
    rw [upd_ne ppd.symm] at hpd
    refine ⟨_, rfl, p, T.cNet, dx, _, rfl, by rw [upd_ne ppd]; exact upd_same, T.c_Net, T.n_Net_pictures, ?_, ?_⟩
    · have := length_putF "channels" (V.ref D2) F1
      omega
    refine ⟨_, rfl, p, T.cNet, dx, _, rfl, upd_same, T.c_Net, T.n_Net_begun, ?_, ?_⟩
    · have := length_putF "channels" (V.ref D2) F1
      have := length_putF "pictures" (V.ref pd) (putF "channels" (V.ref D2) F1)
      omega
    refine ⟨_, rfl, p, T.cNet, dx, _, rfl, upd_same, T.c_Net, T.n_Net_deeds, ?_, ?_⟩
    · have := length_putF "channels" (V.ref D2) F1
      have := length_putF "pictures" (V.ref pd) (putF "channels" (V.ref D2) F1)
      have := length_putF "begun" (V.int 0) (putF "pictures" (V.ref pd) (putF "channels" (V.ref D2) F1))
      omega
    have eF : putF "deeds" (V.int 0) (putF "begun" (V.int 0) (putF "pictures" (V.ref pd) (putF "channels" (V.ref D2) F1))) = netF D D2 pd 0 0 := by
      rw [← hF1]
      rcases hfs with rfl | ⟨x, y, z, n, m, rfl⟩ <;> rfl
    refine hp_eq (H2 := upd (upd H3 pd (.dK [])) p (.ins T.cNet dx (netF D D2 pd 0 0))) (by rw [eF, upd_upd, upd_upd, upd3 ppd]) ?_
    have hE : ∀ {c o}, H3 c = some o → c ≠ p → upd (upd H3 pd (.dK [])) p (.ins T.cNet dx (netF D D2 pd 0 0)) c = some o := fun e n => by rw [upd_ne n, upd_ne (ne_of_none e hpd)]; exact e
    have npd : ¬ Own S3 pd := hH3.notOwn hpd
    have pD2 : p ≠ D2 := ne_of_none hp1 hD2
    have Dpd : D ≠ pd := ne_of_none hD3 hpd
    have D2pd : D2 ≠ pd := ne_of_none hE3 hpd
    have k1 : Hold (upd (upd H3 pd (.dK [])) p (.ins T.cNet dx (netF D D2 pd 0 0))) S3 := (hH3.other hpd _).aside np3 _
    have k2 := k1.adopt (r := .plist) (hE hD3 pD.symm) nD3 (fun b e => by cases e)
    have k3 := k2.adopt (r := .clist) (hE hE3 pD2.symm) (not_own_lay nE3 D12.symm) (fun b e => by cases e)
    have k4 := k3.adopt (r := .pdict) (a := pd) (o := .dK []) (by rw [upd_ne ppd.symm]; exact upd_same) (not_own_lay (not_own_lay npd Dpd.symm) D2pd.symm) (fun b e => by cases e)
    have k5 := k4.adopt (r := .net) (a := p) (o := .ins T.cNet dx (netF D D2 pd 0 0)) upd_same (not_own_lay (not_own_lay (not_own_lay np3 pD) pD2) ppd) (fun b e => by cases e)
    have old5 : ∀ c o, H c = some o → c ≠ p → upd (upd H3 pd (.dK [])) p (.ins T.cNet dx (netF D D2 pd 0 0)) c = some o ∧ ¬ Own ((((S3.lay .plist D (.lst ((List.range ps.length).map fun j => V.ref (S3.ad (.proc j))))).lay .clist D2 (.lst ((List.range (es.length / 2)).map fun j => V.ref (S3.ad (.chan j))))).lay .pdict pd (.dK [])).lay .net p (.ins T.cNet dx (netF D D2 pd 0 0))) c := fun c o e n => by
      obtain ⟨e1, e2⟩ := old3 c o e n
      exact ⟨hE e1 n, not_own_lay (not_own_lay (not_own_lay (not_own_lay e2 (ne_of_none e hD)) (ne_of_none (old1' c o e n).1 hD2)) (ne_of_none e1 hpd)) n⟩
    have hcs : (netOf ps es).chans = Hs07.pairs (es.map fun e => e - 1) := rfl
    have hpr : (netOf ps es).procs = ps.map fun n => ⟨n, 0, false⟩ := rfl
    have hends : ∀ (c : Nat) (x : Nat × Nat), (netOf ps es).chans[c]? = some x → x.1 < (netOf ps es).procs.length ∧ x.2 < (netOf ps es).procs.length := fun c x e => by
      rw [hpr, List.length_map]
      rw [hcs] at e
      obtain ⟨g1, g2⟩ := pairs_get e
      have one : ∀ {j y : Nat}, (es.map fun e => e - 1)[j]? = some y → y < ps.length := fun {j y} q => by
        rw [List.getElem?_map] at q
        cases q2 : es[j]? with
        | none => rw [q2] at q; cases q
        | some e =>
          rw [q2] at q
          have e1 : e - 1 = y := Option.some.inj q
          have e2 := hend e (List.mem_of_getElem? q2)
          omega
      exact ⟨one g1, one g2⟩
    have pre : Pre T ((((S3.lay .plist D (.lst ((List.range ps.length).map fun j => V.ref (S3.ad (.proc j))))).lay .clist D2 (.lst ((List.range (es.length / 2)).map fun j => V.ref (S3.ad (.chan j))))).lay .pdict pd (.dK [])).lay .net p (.ins T.cNet dx (netF D D2 pd 0 0))) (netOf ps es) 0 := by
      refine ⟨⟨⟨dx, by simp; rfl⟩, ?_, ?_, fun c x e => ?_, hends⟩, fun i q e => ?_, fun i hi => ?_, fun c hc => ?_, by simp⟩
      · rw [hpr]; simp
      · rw [hcs, hcl]; simp
      · obtain ⟨d, ed⟩ := hC3.chan c x (by rw [← hcl]; exact (List.getElem?_eq_some_iff.mp e).1) e
        exact ⟨d, by simpa using ed⟩
      · rw [hpr, List.getElem?_map] at e
        cases q2 : ps[i]? with
        | none => rw [q2] at e; cases e
        | some n =>
          rw [q2] at e
          have e1 : (⟨n, 0, false⟩ : Hs07.Proc) = q := Option.some.inj e
          subst e1
          obtain ⟨d, ed⟩ := hP3.proc i n (List.getElem?_eq_some_iff.mp q2).1 q2
          exact ⟨d, by simpa using ed⟩
      · rw [hpr, List.length_map] at hi
        simpa using hP3.leav i hi
      · rw [hcs, hcl] at hc
        simpa using hC3.wait c hc
    have ad5 : ((((S3.lay .plist D (.lst ((List.range ps.length).map fun j => V.ref (S3.ad (.proc j))))).lay .clist D2 (.lst ((List.range (es.length / 2)).map fun j => V.ref (S3.ad (.chan j))))).lay .pdict pd (.dK [])).lay .net p (.ins T.cNet dx (netF D D2 pd 0 0))).ad .net = p := by simp
    generalize (((S3.lay .plist D (.lst ((List.range ps.length).map fun j => V.ref (S3.ad (.proc j))))).lay .clist D2 (.lst ((List.range (es.length / 2)).map fun j => V.ref (S3.ad (.chan j))))).lay .pdict pd (.dK [])).lay .net p (.ins T.cNet dx (netF D D2 pd 0 0)) = S5 at *
    generalize upd (upd H3 pd (.dK [])) p (.ins T.cNet dx (netF D D2 pd 0 0)) = H5 at *
    have hpl : (netOf ps es).procs.length = ps.length := by rw [hpr, List.length_map]
    have hcn : (netOf ps es).chans.length = es.length / 2 := by rw [hcs, hcl]
    have hp0 : (netOf ps es).pics = [] := rfl
    have ho0 : (netOf ps es).on = (netOf ps es).chans.map (fun _ => []) := rfl
    generalize netOf ps es = s0 at *
    clear hP3 hC3 hE hD3 nD3 hE3 nE3 hp3 np3 old3 k1 k2 k3 k4 hpd hH3
    obtain ⟨dn, en⟩ := pre.sk.net
    have gn := k5.at_ _ _ en
    rw [ad5] at gn
    refine ⟨_, rfl, _, T.cNet, dn, _, _, rfl, gn, T.c_Net, T.n_Net_channels, rfl, _, _, rfl, .inl (SqL.of (k5.at_ _ _ pre.sk.clist)), _, _, rfl, rfl, _, _, rfl, ⟨by decide, by decide, ?_, ?_⟩, ?_⟩
    · rw [List.length_map, List.length_range]; omega
    · rw [List.length_map, List.length_range]; omega
    rw [List.length_map, List.length_range, show (((s0.chans.length : Nat) : Int) + 1 - 1).toNat = s0.chans.length by omega]
    refine for_range (lo := 1) (n := s0.chans.length) (fun i σ H' => ∃ (v : Option V) (S' : Sto), σ = [some (.ref p), some (.ref a), some (.ref b), none, none, v] ∧ Hold H' S' ∧ Pre T S' s0 i ∧ S'.ad = S5.ad ∧ ∀ c o, H c = some o → c ≠ p → H' c = some o ∧ ¬ Own S' c)
      ⟨none, S5, rfl, k5, pre, rfl, old5⟩ ?_ ?_
    · rintro i σ H' hi ⟨v, S', rfl, hH', hPr, had, old⟩
      obtain ⟨dn', en'⟩ := hPr.sk.net
      have gn' := hH'.at_ _ _ en'
      have ei : (1 : Int) + ((i : Nat) : Int) = ((i : Nat) : Int) + 1 := by omega
      have hq : Hs07.source s0 i < s0.procs.length := by
        have ex : s0.chans[i]? = some s0.chans[i] := List.getElem?_eq_getElem hi
        have es : Hs07.source s0 i = s0.chans[i].1 := by unfold Hs07.source; rw [getD_of ex]
        rw [es]
        exact (hPr.sk.ends i _ ex).1
      obtain ⟨dq, eq⟩ := hPr.proc _ _ (proc_of hq)
      have el := hPr.leav _ hq
      have pn : p = S'.ad .net := by rw [had, ad5]
      rw [ei]
      refine ⟨_, rfl, _, dn', _, rfl, (by rw [pn]; exact gn'), rfl, _, rfl, S', s0, i, (by rw [pn]; rfl), hH', hPr.sk, hi, ?_⟩
      refine ⟨_, T.cProcess, dq, _, _, rfl, hH'.at_ _ _ eq, T.c_Process, T.n_Process_leaving, rfl, .inl ⟨rfl, _, SqL.of (hH'.at_ _ _ el)⟩, _, rfl, _, _, _, rfl, rfl, hH'.at_ _ _ el, ?_, ?_⟩
      · rw [List.length_map]
        exact Nat.lt_of_le_of_lt (List.length_filter_le _ _) (by rw [List.length_range]; omega)
      · have el2 : ((List.range (i + 1)).filter fun c => Hs07.source s0 c == Hs07.source s0 i) = ((List.range i).filter fun c => Hs07.source s0 c == Hs07.source s0 i) ++ [i] := by
          rw [List.range_succ, List.filter_append]
          simp
        refine ⟨_, S'.put (.leav (Hs07.source s0 i)) _, rfl, hH'.write el _, ⟨⟨⟨dn', by simpa using en'⟩, by simpa using hPr.sk.plist, by simpa using hPr.sk.clist, by simpa using hPr.sk.chan, hPr.sk.ends⟩, by simpa using hPr.proc, fun j hj => ?_, by simpa using hPr.wait, by simpa using hPr.pdict⟩, had, fun c o e n => ?_⟩
        · by_cases hji : j = Hs07.source s0 i
          · subst hji
            rw [put_self, el2, List.map_append]
            rfl
          · rw [put_ne (fun z => hji (Ro.leav.inj z)), hPr.leav j hj, List.range_succ, List.filter_append]
            have : (Hs07.source s0 i == j) = false := by simpa using fun z => hji z.symm
            simp [this]
        · obtain ⟨e1, e2⟩ := old c o e n
          exact (Fr.write el _) c o e1 e2
    · rintro σ H' ⟨v, S', rfl, hH', hPr, had, old⟩
      refine k H' S' hH' ⟨hPr.sk.net, hPr.sk.plist, hPr.proc, fun i hi => hPr.leav i hi, hPr.sk.clist, hPr.sk.chan, fun c l hl => ?_, ?_, ?_, ⟨hends, ?_, ?_, ?_, ?_, ?_, ?_⟩⟩ (by rw [had, ad5]) old
      · rw [ho0, List.getElem?_map] at hl
        cases q : s0.chans[c]? with
        | none => rw [q] at hl; cases hl
        | some x =>
          rw [q] at hl
          have e : [] = l := Option.some.inj hl
          subst e
          exact ⟨[], hPr.wait c (List.getElem?_eq_some_iff.mp q).1, .nil⟩
      · rw [hp0]; exact hPr.pdict
      · rw [hp0]; intro x hx; cases hx
      · rw [ho0, List.length_map]
      · rw [hp0]; intro x hx; cases hx
      · rw [hp0]; exact List.nodup_nil
      · rw [hpl]; exact hps
      · rw [hcn]; omega
      · rw [hp0]; exact Nat.zero_le _
end
end Cp

set_option Elab.async false
set_option linter.all false
set_option maxRecDepth 100000
set_option maxHeartbeats 2000000
namespace Cp
open PySem PySem.Spec PyProof.Rows L2
section
variable {P : Program} {w : World} {K : PySem.W.Frag} {mg : Str → Option Value} {base : Heap} (T : Env K mg)
def spNet_init : Sp := fun vs H Q _ => ∃ (p dx a b : Addr) (ps es : List Nat), vs = [.ref p, .ref a, .ref b] ∧ H p = some (.ins T.cNet dx []) ∧ Sq K H a (ps.map fun (n : Nat) => .int n) ∧ Sq K H b (es.map fun (n : Nat) => .int n) ∧
  okEnds ps es ∧ ∀ H' S', Hold H' S' → Shape T S' (netOf ps es) → S'.ad .net = p → (∀ c o, H c = some o → c ≠ p → H' c = some o ∧ ¬ Own S' c) → Q .non H'
theorem ok_Net_init : FnOk P w K mg base CX0 4 T.f_Net_init T.d_Net_init ["self", "purses", "ends"] (spNet_init T) := by
  refine T.F_Net_init.ok sc_Net_init (fun vs H Q E h => ?_) (fun cdv A outer s H vs Q E hr h => ?_)
  · obtain ⟨p, dx, a, b, ps, es, rfl, _⟩ := h
    rfl
  · obtain ⟨p, dx, a, b, ps, es, rfl, hp, ha, hb, he, k⟩ := h
    refine ⟨_, (pss_one (ps_expr (pe_meth (pv 0) T.c_Net T.m_Net_lay (ok_Net_lay T) (hr.mono (by decide)) T.b_Net_lay .nil pass0 (pa_cons (pv 1) (pa_cons (pv 2) pa_nil))))), ?_⟩
    exact ⟨_, rfl, p, dx, _, rfl, hp, rfl, _, rfl, _, rfl, p, dx, a, b, [], ps, es, rfl, hp, .inl rfl, ha, hb, he, fun H' S' h1 h2 h3 h4 => k H' S' h1 h2 h3 h4⟩
structure After (H : Hp) (S : Sto) (r dr ca : Addr) (i N : Nat) (s' : Hs07.St) (ans : List Int) (H' : Hp) (S' : Sto) (l : Addr) : Prop where
  hold : Hold H' S'
  shape : Shape T S' s'
  bd : Bd (N + 6000) s'
  net : S'.ad .net = S.ad .net
  fr : ∀ b o, H b = some o → b ≠ r → ¬ Own S b → H' b = some o ∧ ¬ Own S' b
  rd : H' r = some (.ins T.cReader dr (rdF ca i))
  nr : ¬ Own S' r
  out : H' l = some (.lst (ans.map V.int))
  nl : ¬ Own S' l
  new : ∀ b o, H b = some o → ¬ Own S b → b ≠ l
structure Ahead (H : Hp) (S : Sto) (s : Hs07.St) (r dr ca : Addr) (ns rest : List Int) (i N : Nat) (x : Hs07.Call) : Prop where
  hold : Hold H S
  shape : Shape T S s
  bd : Bd N s
  big : N ≤ 400000
  nr : ¬ Own S r
  rd : H r = some (.ins T.cReader dr (rdF ca i))
  seq : LstAt K H S ca (ns.map V.int)
  args : ns.drop i = argsOf x ++ rest
  few : (Hs07.step s x).2.length ≤ 1000000
  len : ns.length ≤ 30000
def spCall (x : Hs07.Call) : Sp := fun vs H Q _ => ∃ (S : Sto) (s : Hs07.St) (r dr ca : Addr) (ns rest : List Int) (i N : Nat), vs = [.ref (S.ad .net), .ref r] ∧ Ahead T H S s r dr ca ns rest i N x ∧
  ∀ H' S' l, After T H S r dr ca (i + (argsOf x).length) N (Hs07.step s x).1 (Hs07.step s x).2 H' S' l → Q (.ref l) H'
abbrev rdAt (T : Env K mg) (H : Hp) (r dr ca : Addr) (i : Nat) : Hp := upd H r (.ins T.cReader dr (rdF ca i))
variable {T} in
theorem Ahead.rdOk {H : Hp} {S : Sto} {s : Hs07.St} {r dr ca : Addr} {ns rest : List Int} {i N : Nat} {x : Hs07.Call} (A : Ahead T H S s r dr ca ns rest i N x) (j : Nat) : Hold (rdAt T H r dr ca j) S ∧ SqL K (rdAt T H r dr ca j) ca (ns.map V.int) ∧ rdAt T H r dr ca j r = some (.ins T.cReader dr (rdF ca j)) :=
  ⟨A.hold.aside A.nr _, sq_ins A.seq.seq A.rd fun c o e n => (upd_ne n).trans e, upd_same⟩
variable {T} in
theorem Ahead.done {H : Hp} {S : Sto} {s : Hs07.St} {r dr ca : Addr} {ns rest : List Int} {i N : Nat} {x : Hs07.Call} (A : Ahead T H S s r dr ca ns rest i N x) {j : Nat} (hj : j = i + (argsOf x).length) {H' : Hp} {S' : Sto} {s' : Hs07.St} {ans : List Int}
    (h : Hold H' S') (fr : Fr (rdAt T H r dr ca j) S H' S') (sh : Shape T S' s') (bd : Bd (N + 6000) s') (net : S'.ad .net = S.ad .net) (hs : Hs07.step s x = (s', ans)) {l : Addr} (hl : H' l = none) :
    After T H S r dr ca (i + (argsOf x).length) N (Hs07.step s x).1 (Hs07.step s x).2 (upd H' l (.lst (ans.map V.int))) S' l := by
  rw [hs, ← hj]
  have rr := fr r _ upd_same A.nr
  have other : ∀ b o, H b = some o → b ≠ r → ¬ Own S b → H' b = some o ∧ ¬ Own S' b := fun b o e n q => fr b o ((upd_ne n).trans e) q
  refine ⟨h.other hl _, sh, bd, net, fun b o e n q => ?_, ?_, rr.2, upd_same, h.notOwn hl, fun b o e q z => ?_⟩
  · obtain ⟨e1, e2⟩ := other b o e n q
    exact ⟨by rw [upd_ne (ne_of_none e1 hl)]; exact e1, e2⟩
  · rw [upd_ne (ne_of_none rr.1 hl)]; exact rr.1
  · subst z
    by_cases hb : b = r
    · subst hb
      rw [rr.1] at hl
      cases hl
    · rw [(other b o e hb q).1] at hl
      cases hl
variable {T} in
theorem Ahead.fin {H : Hp} {S : Sto} {s : Hs07.St} {r dr ca : Addr} {ns rest : List Int} {i N : Nat} {x : Hs07.Call} (A : Ahead T H S s r dr ca ns rest i N x) {j : Nat} (hj : j = i + (argsOf x).length) {H' : Hp} {S' : Sto} {s' : Hs07.St} {ans : List Int}
    (h : Hold H' S') (fr : Fr (rdAt T H r dr ca j) S H' S') (sh : Shape T S' s') (bd : Bd (N + 6000) s') (net : S'.ad .net = S.ad .net) (hs : Hs07.step s x = (s', ans)) {l : Addr} (out : H' l = some (.lst (ans.map V.int))) (nl : ¬ Own S' l) (nw : rdAt T H r dr ca j l = none) :
    After T H S r dr ca (i + (argsOf x).length) N (Hs07.step s x).1 (Hs07.step s x).2 H' S' l := by
  rw [hs, ← hj]
  have rr := fr r _ upd_same A.nr
  refine ⟨h, sh, bd, net, fun b o e n q => fr b o ((upd_ne n).trans e) q, rr.1, rr.2, out, nl, fun b o e q z => ?_⟩
  subst z
  by_cases hb : b = r
  · subst hb
    rw [show rdAt T H b dr ca j b = _ from upd_same] at nw
    cases nw
  · rw [show rdAt T H r dr ca j b = _ from upd_ne hb, e] at nw
    cases nw
theorem Hold.same {H H' : Hp} {S : Sto} (h : Hold H S) (k : Same H H') : Hold H' S := ⟨fun x u q => k _ _ (h.at_ x u q), h.inj, h.imm⟩
theorem Fr.same {H H' : Hp} {S : Sto} (k : Same H H') : Fr H S H' S := fun b o e n => ⟨k b o e, n⟩
variable {T} in
theorem Ahead.same {H : Hp} {S : Sto} {s : Hs07.St} {r dr ca : Addr} {ns rest : List Int} {i N : Nat} {x : Hs07.Call} (A : Ahead T H S s r dr ca ns rest i N x) {j : Nat} (hj : j = i + (argsOf x).length) {ans : List Int} (hs : Hs07.step s x = (s, ans)) {l : Addr} (hl : rdAt T H r dr ca j l = none) :
    After T H S r dr ca (i + (argsOf x).length) N (Hs07.step s x).1 (Hs07.step s x).2 (upd (rdAt T H r dr ca j) l (.lst (ans.map V.int))) S l :=
  A.done hj (A.rdOk j).1 Fr.refl A.shape (A.bd.mono (by omega)) rfl hs hl
def spAnswers : Sp := fun vs H Q _ => ∃ (a : Addr) (ns : List Int), vs = [.ref a] ∧ SqL K H a (ns.map V.int) ∧ ns.length ≤ 30000 ∧ PyHs07.answers_asked ns = true ∧ ∀ (H' : Hp) (p : Addr), H' p = some (.lst ((PyHs07.answers ns).map V.int)) → Q (.ref p) H'
theorem ok_answers (cl : List V) (hcl : ∀ H, SqT K H T.a_CALLS cl)
    (hall : ∀ x : Hs07.Call, ∃ (f : Addr) (fd : FuncData) (ps : List Str), cl[numOf x]? = some (.ref f) ∧ FnOk P w K mg base CX0 12 f fd ps (spCall T x) ∧ Binds K fd ps [] ∧ PySem.W.keepIn K (.ref f) = true) :
    FnOk P w K mg base CX0 14 T.f_answers T.d_answers ["calls"] (spAnswers (K := K)) := by
  refine T.F_answers.ok sc_answers (fun vs H Q E h => ?_) (fun cdv A outer s H vs Q E hr h => ?_)
  · obtain ⟨a, ns, rfl, _⟩ := h
    rfl
  · obtain ⟨a, ns, rfl, hs, h30, hask, k⟩ := h
    obtain ⟨cs, hrest, h60, heq, hlong⟩ := rest_of hask
    refine ⟨_, (pss_cons (ps_set (i := 1) sc_answers.nd rfl (Or.inl rfl) (pe_make T.mk_Net (ok_Net_init T) (hr.mono (by decide)) rfl T.g_Net T.b_Net_init .nil pass0 (pa_cons (pe_gref rfl T.g_FIRST_PURSES) (pa_cons (pe_gref rfl T.g_FIRST_ENDS) pa_nil))))
      (pss_cons (ps_set (i := 2) sc_answers.nd rfl (Or.inl rfl) (pe_make T.mk_Reader (ok_Reader_init T) (hr.mono (by decide)) rfl T.g_Reader T.b_Reader_init .nil pass0 (pa_cons (pv 0) pa_nil)))
      (pss_cons (ps_set (i := 3) sc_answers.nd rfl (Or.inl rfl) (pe_lst pa_nil))
      (pss_cons (ps_while PassesOwn.never (pt_val (pe_meth0 (pv 2) T.c_Reader T.m_Reader_has_more (ok_Reader_has_more T) (hr.mono (by decide)) T.b_Reader_has_more .nil pass0)) (pss_cons (ps_set (i := 4) sc_answers.nd rfl (Or.inl rfl) (pe_ix ix_tup (pe_gref rfl T.g_CALLS) (pe_meth0 (pv 2) T.c_Reader T.m_Reader_read_number (ok_Reader_read_number T) (hr.mono (by decide)) T.b_Reader_read_number .nil pass0) (fun _ _ => rfl)))
      (pss_cons (ps_set (i := 5) sc_answers.nd rfl (Or.inl rfl) (pe_callL (i := 4) (k := 12) (ok := FnAt _ 12) (fun _ _ z => z) (hr.mono (by decide)) (pa_cons (pv 1) (pa_cons (pv 2) pa_nil))))
      (pss_cons (ps_expr (pe_bm PySem.F.plainAttrs_list PySem.F.slot_list_append PySem.F.type_list_append mt_append (pv 3) (pa_cons (pe_callB call_len_seq rfl T.n_len PySem.boot_len (pa_cons (pv 5) pa_nil)) pa_nil)))
      (pss_one (ps_expr (pe_bm PySem.F.plainAttrs_list PySem.F.slot_list_extend PySem.F.type_list_extend mt_extend (pv 3) (pa_cons (pv 5) pa_nil))))))))
      (pss_one (ps_ret (pv 3))))))), ?_⟩
    intro p dp np ndp npd
    refine ⟨p, dp, T.a_FIRST_PURSES, T.a_FIRST_ENDS, [10, 10], [1, 2, 2, 1], rfl, upd_same, .inr (T.s_FIRST_PURSES _), .inr (T.s_FIRST_ENDS _), ⟨by decide, by decide, by decide, by decide⟩, fun H1 S1 hH1 hS1 hn1 old1 => ⟨rfl, ?_⟩⟩
    have old1' : ∀ c o, H c = some o → H1 c = some o ∧ ¬ Own S1 c := fun c o e => old1 c o (by rw [upd_ne (ne_of_none e np), upd_ne (ne_of_none e ndp)]; exact e) (ne_of_none e np)
    have la1 : LstAt K H1 S1 a (ns.map V.int) := by
      rcases hs with (h | ⟨o, h⟩) | h
      · exact .inl ⟨.inl (old1' _ _ h).1, (old1' _ _ h).2⟩
      · exact .inl ⟨.inr ⟨o, (old1' _ _ h).1⟩, (old1' _ _ h).2⟩
      · exact .inr fun _ => .inr h
    rw [show netOf [10, 10] [1, 2, 2, 1] = Hs07.init from rfl] at hS1
    refine ⟨_, rfl, ?_⟩
    intro r dr nr ndr nrd
    refine ⟨r, dr, a, rfl, upd_same, rfl, ?_⟩
    have hH2 : Hold (upd (upd (upd H1 dr (.own r)) r (.ins T.cReader dr [])) r (.ins T.cReader dr (rdF a 0))) S1 := by
      rw [upd_upd]
      exact (hH1.other ndr _).other (by rw [upd_ne nrd.symm]; exact nr) _
    have la2 : LstAt K (upd (upd (upd H1 dr (.own r)) r (.ins T.cReader dr [])) r (.ins T.cReader dr (rdF a 0))) S1 a (ns.map V.int) := by
      rw [upd_upd]
      rcases la1 with ⟨h | ⟨o, h⟩, n⟩ | h
      · exact .inl ⟨.inl (by rw [upd_ne (ne_of_none h nr), upd_ne (ne_of_none h ndr)]; exact h), n⟩
      · exact .inl ⟨.inr ⟨o, by rw [upd_ne (ne_of_none h nr), upd_ne (ne_of_none h ndr)]; exact h⟩, n⟩
      · exact .inr h
    have hr2 : upd (upd (upd H1 dr (.own r)) r (.ins T.cReader dr [])) r (.ins T.cReader dr (rdF a 0)) r = some (.ins T.cReader dr (rdF a 0)) := upd_same
    have or2 : ¬ Own S1 r := hH1.notOwn nr
    generalize upd (upd (upd H1 dr (.own r)) r (.ins T.cReader dr [])) r (.ins T.cReader dr (rdF a 0)) = H2 at *
    refine ⟨Nat.zero_le _, fun g hg => ?_⟩
    have rg : r ≠ g := ne_of_none hr2 hg
    have ag : a ≠ g ∨ ∀ H' : Hp, SqL K H' a (ns.map V.int) := by
      rcases la2 with ⟨h | ⟨o, h⟩, n⟩ | h
      · exact .inl (ne_of_none h hg)
      · exact .inl (ne_of_none h hg)
      · exact .inr h
    refine ⟨fun m σ H' => ∃ (v4 v5 : Option V) (S : Sto) (s : Hs07.St) (i d : Nat) (G : List Int) (cs : List (List (List Int))), m = ns.length - i ∧ σ = [some (.ref a), some (.ref p), some (.ref r), some (.ref g), v4, v5] ∧ Hold H' S ∧ Shape T S s ∧ Bd (6000 * d) s ∧ S.ad .net = p ∧ ¬ Own S r ∧
      H' r = some (.ins T.cReader dr (rdF a i)) ∧ LstAt K H' S a (ns.map V.int) ∧ H' g = some (.lst (G.map V.int)) ∧ ¬ Own S g ∧ Rest (ns.drop i) s cs ∧ d + cs.length ≤ 60 ∧ PyHs07.answers ns = G ++ tells s cs,
      ⟨_, none, none, S1, Hs07.init, 0, 0, [], cs, rfl, rfl, hH2.other hg _, hS1, ⟨by decide, by decide⟩, hn1, or2, by rw [upd_ne rg]; exact hr2, ?_, upd_same, hH2.notOwn hg, hrest, by omega, heq⟩, ?_⟩
    · rcases la2 with ⟨h | ⟨o, h⟩, n⟩ | h
      · exact .inl ⟨.inl (by rw [upd_ne (ne_of_none h hg)]; exact h), n⟩
      · exact .inl ⟨.inr ⟨o, by rw [upd_ne (ne_of_none h hg)]; exact h⟩, n⟩
      · exact .inr h
    rintro m σ H' ⟨v4, v5, S, s, i, d, G, cs, rfl, rfl, hH, hS, hB, hn, nor, hrd, la, hgl, nog, hR, hd, hE⟩
    refine ⟨_, rfl, r, dr, _, rfl, hrd, rfl, r, dr, a, i, ns, rfl, hrd, la.seq, _, rfl, ite2 (fun hi => ?_) (fun hi => ?_)⟩
    · have hi' : i < ns.length := of_decide_eq_true hi
      obtain ⟨z, rt, ed⟩ : ∃ z rt, ns.drop i = z :: rt := ⟨_, _, List.drop_eq_getElem_cons hi'⟩
      obtain ⟨ez, et, _⟩ := drop_get ed
      rw [ed] at hR
      obtain ⟨x, t, cs', e1, e2, hR', hlen, hT, hfew⟩ := hR.cons
      obtain ⟨f, fd, fps, hf, hF, hFb, hFk⟩ := hall x
      refine ⟨fun σ' H'' => ∃ m', m' < ns.length - i ∧ _, fun σ' H'' z => z, ?_⟩
      refine ⟨_, rfl, r, dr, _, rfl, hrd, rfl, r, dr, a, i, ns, z, rfl, hrd, la.seq, ez, _, _, _, _, rfl, rfl, hcl _, at_of (j := numOf x) e1 hf, ?_⟩
      have hH1 := hH.aside nor (.ins T.cReader dr (rdF a (i + 1)))
      have la1 : LstAt K (upd H' r (.ins T.cReader dr (rdF a (i + 1)))) S a (ns.map V.int) := la.go hrd fun c o e n q => ⟨by rw [upd_ne n]; exact e, q⟩
      have rd1 : upd H' r (.ins T.cReader dr (rdF a (i + 1))) r = some (.ins T.cReader dr (rdF a (i + 1))) := upd_same
      have gl1 : upd H' r (.ins T.cReader dr (rdF a (i + 1))) g = some (.lst (G.map V.int)) := by rw [upd_ne rg.symm]; exact hgl
      generalize upd H' r (.ins T.cReader dr (rdF a (i + 1))) = H1' at *
      refine ⟨f, spCall T x, rfl, ⟨⟨fd, fps, hF, hFb⟩, hFk⟩, _, rfl, _, rfl, S, s, r, dr, a, ns, t, i + 1, 6000 * d, by rw [hn], ⟨hH1, hS, hB, by omega, nor, rd1, la1, by rw [et, e2], hfew, h30⟩, fun H2' S2 l A => ?_⟩
      have gl2 := A.fr g _ gl1 rg.symm nog
      have lg : g ≠ l := A.new g _ gl1 nog
      have hL : (PyHs07.answers ns).length = G.length + (1 + ((Hs07.step s x).2.length + (tells (Hs07.step s x).1 cs').length)) := by
        rw [hE, hT]
        simp
        omega
      have line : 10000000 < sizeLine := by decide
      refine ⟨_, rfl, .inl ⟨rfl, _, SqL.of gl2.1⟩, _, rfl, _, _, rfl, .inl (SqL.of A.out), _, _, _, rfl, rfl, gl2.1, ?_, ?_⟩
      · rw [List.length_map]; omega
      refine ⟨_, rfl, .inl ⟨rfl, _, SqL.of upd_same⟩, _, rfl, _, _, _, _, rfl, rfl, upd_same, (by rw [upd_ne lg.symm]; exact A.out), ?_, ?_⟩
      · simp
        omega
      refine ⟨_, ?_, _, _, S2, (Hs07.step s x).1, i + 1 + (argsOf x).length, d + 1, G ++ ((Hs07.step s x).2.length : Int) :: (Hs07.step s x).2, cs', rfl, rfl, ?_, A.shape, ?_, ?_, A.nr, ?_, ?_, ?_, gl2.2, ?_, by omega, ?_⟩
      · omega
      · rw [upd_upd]; exact A.hold.aside gl2.2 _
      · have := A.bd
        rw [show 6000 * (d + 1) = 6000 * d + 6000 by omega]
        exact this
      · rw [A.net, hn]
      · rw [upd_upd, upd_ne rg]; exact A.rd
      · rw [upd_upd]
        have la2 := la1.go rd1 A.fr
        rcases ag with ag | ag
        · rcases la2 with ⟨h | ⟨o, h⟩, n⟩ | h
          · exact .inl ⟨.inl (by rw [upd_ne ag]; exact h), n⟩
          · exact .inl ⟨.inr ⟨o, by rw [upd_ne ag]; exact h⟩, n⟩
          · exact .inr h
        · exact .inr ag
      · rw [upd_upd, upd_same]
        simp
      · rw [← List.drop_drop, et, e2, List.drop_left']
        · exact hR'
        · rfl
      · rw [hE, hT]
        simp
    · have hi' : ¬ i < ns.length := fun z => hi (decide_eq_true z)
      rw [List.drop_eq_nil_of_le (by omega)] at hR
      have e := hR.nil
      subst e
      have e2 : PyHs07.answers ns = G := by rw [hE]; exact List.append_nil _
      refine ⟨_, rfl, k H' g ?_⟩
      rw [e2]
      exact hgl
end
end Cp

namespace Cp
open Hs07 in
theorem step_net (s : Hs07.St) (a b : List Nat) : Hs07.step s (.net a b) = (match netBad a b with | some e => (s, [e]) | none => (fresh a (pairs (b.map fun e => e - 1)), Hs07.ints [b.length / 2])) := rfl
open Hs07 in
theorem step_put (s : Hs07.St) (c coins hops : Nat) : Hs07.step s (.put c coins hops) = if isChan s c = false then (s, [-1]) else if (proc s (source s (c - 1))).down = true then (s, [-6]) else if 3 < hops then (s, [-2])
    else if (proc s (source s (c - 1))).purse < coins then (s, [-3]) else (putting s (c - 1) coins hops, Hs07.ints [(proc s (source s (c - 1))).purse - coins]) := rfl
open Hs07 in
theorem step_take (s : Hs07.St) (c : Nat) : Hs07.step s (.take c) = if isChan s c = false then (s, [-1]) else if (proc s (target s (c - 1))).down = true then (s, [-6]) else if (items s (c - 1)).isEmpty = true then (s, [-5]) else (taking s (c - 1), Hs07.ints (takeTold s (c - 1))) := rfl
open Hs07 in
theorem step_turns (s : Hs07.St) (t : Nat) : Hs07.step s (.turns t) = if 20 < t then (s, [-2]) else ((rounds t s).1, Hs07.ints [(rounds t s).2]) := rfl
open Hs07 in
theorem step_cut (s : Hs07.St) (ps : List Nat) : Hs07.step s (.cut ps) = if ps.isEmpty = true ∨ ps.all (isProc s) = false ∨ distinct ps = false then (s, [-1]) else if ps.any (fun p => (proc s (p - 1)).down) = true then (s, [-6]) else if 8 ≤ s.pics.length then (s, [-7])
    else (cutting s (ps.map fun p => p - 1), Hs07.ints [s.last + 1]) := rfl
open Hs07 in
theorem step_join (s : Hs07.St) (k p : Nat) : Hs07.step s (.join k p) = (match picOf s k with | none => (s, [-1]) | some x => if isProc s p = false then (s, [-1]) else if (proc s (p - 1)).down = true then (s, [-6]) else (recordsFor s k (p - 1), Hs07.ints [if hasDone x (p - 1) = true then 0 else 1])) := rfl
open Hs07 in
theorem step_picture (s : Hs07.St) (k : Nat) : Hs07.step s (.picture k) = (s, match picOf s k with | none => [-1] | some x => if isWhole x = true then Hs07.ints (1 :: picTold x) else [0]) := rfl
open Hs07 in
theorem step_lacks (s : Hs07.St) (k : Nat) : Hs07.step s (.lacks k) = (s, match picOf s k with | none => [-1] | some x => Hs07.ints ((places (x.has.map Option.isNone)).length :: places (x.has.map Option.isNone) ++ (places (x.shut.map fun b => !b)).length :: places (x.shut.map fun b => !b))) := rfl
open Hs07 in
theorem step_count (s : Hs07.St) (k : Nat) : Hs07.step s (.count k) = (s, match picOf s k with | none => [-1] | some x => Hs07.ints [x.before, s.deeds]) := rfl
open Hs07 in
theorem step_fall (s : Hs07.St) (p : Nat) : Hs07.step s (.fall p) = if isProc s p = false then (s, [-1]) else if (proc s (p - 1)).down = true then (s, [-6]) else (setProc s (p - 1) ⟨0, 0, true⟩, Hs07.ints [(proc s (p - 1)).purse]) := rfl
open Hs07 in
theorem step_back (s : Hs07.St) (k : Nat) : Hs07.step s (.back k) = (match picOf s k with | none => (s, [-1]) | some x => if isWhole x = false then (s, [-8]) else (asNet s x, Hs07.ints [coinsOf x])) := rfl
open Hs07 in
theorem step_drop (s : Hs07.St) (k : Nat) : Hs07.step s (.drop k) = (match picOf s k with | none => (s, [-1]) | some _ => ({ s with pics := s.pics.filter fun x => x.number != k }, Hs07.ints [s.pics.length - 1])) := rfl
open Hs07 in
theorem step_shows (s : Hs07.St) : Hs07.step s .shows = (s, Hs07.ints (s.procs.flatMap fun x => [x.purse, x.memory, if x.down = true then 1 else 0])) := rfl
open Hs07 in
theorem step_channel (s : Hs07.St) (c : Nat) : Hs07.step s (.channel c) = (s, if isChan s c = false then [-1] else Hs07.ints ((items s (c - 1)).length :: (items s (c - 1)).flatMap itemTold)) := rfl
open Hs07 in
theorem step_total (s : Hs07.St) : Hs07.step s .total = (s, Hs07.ints [inPurses s, onChannels s]) := rfl
open Hs07 in
theorem step_newest (s : Hs07.St) : Hs07.step s .newest = (s, Hs07.ints [(s.pics.filter isWhole).foldl (fun n x => max n x.number) 0]) := rfl
end Cp

set_option Elab.async false
set_option linter.all false
set_option maxRecDepth 100000
set_option maxHeartbeats 2000000
namespace Cp
open PySem PySem.Spec PyProof.Rows L2
theorem isProc_dec (s : Hs07.St) (p : Nat) : decide (1 ≤ (p : Int) ∧ (p : Int) ≤ s.procs.length) = Hs07.isProc s p := by
  unfold Hs07.isProc
  rw [Bool.eq_iff_iff]
  simp
  omega
theorem isChan_dec (s : Hs07.St) (p : Nat) : decide (1 ≤ (p : Int) ∧ (p : Int) ≤ s.chans.length) = Hs07.isChan s p := by
  unfold Hs07.isChan
  rw [Bool.eq_iff_iff]
  simp
  omega
theorem isProc_is {s : Hs07.St} {p : Nat} (h : Hs07.isProc s p = true) : ∃ q, p = q + 1 ∧ q < s.procs.length := by
  unfold Hs07.isProc at h
  simp at h
  exact ⟨p - 1, by omega, by omega⟩
theorem isChan_is {s : Hs07.St} {p : Nat} (h : Hs07.isChan s p = true) : ∃ q, p = q + 1 ∧ q < s.chans.length := by
  unfold Hs07.isChan at h
  simp at h
  exact ⟨p - 1, by omega, by omega⟩
theorem upd_rd {H : Hp} {r : Addr} {o u : HO} : upd (upd H r o) r u = upd H r u := upd_upd
section
variable {P : Program} {w : World} {K : PySem.W.Frag} {mg : Str → Option Value} {base : Heap} (T : Env K mg)
def spA_join : Sp := fun vs H Q E => ∃ k p : Nat, spCall T (.join k p) vs H Q E
theorem ok_answer_join : FnOk P w K mg base CX0 12 T.f_answer_join T.d_answer_join ["net", "reader"] (spA_join T) := by
  refine T.F_answer_join.ok sc_answer_join (fun vs H Q E h => ?_) (fun cdv A outer s H vs Q E hr h => ?_)
  · obtain ⟨k, p, S, s, r, dr, ca, ns, rest, i, N, rfl, _⟩ := h
    rfl
  · obtain ⟨k, p, S, s, r, dr, ca, ns, rest, i, N, rfl, B, kk⟩ := h
    refine ⟨_, (pss_cons (ps_set (i := 2) sc_answer_join.nd rfl (Or.inl rfl) (pe_meth0 (pv 1) T.c_Reader T.m_Reader_read_number (ok_Reader_read_number T) (hr.mono (by decide)) T.b_Reader_read_number .nil pass0))
      (pss_cons (ps_set (i := 3) sc_answer_join.nd rfl (Or.inl rfl) (pe_meth0 (pv 1) T.c_Reader T.m_Reader_read_number (ok_Reader_read_number T) (hr.mono (by decide)) T.b_Reader_read_number .nil pass0))
      (pss_cons (ps_if ((pw_or (pt_not (pt_val (pe_meth (pv 0) T.c_Net T.m_Net_has_picture (ok_Net_has_picture T) (hr.mono (by decide)) T.b_Net_has_picture .nil pass0 (pa_cons (pv 2) pa_nil)))) (pw_or1 (pt_not (pt_val (pe_meth (pv 0) T.c_Net T.m_Net_has_process (ok_Net_has_process T) (hr.mono (by decide)) T.b_Net_has_process .nil pass0 (pa_cons (pv 3) pa_nil))))))).pt (pss_one (ps_ret (pe_lst (pa_cons (pe_un un_neg pe_int) pa_nil)))) pss_nil)
      (pss_cons (ps_if (pt_val (pe_fld (pe_meth (pv 0) T.c_Net T.m_Net_process (ok_Net_process T) (hr.mono (by decide)) T.b_Net_process .nil pass0 (pa_cons (pv 3) pa_nil)) rfl)) (pss_one (ps_ret (pe_lst (pa_cons (pe_un un_neg pe_int) pa_nil)))) pss_nil)
      (pss_one (ps_ret (pe_lst (pa_cons (pe_ifExp (pt_val (pe_meth (pv 0) T.c_Net T.m_Net_record_once (ok_Net_record_once T) (hr.mono (by decide)) T.b_Net_record_once .nil pass0 (pa_cons (pv 2) (pa_cons (pv 3) pa_nil)))) pe_int pe_int) pa_nil)))))))), ?_⟩
    have hd : ns.drop i = (k : Int) :: (p : Int) :: rest := B.args
    obtain ⟨g1, g2, _⟩ := drop_get hd
    obtain ⟨g3, g4, _⟩ := drop_get g2
    have hk : spCall T (.join k p) [.ref (S.ad .net), .ref r] H Q E := ⟨S, s, r, dr, ca, ns, rest, i, N, rfl, B, kk⟩
    refine ⟨_, rfl, r, dr, _, rfl, B.rd, rfl, r, dr, ca, i, ns, _, rfl, B.rd, B.seq.seq, g1, ?_⟩
    obtain ⟨_, q1, q2⟩ := B.rdOk (i + 1)
    refine ⟨_, rfl, r, dr, _, rfl, q2, rfl, r, dr, ca, i + 1, ns, _, rfl, q2, q1, g3, ?_⟩
    refine hp_eq upd_upd ?_
    obtain ⟨hH, _, _⟩ := B.rdOk (i + 1 + 1)
    have hS := B.shape
    obtain ⟨dn, en⟩ := hS.net
    have gn := hH.at_ _ _ en
    have line : 1000000 < sizeLine := by decide
    have one : ∀ e : Int, Hs07.step s (.join k p) = (s, [e]) → ∀ l, rdAt T H r dr ca (i + 1 + 1) l = none → Q (.ref l) (upd (rdAt T H r dr ca (i + 1 + 1)) l (.lst [.int e])) := fun e he l hl => kk _ _ l (B.same rfl he hl)
    refine ⟨_, rfl, _, dn, _, rfl, gn, rfl, _, rfl, S, s, k, rfl, hH, hS, _, rfl, ite2 (fun h1 => ?_) (fun h1 => ?_)⟩
    · have h1' : Hs07.picOf s k = none := by simpa using h1
      refine iteT ?_
      refine ⟨_, rfl, (by show 1 ≤ sizeLine; decide), fun l hl => one (-1) ?_ l hl⟩
      rw [step_join, h1']
    obtain ⟨x, hx⟩ : ∃ x, Hs07.picOf s k = some x := by
      cases q : Hs07.picOf s k with
      | none => rw [q] at h1; exact absurd rfl h1
      | some x => exact ⟨x, rfl⟩
    obtain ⟨rfl, j, hj⟩ := picOf_ix hx
    refine ⟨_, rfl, _, dn, _, rfl, gn, rfl, _, rfl, S, s, p, rfl, hH, hS, _, rfl, ?_⟩
    rw [isProc_dec]
    refine ite2 (fun h2 => ?_) (fun h2 => ?_)
    · have h2' : Hs07.isProc s p = false := by simpa using h2
      refine ⟨_, rfl, (by show 1 ≤ sizeLine; decide), fun l hl => one (-1) ?_ l hl⟩
      rw [step_join]
      simp only [hx, h2', if_true]
    have h2' : Hs07.isProc s p = true := by simpa using h2
    obtain ⟨q, rfl, hq⟩ := isProc_is h2'
    obtain ⟨dq, eq⟩ := hS.proc _ _ (proc_of hq)
    refine ⟨_, rfl, _, dn, _, rfl, gn, rfl, _, rfl, S, s, q, ?_, hH, hS.sk, hq, _, T.cProcess, dq, _, _, rfl, hH.at_ _ _ eq, T.c_Process, T.n_Process_down, rfl, _, rfl, ite2 (fun h3 => ?_) (fun h3 => ?_)⟩
    · rfl
    · refine ⟨_, rfl, (by show 1 ≤ sizeLine; decide), fun l hl => one (-6) ?_ l hl⟩
      rw [step_join]
      simp only [hx, h2', Nat.add_sub_cancel]
      rw [if_neg (by decide), if_pos h3]
    have h3' : (Hs07.proc s q).down = false := by simpa using h3
    have hst : Hs07.step s (.join x.number (q + 1)) = (Hs07.recordsFor s x.number q, [if Hs07.hasDone x q = true then 0 else 1]) := by
      rw [step_join]
      simp only [hx, h2', Nat.add_sub_cancel, h3']
      rw [if_neg (by decide), if_neg (by decide)]
      unfold Hs07.ints
      by_cases hdn : Hs07.hasDone x q = true <;> simp [hdn]
    refine ⟨_, rfl, _, dn, _, rfl, gn, rfl, _, rfl, _, rfl, S, s, j, q, N, x, rfl, hH, hS, hj, hq, B.bd, by have := B.big; omega, fun H' S' g b => ?_⟩
    have fin : ∀ l, H' l = none → Q (.ref l) (upd H' l (.lst [.int (if Hs07.hasDone x q = true then 0 else 1)])) := fun l hl => kk _ _ l (B.done rfl g.hold g.fr g.shape (b.mono (by omega)) (by rw [g.ad]) hst hl)
    refine ⟨_, rfl, ite2 (fun h4 => ?_) (fun h4 => ?_)⟩
    · have h4' : Hs07.hasDone x q = false := by simpa using h4
      rw [h4', if_neg (by decide)] at fin
      exact ⟨(by show 1 ≤ sizeLine; decide), fin⟩
    · have h4' : Hs07.hasDone x q = true := by simpa using h4
      rw [h4', if_pos rfl] at fin
      exact ⟨(by show 1 ≤ sizeLine; decide), fin⟩
end
end Cp

set_option Elab.async false
set_option linter.all false
set_option maxRecDepth 100000
set_option maxHeartbeats 2000000
namespace Cp
open PySem PySem.Spec PyProof.Rows L2
def vi (l : List Nat) : List V := l.map fun (n : Nat) => V.int (n : Int)
theorem vi_len (l : List Nat) : (vi l).length = l.length := List.length_map ..
theorem vi_app (a b : List Nat) : vi (a ++ b) = vi a ++ vi b := List.map_append ..
theorem vi_ints (l : List Nat) : (Hs07.ints l).map V.int = vi l := by
  unfold Hs07.ints vi
  rw [List.map_map]
  rfl
theorem flat_take {α β : Type} (f : α → List β) (l : List α) (i : Nat) : ((l.take i).flatMap f).length ≤ (l.flatMap f).length := by
  have e : l.flatMap f = (l.take i).flatMap f ++ (l.drop i).flatMap f := by rw [← List.flatMap_append, List.take_append_drop]
  rw [e, List.length_append]
  omega
theorem take_snoc' {α : Type} {l : List α} {i : Nat} {x : α} (h : l[i]? = some x) : l.take (i + 1) = l.take i ++ [x] := by
  rw [List.take_add_one, h]
  rfl
theorem flat_snoc {α β : Type} (f : α → List β) {l : List α} {i : Nat} {x : α} (h : l[i]? = some x) : (l.take (i + 1)).flatMap f = (l.take i).flatMap f ++ f x := by
  rw [take_snoc' h, List.flatMap_append]
  simp
theorem map_get {α β : Type} {f : α → β} {l : List α} {i : Nat} {y : β} (h : (l.map f)[i]? = some y) : ∃ x, l[i]? = some x ∧ f x = y := by
  rw [List.getElem?_map] at h
  cases q : l[i]? with
  | none => rw [q] at h; cases h
  | some x => rw [q] at h; exact ⟨x, rfl, Option.some.inj h⟩
abbrev hasT (y : Option (Nat × Nat)) : List Nat := [(y.getD (0, 0)).1, (y.getD (0, 0)).2]
abbrev cameT (l : List Hs07.Msg) : List Nat := l.length :: l.flatMap Hs07.msgTold
section
variable {P : Program} {w : World} {K : PySem.W.Frag} {mg : Str → Option Value} {base : Heap} (T : Env K mg)
def sptell_picture : Sp := fun vs H Q _ => ∃ (S : Sto) (x : Hs07.Pic), vs = [.ref (S.ad (.pic x.number))] ∧ Hold H S ∧ PicAt T S x ∧ x.has.length ≤ 8 ∧ x.came.length ≤ 16 ∧ x.has.all Option.isSome = true ∧ (Hs07.picTold x).length < 1000000 ∧
  ∀ H' l, Same H H' → H l = none → H' l = some (.lst (vi (1 :: Hs07.picTold x))) → Q (.ref l) H'
theorem ok_tell_picture : FnOk P w K mg base CX0 1 T.f_tell_picture T.d_tell_picture ["picture"] (sptell_picture T) := by
  refine T.F_tell_picture.ok sc_tell_picture (fun vs H Q E h => ?_) (fun cdv A outer s H vs Q E hr h => ?_)
  · obtain ⟨S, x, rfl, _⟩ := h
    rfl
  · obtain ⟨S, x, rfl, hH, hP, h8, h16, hall, hlen, k⟩ := h
    have hu := hu_of hr
    obtain ⟨dq, eq⟩ := hP.pic
    obtain ⟨kr, er, hR⟩ := hP.recs
    refine ⟨_, (pss_cons (ps_set (i := 1) sc_tell_picture.nd rfl (Or.inl rfl) (pe_lst (pa_cons pe_int pa_nil)))
      (pss_cons (ps_for PassesOwn.never rfl (pi_range2 rfl T.n_range (pa_cons pe_int (pa_cons (pe_op op_add (pe_fld (pv 0) rfl) pe_int) pa_nil))) (pg_name (i := 2) sc_tell_picture.nd rfl (Or.inl rfl)) (pss_one (ps_expr (pe_bm PySem.F.plainAttrs_list PySem.F.slot_list_extend PySem.F.type_list_extend mt_extendT (pv 1) (pa_cons (pe_dget hu (pe_fld (pv 0) rfl) (pv 2) (fun _ _ => rfl)) pa_nil)))))
      (pss_cons (ps_for PassesOwn.never rfl (pi_list (pe_fld (pv 0) rfl)) (pg_name (i := 3) sc_tell_picture.nd rfl (Or.inl rfl)) (pss_cons (ps_expr (pe_bm PySem.F.plainAttrs_list PySem.F.slot_list_append PySem.F.type_list_append mt_append (pv 1) (pa_cons (pe_callB call_len_seq rfl T.n_len PySem.boot_len (pa_cons (pv 3) pa_nil)) pa_nil)))
      (pss_one (ps_for PassesOwn.never rfl (pi_list (pv 3)) (pg_name (i := 4) sc_tell_picture.nd rfl (Or.inl rfl)) (pss_one (ps_expr (pe_bm PySem.F.plainAttrs_list PySem.F.slot_list_extend PySem.F.type_list_extend mt_extend (pv 1) (pa_cons (pe_lst (pa_cons (pe_fld (pv 4) rfl) (pa_cons (pe_fld (pv 4) rfl) (pa_cons (pe_fld (pv 4) rfl) pa_nil)))) pa_nil))))))))
      (pss_one (ps_ret (pv 1)))))), ?_⟩
    have line : 2000000 < sizeLine := by decide
    have hL : (Hs07.picTold x).length = (x.has.flatMap hasT).length + (x.came.flatMap cameT).length := by
      unfold Hs07.picTold
      rw [List.length_append]
    refine ⟨(by show 1 ≤ sizeLine; decide), fun l hl => ?_⟩
    have s0 : Same H (upd H l (.lst [.int 1])) := fun b o e => by rw [upd_ne (ne_of_none e hl)]; exact e
    refine ⟨_, rfl, _, T.cPicture, dq, _, _, rfl, s0 _ _ (hH.at_ _ _ eq), T.c_Picture, T.n_Picture_process_count, rfl, _, _, rfl, rfl, _, _, rfl, ⟨by decide, by decide, by omega, by omega⟩, ?_⟩
    rw [show (((x.has.length : Nat) : Int) + 1 - 1).toNat = x.has.length by omega]
    refine for_range (lo := 1) (n := x.has.length) (fun i σ H' => ∃ v : Option V, σ = [some (.ref (S.ad (.pic x.number))), some (.ref l), v, none, none] ∧ Same H H' ∧ H' l = some (.lst (vi (1 :: (x.has.take i).flatMap hasT)))) ⟨none, rfl, s0, upd_same⟩ ?_ ?_
    · rintro i σ H' hi ⟨v, rfl, sm, hl'⟩
      have ex : x.has[i]? = some x.has[i] := List.getElem?_eq_getElem hi
      obtain ⟨a, b, t, e1, e2, e3⟩ : ∃ a b t, x.has[i] = some (a, b) ∧ valV kr (.inl ((i : Int) + 1)) = some (.ref t) ∧ S.ob (.imm t) = some (.tup [.int (a : Nat), .int (b : Nat)]) := by
        rcases hR.val i _ ex with z | z
        · have q := List.all_eq_true.mp hall _ (List.mem_of_getElem? ex)
          rw [z.1] at q
          cases q
        · exact z
      have gt := hH.at_ _ _ e3
      rw [hH.imm] at gt
      rw [show (1 : Int) + ((i : Nat) : Int) = ((i : Nat) : Int) + 1 by omega]
      refine ⟨_, rfl, .inl ⟨rfl, _, SqL.of hl'⟩, _, rfl, _, T.cPicture, dq, _, _, rfl, sm _ _ (hH.at_ _ _ eq), T.c_Picture, T.n_Picture_records, rfl, _, rfl, _, _, rfl, dget_of (k := Sum.inl ((i : Int) + 1)) (sm _ _ (hH.at_ _ _ er)) e2, _, _, _, _, rfl, rfl, hl', sm _ _ gt, ?_, ?_⟩
      · rw [vi_len]
        have := flat_take hasT x.has i
        simp only [List.length_cons, List.length_nil]
        omega
      · refine ⟨_, rfl, fun c o e => by rw [upd_ne (ne_of_none e hl)]; exact sm c o e, ?_⟩
        rw [upd_same, flat_snoc hasT ex, e1, ← List.cons_append, vi_app]
        rfl
    rintro σ H1 ⟨v, rfl, s1, hl1⟩
    rw [List.take_length] at hl1
    refine ⟨_, rfl, _, T.cPicture, dq, _, _, rfl, s1 _ _ (hH.at_ _ _ eq), T.c_Picture, T.n_Picture_caught, rfl, _, rfl, ⟨_, SqL.of (s1 _ _ (hH.at_ _ _ hP.caught))⟩, for_list (K := K) (a := S.ad (.caught x.number)) (xs := (List.range x.came.length).map fun c => V.ref (S.ad (.cl x.number c)))
      (fun i σ H' => ∃ v3 v4 : Option V, σ = [some (.ref (S.ad (.pic x.number))), some (.ref l), v, v3, v4] ∧ Same H H' ∧ H' l = some (.lst (vi (1 :: (x.has.flatMap hasT ++ (x.came.take i).flatMap cameT))))) ⟨none, none, rfl, s1, ?_⟩ ?_ ?_ ?_⟩
    · simpa using hl1
    · rintro i σ H' hi ⟨v3, v4, rfl, sm, hl'⟩
      exact SqL.of (sm _ _ (hH.at_ _ _ hP.caught))
    · rintro i y σ H' hy ⟨v3, v4, rfl, sm, hl'⟩
      obtain ⟨c, hc, rfl⟩ := map_get hy
      have hci : c = i ∧ i < x.came.length := by
        rw [List.getElem?_eq_some_iff] at hc
        obtain ⟨h1, h2⟩ := hc
        simp at h1 h2
        exact ⟨h2.symm, h1⟩
      obtain ⟨rfl, hi⟩ := hci
      have ex : x.came[c]? = some x.came[c] := List.getElem?_eq_getElem hi
      obtain ⟨as, ea, hM⟩ := hP.cl c _ ex
      have hpre := flat_take cameT x.came (c + 1)
      rw [flat_snoc cameT ex, List.length_append] at hpre
      generalize x.came[c] = ms at *
      have hml : ms.length ≤ (ms.flatMap Hs07.msgTold).length := by
        clear hpre hM ex
        induction ms with
        | nil => simp
        | cons m r ih =>
          have h3 : (Hs07.msgTold m).length = 3 := rfl
          rw [List.flatMap_cons, List.length_append, List.length_cons]
          omega
      simp only [List.length_cons] at hpre
      refine ⟨_, rfl, .inl ⟨rfl, _, SqL.of hl'⟩, _, rfl, _, _, rfl, .inl (SqL.of (sm _ _ (hH.at_ _ _ ea))), _, _, _, rfl, rfl, hl', ?_, ?_⟩
      · rw [vi_len]
        simp only [List.length_cons, List.length_append]
        omega
      have s2 : Same H (upd H' l (.lst (vi (1 :: (x.has.flatMap hasT ++ (x.came.take c).flatMap cameT)) ++ [.int ((as.map V.ref).length : Int)]))) := fun b o e => by rw [upd_ne (ne_of_none e hl)]; exact sm b o e
      refine ⟨_, rfl, _, rfl, ⟨_, SqL.of (s2 _ _ (hH.at_ _ _ ea))⟩, for_list (K := K) (a := S.ad (.cl x.number c)) (xs := as.map V.ref)
        (fun j σ H'' => ∃ v4 : Option V, σ = [some (.ref (S.ad (.pic x.number))), some (.ref l), v, some (.ref (S.ad (.cl x.number c))), v4] ∧ Same H H'' ∧ H'' l = some (.lst (vi (1 :: (x.has.flatMap hasT ++ (x.came.take c).flatMap cameT) ++ ms.length :: (ms.take j).flatMap Hs07.msgTold)))) ⟨v4, rfl, s2, ?_⟩ ?_ ?_ ?_⟩
      · rw [upd_same, List.length_map, Paired.length hM, vi_app]
        rfl
      · rintro j σ H'' hj ⟨v4', rfl, sm', hl''⟩
        exact SqL.of (sm' _ _ (hH.at_ _ _ ea))
      · rintro j y σ H'' hy ⟨v4', rfl, sm', hl''⟩
        obtain ⟨a, ha, rfl⟩ := map_get hy
        have hj : j < ms.length := by
          rw [← Paired.length hM]
          exact (List.getElem?_eq_some_iff.mp ha).1
        have exm : ms[j]? = some ms[j] := List.getElem?_eq_getElem hj
        obtain ⟨a', ha', da, ema⟩ := Cp.Paired.get hM exm
        rw [ha] at ha'
        cases ha'
        have gm := hH.at_ _ _ ema
        rw [hH.imm] at gm
        have hpre2 := flat_take Hs07.msgTold ms (j + 1)
        rw [flat_snoc Hs07.msgTold exm, List.length_append] at hpre2
        have hsn := flat_snoc Hs07.msgTold exm
        generalize ms[j] = m at *
        refine ⟨_, rfl, .inl ⟨rfl, _, SqL.of hl''⟩, _, rfl, _, T.cMessage, da, _, _, rfl, sm' _ _ gm, T.c_Message, T.n_Message_coins, rfl, _, rfl, _, T.cMessage, da, _, _, rfl, sm' _ _ gm, T.c_Message, T.n_Message_memory, rfl, _, rfl, _, T.cMessage, da, _, _, rfl, sm' _ _ gm, T.c_Message, T.n_Message_hops, rfl, (by show 3 ≤ sizeLine; decide), fun q hq => ?_⟩
        have lq : l ≠ q := ne_of_none hl'' hq
        refine ⟨_, _, _, _, rfl, rfl, (by rw [upd_ne lq]; exact hl''), upd_same, ?_, ?_⟩
        · rw [vi_len]
          have h3 : (Hs07.msgTold m).length = 3 := rfl
          rw [h3] at hpre2
          simp only [List.length_cons, List.length_append, List.length_nil]
          omega
        · refine ⟨_, rfl, fun b o e => ?_, ?_⟩
          · rw [upd_ne (ne_of_none e hl), upd_ne (ne_of_none (sm' b o e) hq)]; exact sm' b o e
          · rw [upd_same, hsn]
            simp [vi, Hs07.msgTold]
      · rintro σ H'' ⟨v4', rfl, sm', hl''⟩
        refine ⟨_, _, rfl, sm', ?_⟩
        rw [List.length_map, Paired.length hM, List.take_length] at hl''
        rw [flat_snoc cameT ex, hl'']
        simp
    · rintro σ H' ⟨v3, v4, rfl, sm, hl'⟩
      rw [List.length_map, List.length_range, List.take_length] at hl'
      exact ⟨_, rfl, k H' l sm hl hl'⟩
end
end Cp

set_option Elab.async false
set_option linter.all false
set_option maxRecDepth 100000
set_option maxHeartbeats 2000000
namespace Cp
open PySem PySem.Spec PyProof.Rows L2
section
variable {P : Program} {w : World} {K : PySem.W.Frag} {mg : Str → Option Value} {base : Heap} (T : Env K mg)
def spA_picture : Sp := fun vs H Q E => ∃ k : Nat, spCall T (.picture k) vs H Q E
theorem ok_answer_picture : FnOk P w K mg base CX0 12 T.f_answer_picture T.d_answer_picture ["net", "reader"] (spA_picture T) := by
  refine T.F_answer_picture.ok sc_answer_picture (fun vs H Q E h => ?_) (fun cdv A outer s H vs Q E hr h => ?_)
  · obtain ⟨k, S, s, r, dr, ca, ns, rest, i, N, rfl, _⟩ := h
    rfl
  · obtain ⟨k, S, s, r, dr, ca, ns, rest, i, N, rfl, B, kk⟩ := h
    have hu := hu_of hr
    refine ⟨_, (pss_cons (ps_set (i := 2) sc_answer_picture.nd rfl (Or.inl rfl) (pe_meth0 (pv 1) T.c_Reader T.m_Reader_read_number (ok_Reader_read_number T) (hr.mono (by decide)) T.b_Reader_read_number .nil pass0))
      (pss_cons (ps_if (pt_not (pt_val (pe_meth (pv 0) T.c_Net T.m_Net_has_picture (ok_Net_has_picture T) (hr.mono (by decide)) T.b_Net_has_picture .nil pass0 (pa_cons (pv 2) pa_nil)))) (pss_one (ps_ret (pe_lst (pa_cons (pe_un un_neg pe_int) pa_nil)))) pss_nil)
      (pss_cons (ps_set (i := 3) sc_answer_picture.nd rfl (Or.inl rfl) (pe_dget hu (pe_fld (pv 0) rfl) (pv 2) (fun _ _ => rfl)))
      (pss_cons (ps_if (pt_not (pt_val (pe_meth0 (pv 3) T.c_Picture T.m_Picture_is_whole (ok_Picture_is_whole T) (hr.mono (by decide)) T.b_Picture_is_whole .nil pass0))) (pss_one (ps_ret (pe_lst (pa_cons pe_int pa_nil)))) pss_nil)
      (pss_one (ps_ret (pe_call (ok_tell_picture T) (hr.mono (by decide)) rfl T.g_tell_picture T.F_tell_picture.kp T.b_tell_picture .nil pass0 (pa_cons (pv 3) pa_nil)))))))), ?_⟩
    have hd : ns.drop i = (k : Int) :: rest := B.args
    obtain ⟨g1, g2, _⟩ := drop_get hd
    refine ⟨_, rfl, r, dr, _, rfl, B.rd, rfl, r, dr, ca, i, ns, _, rfl, B.rd, B.seq.seq, g1, ?_⟩
    obtain ⟨hH, _, _⟩ := B.rdOk (i + 1)
    have hS := B.shape
    obtain ⟨dn, en⟩ := hS.net
    have gn := hH.at_ _ _ en
    have one : ∀ e : Int, Hs07.step s (.picture k) = (s, [e]) → ∀ l, rdAt T H r dr ca (i + 1) l = none → Q (.ref l) (upd (rdAt T H r dr ca (i + 1)) l (.lst [.int e])) := fun e he l hl => kk _ _ l (B.same rfl he hl)
    refine ⟨_, rfl, _, dn, _, rfl, gn, rfl, _, rfl, S, s, k, rfl, hH, hS, _, rfl, ite2 (fun h1 => ?_) (fun h1 => ?_)⟩
    · have h1' : Hs07.picOf s k = none := by simpa using h1
      refine ⟨_, rfl, (by show 1 ≤ sizeLine; decide), fun l hl => one (-1) ?_ l hl⟩
      rw [step_picture, h1']
    obtain ⟨x, hx⟩ : ∃ x, Hs07.picOf s k = some x := by
      cases q : Hs07.picOf s k with
      | none => rw [q] at h1; exact absurd rfl h1
      | some x => exact ⟨x, rfl⟩
    obtain ⟨rfl, j, hj⟩ := picOf_ix hx
    have hP := hS.pic x (List.mem_of_getElem? hj)
    have hw := hS.wf.pics x (List.mem_of_getElem? hj)
    obtain ⟨dq, eq⟩ := hP.pic
    refine ⟨_, rfl, _, T.cNet, dn, _, _, rfl, gn, T.c_Net, T.n_Net_pictures, rfl, _, rfl, _, _, rfl, hS.dget hH hj, ?_⟩
    refine ⟨_, rfl, _, dq, _, rfl, hH.at_ _ _ eq, rfl, S, x, rfl, hH, hP, by rw [hw.2.1, hw.2.2.1], _, rfl, ite2 (fun h2 => ?_) (fun h2 => ?_)⟩
    · have h2' : Hs07.isWhole x = false := by simpa using h2
      refine ⟨(by show 1 ≤ sizeLine; decide), fun l hl => one 0 ?_ l hl⟩
      rw [step_picture, hx]
      simp only [h2']
      rw [if_neg (by decide)]
    have h2' : Hs07.isWhole x = true := by simpa using h2
    have hst : Hs07.step s (.picture x.number) = (s, Hs07.ints (1 :: Hs07.picTold x)) := by
      rw [step_picture, hx]
      simp only [h2', if_true]
    have hf := B.few
    rw [hst] at hf
    have hf' : (Hs07.picTold x).length < 1000000 := by
      have : (Hs07.ints (1 :: Hs07.picTold x)).length = (Hs07.picTold x).length + 1 := by unfold Hs07.ints; rw [List.length_map, List.length_cons]
      rw [this] at hf
      omega
    refine ⟨_, rfl, S, x, rfl, hH, hP, by rw [hw.1]; exact hS.wf.np, by rw [hw.2.1]; exact hS.wf.nc, ?_, hf', fun H' l sm hl out => ?_⟩
    · unfold Hs07.isWhole at h2'
      rw [Bool.and_eq_true] at h2'
      exact h2'.1
    · have hH' := Hold.same hH sm
      exact kk _ _ l (B.fin rfl hH' (Fr.same sm) hS (B.bd.mono (by omega)) rfl hst (by rw [vi_ints]; exact out) (hH.notOwn hl) hl)
def spA_lacks : Sp := fun vs H Q E => ∃ k : Nat, spCall T (.lacks k) vs H Q E
theorem places_is {l : List Bool} {n : Nat} {f : Nat → Bool} (hn : l.length = n) (h : ∀ i, i < n → l.getD i false = f i) : Hs07.places l = ((List.range n).filter f).map fun i => i + 1 := by
  unfold Hs07.places
  rw [hn]
  congr 1
  exact List.filter_congr fun i hi => h i (List.mem_range.mp hi)
theorem filt_snoc {f : Nat → Bool} {i : Nat} : ((List.range (i + 1)).filter f).map (fun j => j + 1) = ((List.range i).filter f).map (fun j => j + 1) ++ (if f i = true then [i + 1] else []) := by
  rw [List.range_succ, List.filter_append, List.map_append]
  congr 1
  by_cases h : f i = true
  · simp [h]
  · simp [h]
theorem filt_len (f : Nat → Bool) (n : Nat) : (((List.range n).filter f).map (fun j => j + 1)).length ≤ n := by
  rw [List.length_map]
  exact Nat.le_trans (List.length_filter_le _ _) (by simp)
theorem ok_answer_lacks : FnOk P w K mg base CX0 12 T.f_answer_lacks T.d_answer_lacks ["net", "reader"] (spA_lacks T) := by
  refine T.F_answer_lacks.ok sc_answer_lacks (fun vs H Q E h => ?_) (fun cdv A outer s H vs Q E hr h => ?_)
  · obtain ⟨k, S, s, r, dr, ca, ns, rest, i, N, rfl, _⟩ := h
    rfl
  · obtain ⟨k, S, s, r, dr, ca, ns, rest, i, N, rfl, B, kk⟩ := h
    have hu := hu_of hr
    refine ⟨_, (pss_cons (ps_set (i := 2) sc_answer_lacks.nd rfl (Or.inl rfl) (pe_meth0 (pv 1) T.c_Reader T.m_Reader_read_number (ok_Reader_read_number T) (hr.mono (by decide)) T.b_Reader_read_number .nil pass0))
      (pss_cons (ps_if (pt_not (pt_val (pe_meth (pv 0) T.c_Net T.m_Net_has_picture (ok_Net_has_picture T) (hr.mono (by decide)) T.b_Net_has_picture .nil pass0 (pa_cons (pv 2) pa_nil)))) (pss_one (ps_ret (pe_lst (pa_cons (pe_un un_neg pe_int) pa_nil)))) pss_nil)
      (pss_cons (ps_set (i := 3) sc_answer_lacks.nd rfl (Or.inr rfl) (pe_dget hu (pe_fld (pv 0) rfl) (pv 2) (fun _ _ => rfl)))
      (pss_cons (ps_setLc (i := 4) rfl sc_answer_lacks.nd rfl rfl (sw_true rfl rfl rfl rfl) (pi_range2 rfl T.n_range (pa_cons pe_int (pa_cons (pe_op op_add (pe_callB call_len_seq rfl T.n_len PySem.boot_len (pa_cons (pe_fld (pv 0) rfl) pa_nil)) pe_int) pa_nil))) (blkOk_by (own := [("p", 5)]) (by kernel_rfl!)) (fun _ _ _ _ _ => pg_name (i := 5) sc_answer_lacks.nd rfl (Or.inl rfl)) (fun _ _ _ _ _ => pts_one (pt_not (pt_val (pe_meth (pv 3) T.c_Picture T.m_Picture_has_record (ok_Picture_has_record T) (hr.mono (by decide)) T.b_Picture_has_record .nil pass0 (pa_cons (pv 5) pa_nil))))) (fun _ _ _ _ _ => pv 5))
      (pss_cons (ps_setLc (i := 6) rfl sc_answer_lacks.nd rfl rfl (sw_true rfl rfl rfl rfl) (pi_range2 rfl T.n_range (pa_cons pe_int (pa_cons (pe_op op_add (pe_callB call_len_seq rfl T.n_len PySem.boot_len (pa_cons (pe_fld (pv 0) rfl) pa_nil)) pe_int) pa_nil))) (blkOk_by (own := [("c", 7)]) (by kernel_rfl!)) (fun _ _ _ _ _ => pg_name (i := 7) sc_answer_lacks.nd rfl (Or.inl rfl)) (fun _ _ _ _ _ => pts_one (pt_not (pt_val (pe_meth (pv 3) T.c_Picture T.m_Picture_is_shut (ok_Picture_is_shut T) (hr.mono (by decide)) T.b_Picture_is_shut .nil pass0 (pa_cons (pv 7) pa_nil))))) (fun _ _ _ _ _ => pv 7))
      (pss_one (ps_ret (pe_op op_cat (pe_op op_cat (pe_op op_cat (pe_lst (pa_cons (pe_callB call_len_seq rfl T.n_len PySem.boot_len (pa_cons (pv 4) pa_nil)) pa_nil)) (pv 4)) (pe_lst (pa_cons (pe_callB call_len_seq rfl T.n_len PySem.boot_len (pa_cons (pv 6) pa_nil)) pa_nil))) (pv 6))))))))), ?_⟩
    have hd : ns.drop i = (k : Int) :: rest := B.args
    obtain ⟨g1, g2, _⟩ := drop_get hd
    refine ⟨_, rfl, r, dr, _, rfl, B.rd, rfl, r, dr, ca, i, ns, _, rfl, B.rd, B.seq.seq, g1, ?_⟩
    obtain ⟨hH, _, _⟩ := B.rdOk (i + 1)
    have hS := B.shape
    obtain ⟨dn, en⟩ := hS.net
    have gn := hH.at_ _ _ en
    have line : 100 < sizeLine := by decide
    have one : ∀ e : Int, Hs07.step s (.lacks k) = (s, [e]) → ∀ l, rdAt T H r dr ca (i + 1) l = none → Q (.ref l) (upd (rdAt T H r dr ca (i + 1)) l (.lst [.int e])) := fun e he l hl => kk _ _ l (B.same rfl he hl)
    refine ⟨_, rfl, _, dn, _, rfl, gn, rfl, _, rfl, S, s, k, rfl, hH, hS, _, rfl, ite2 (fun h1 => ?_) (fun h1 => ?_)⟩
    · have h1' : Hs07.picOf s k = none := by simpa using h1
      refine ⟨_, rfl, (by show 1 ≤ sizeLine; decide), fun l hl => one (-1) ?_ l hl⟩
      rw [step_lacks, h1']
    obtain ⟨x, hx⟩ : ∃ x, Hs07.picOf s k = some x := by
      cases q : Hs07.picOf s k with
      | none => rw [q] at h1; exact absurd rfl h1
      | some x => exact ⟨x, rfl⟩
    obtain ⟨rfl, j, hj⟩ := picOf_ix hx
    have hP := hS.pic x (List.mem_of_getElem? hj)
    have hw := hS.wf.pics x (List.mem_of_getElem? hj)
    obtain ⟨dq, eq⟩ := hP.pic
    have hnp := hS.wf.np
    have hnc := hS.wf.nc
    refine ⟨_, rfl, _, T.cNet, dn, _, _, rfl, gn, T.c_Net, T.n_Net_pictures, rfl, _, rfl, _, _, rfl, hS.dget hH hj, ?_⟩
    have fin : ∀ (H' : Hp) (l : Addr), Same (rdAt T H r dr ca (i + 1)) H' → rdAt T H r dr ca (i + 1) l = none → H' l = some (.lst (vi ((Hs07.places (x.has.map Option.isNone)).length :: Hs07.places (x.has.map Option.isNone) ++ (Hs07.places (x.shut.map fun b => !b)).length :: Hs07.places (x.shut.map fun b => !b)))) → Q (.ref l) H' := fun H' l sm hl out =>
      kk _ _ l (B.fin rfl (Hold.same hH sm) (Fr.same sm) hS (B.bd.mono (by omega)) rfl (by rw [step_lacks, hx]) (by rw [vi_ints]; exact out) (hH.notOwn hl) hl)
    rw [places_is (l := x.has.map Option.isNone) (n := s.procs.length) (f := fun i => !Hs07.hasDone x i) (by rw [List.length_map, hw.1]) ?e1, places_is (l := x.shut.map fun b => !b) (n := s.chans.length) (f := fun i => !x.shut.getD i false) (by rw [List.length_map, hw.2.2.1]) ?e2] at fin
    case e1 =>
      intro i hi
      have ex : x.has[i]? = some x.has[i] := List.getElem?_eq_getElem (by rw [hw.1]; exact hi)
      unfold Hs07.hasDone
      rw [getD_of ex, getD_of (x := x.has[i].isNone) (by rw [List.getElem?_map, ex]; rfl)]
      cases x.has[i] <;> rfl
    case e2 =>
      intro i hi
      have ex : x.shut[i]? = some x.shut[i] := List.getElem?_eq_getElem (by rw [hw.2.2.1]; exact hi)
      rw [getD_of ex, getD_of (x := !x.shut[i]) (by rw [List.getElem?_map, ex]; rfl)]
    have hl1 := filt_len (fun i => !Hs07.hasDone x i) s.procs.length
    have hl2 := filt_len (fun i => !x.shut.getD i false) s.chans.length
    have gq := hH.at_ _ _ eq
    have gp := hH.at_ _ _ hS.plist
    have gc := hH.at_ _ _ hS.clist
    refine ⟨_, rfl, _, T.cNet, dn, _, _, rfl, gn, T.c_Net, T.n_Net_processes, rfl, _, _, rfl, .inl (SqL.of gp), _, _, rfl, rfl, _, _, rfl, ⟨by decide, by decide, by rw [List.length_map, List.length_range]; omega, by rw [List.length_map, List.length_range]; omega⟩, fun D hD => ?_⟩
    rw [List.length_map, List.length_range, show (((s.procs.length : Nat) : Int) + 1 - 1).toNat = s.procs.length by omega]
    refine lc_range (lo := 1) (n := s.procs.length) (fun u H' => Same (rdAt T H r dr ca (i + 1)) H' ∧ H' D = some (.lst (vi (((List.range u).filter fun j => !Hs07.hasDone x j).map fun j => j + 1)))) ⟨fun b o e => by rw [upd_ne (ne_of_none e hD)]; exact e, upd_same⟩ ?_ ?_
    · rintro i H' hi ⟨sm, hD'⟩
      rw [show (1 : Int) + ((i : Nat) : Int) = ((i : Nat) : Int) + 1 by omega]
      refine ⟨rfl, ?_⟩
      refine ⟨_, rfl, _, dq, _, rfl, sm _ _ gq, rfl, _, rfl, S, x, i, rfl, Hold.same hH sm, hP, by rw [hw.1]; exact hi, _, rfl, ite2 (fun h2 => ?_) (fun h2 => ?_)⟩
      · refine ⟨_, rfl, _, hD', ?_, fun b o e => by rw [upd_ne (ne_of_none e hD)]; exact sm b o e, ?_⟩
        · rw [vi_len]
          have := filt_len (fun j => !Hs07.hasDone x j) i
          omega
        · rw [upd_same, filt_snoc, if_pos h2, vi_app]
          rfl
      · refine ⟨sm, ?_⟩
        rw [hD', filt_snoc, if_neg h2, List.append_nil]
    rintro H1 ⟨s1, hD1⟩
    refine ⟨_, rfl, _, T.cNet, dn, _, _, rfl, s1 _ _ gn, T.c_Net, T.n_Net_channels, rfl, _, _, rfl, .inl (SqL.of (s1 _ _ gc)), _, _, rfl, rfl, _, _, rfl, ⟨by decide, by decide, by rw [List.length_map, List.length_range]; omega, by rw [List.length_map, List.length_range]; omega⟩, fun D2 hD2 => ?_⟩
    rw [List.length_map, List.length_range, show (((s.chans.length : Nat) : Int) + 1 - 1).toNat = s.chans.length by omega]
    refine lc_range (lo := 1) (n := s.chans.length) (fun i H' => Same H1 H' ∧ H' D2 = some (.lst (vi (((List.range i).filter fun j => !x.shut.getD j false).map fun j => j + 1)))) ⟨fun b o e => by rw [upd_ne (ne_of_none e hD2)]; exact e, upd_same⟩ ?_ ?_
    · rintro i H' hi ⟨sm, hD'⟩
      rw [show (1 : Int) + ((i : Nat) : Int) = ((i : Nat) : Int) + 1 by omega]
      refine ⟨rfl, ?_⟩
      refine ⟨_, rfl, _, dq, _, rfl, sm _ _ (s1 _ _ gq), rfl, _, rfl, S, x, i, rfl, Hold.same hH (s1.trans sm), hP, by rw [hw.2.2.1]; exact hi, _, rfl, ite2 (fun h2 => ?_) (fun h2 => ?_)⟩
      · refine ⟨_, rfl, _, hD', ?_, fun b o e => by rw [upd_ne (ne_of_none e hD2)]; exact sm b o e, ?_⟩
        · rw [vi_len]
          have := filt_len (fun j => !x.shut.getD j false) i
          omega
        · rw [upd_same, filt_snoc, if_pos h2, vi_app]
          rfl
      · refine ⟨sm, ?_⟩
        rw [hD', filt_snoc, if_neg h2, List.append_nil]
    rintro H2 ⟨s2, hD2'⟩
    have hD1' := s2 _ _ hD1
    have s12 := s1.trans s2
    generalize ((List.range s.procs.length).filter fun j => !Hs07.hasDone x j).map (fun j => j + 1) = la at *
    generalize ((List.range s.chans.length).filter fun j => !x.shut.getD j false).map (fun j => j + 1) = lb at *
    have nx : ∀ {G' : Hp} {p : Addr} {o : HO}, G' p = none → Same G' (upd G' p o) := fun h b u e => by rw [upd_ne (ne_of_none e h)]; exact e
    refine ⟨_, rfl, _, _, rfl, .inl (SqL.of hD1'), (by show 1 ≤ sizeLine; decide), fun p1 n1 => ?_⟩
    have t1 := s12.trans (nx (o := .lst [.int ((vi la).length : Int)]) n1)
    refine ⟨_, rfl, _, _, _, _, rfl, rfl, upd_same, nx n1 _ _ hD1', ?_, fun p2 n2 => ?_⟩
    · rw [vi_len]; simp only [List.length_cons, List.length_nil]; omega
    have t2 := t1.trans (nx (o := .lst ([.int ((vi la).length : Int)] ++ vi la)) n2)
    have u2 : Same H2 _ := (nx (o := .lst [.int ((vi la).length : Int)]) n1).trans (nx (o := .lst ([.int ((vi la).length : Int)] ++ vi la)) n2)
    refine ⟨_, rfl, _, _, rfl, .inl (SqL.of (u2 _ _ hD2')), (by show 1 ≤ sizeLine; decide), fun p3 n3 => ?_⟩
    have p23 : p2 ≠ p3 := ne_of_none upd_same n3
    refine ⟨_, _, _, _, rfl, rfl, (by rw [upd_ne p23]; exact upd_same), upd_same, ?_, fun p4 n4 => ?_⟩
    · simp only [List.length_append, vi_len, List.length_cons, List.length_nil]; omega
    have u4 : Same H2 _ := (u2.trans (nx (o := .lst [.int ((vi lb).length : Int)]) n3)).trans (nx (o := .lst ([.int ((vi la).length : Int)] ++ vi la ++ [.int ((vi lb).length : Int)])) n4)
    refine ⟨_, rfl, _, _, _, _, rfl, rfl, upd_same, u4 _ _ hD2', ?_, fun p5 n5 => ?_⟩
    · simp only [List.length_append, vi_len, List.length_cons, List.length_nil]; omega
    have t5 := (s12.trans u4).trans (nx (o := .lst (([.int ((vi la).length : Int)] ++ vi la ++ [.int ((vi lb).length : Int)]) ++ vi lb)) n5)
    refine fin _ p5 t5 ((s12.trans u4).free n5) ?_
    rw [upd_same]
    simp [vi]
end
end Cp

set_option Elab.async false
set_option linter.all false
set_option maxRecDepth 100000
set_option maxHeartbeats 2000000
namespace Cp
open PySem PySem.Spec PyProof.Rows L2
theorem zs_len (l : List Nat) : (zs l).length = l.length := List.length_map ..
theorem zs_vi (l : List Nat) : (zs l).map V.int = vi l := by
  unfold zs vi
  rw [List.map_map]
  rfl
theorem zs_mem {l : List Nat} {m : Int} (h : m ∈ zs l) : ∃ n ∈ l, m = (n : Int) := by
  unfold zs at h
  obtain ⟨n, hn, e⟩ := List.mem_map.mp h
  exact ⟨n, hn, e.symm⟩
theorem mem_zs {l : List Nat} {n : Nat} (h : n ∈ l) : (n : Int) ∈ zs l := List.mem_map.mpr ⟨n, h, rfl⟩
section
variable {P : Program} {w : World} {K : PySem.W.Frag} {mg : Str → Option Value} {base : Heap} (T : Env K mg)
def spA_net : Sp := fun vs H Q E => ∃ a b : List Nat, spCall T (.net a b) vs H Q E
theorem ok_answer_net : FnOk P w K mg base CX0 12 T.f_answer_net T.d_answer_net ["net", "reader"] (spA_net T) := by
  refine T.F_answer_net.ok sc_answer_net (fun vs H Q E h => ?_) (fun cdv A outer s H vs Q E hr h => ?_)
  · obtain ⟨a, b, S, s, r, dr, ca, ns, rest, i, N, rfl, _⟩ := h
    rfl
  · obtain ⟨a, b, S, s, r, dr, ca, ns, rest, i, N, rfl, B, kk⟩ := h
    refine ⟨_, (pss_cons (ps_set (i := 2) sc_answer_net.nd rfl (Or.inl rfl) (pe_meth0 (pv 1) T.c_Reader T.m_Reader_read_row (ok_Reader_read_row T) (hr.mono (by decide)) T.b_Reader_read_row .nil pass0))
      (pss_cons (ps_set (i := 3) sc_answer_net.nd rfl (Or.inl rfl) (pe_meth0 (pv 1) T.c_Reader T.m_Reader_read_row (ok_Reader_read_row T) (hr.mono (by decide)) T.b_Reader_read_row .nil pass0))
      (pss_cons (ps_if (PW.pt (pw_or (pt_cmpR op_lt (pe_callB call_len_seq rfl T.n_len PySem.boot_len (pa_cons (pv 2) pa_nil)) (pe_gint rfl T.g_FEWEST_PROCESSES) (nomark _)) (pw_or1 (pt_cmpR op_gt (pe_callB call_len_seq rfl T.n_len PySem.boot_len (pa_cons (pv 2) pa_nil)) (pe_gint rfl T.g_MOST_PROCESSES) (nomark _))))) (pss_one (ps_ret (pe_lst (pa_cons (pe_un un_neg pe_int) pa_nil)))) pss_nil)
      (pss_cons (ps_if (pt_cmpR op_gt (pe_callB (cr_max rfl) rfl T.n_max boot_max (pa_cons (pv 2) pa_nil)) (pe_gint rfl T.g_MOST_COINS) (nomark _)) (pss_one (ps_ret (pe_lst (pa_cons (pe_un un_neg pe_int) pa_nil)))) pss_nil)
      (pss_cons (ps_if (PW.pt (pw_or (pt_cmpR op_lt (pe_callB call_len_seq rfl T.n_len PySem.boot_len (pa_cons (pv 3) pa_nil)) (pe_gint rfl T.g_FEWEST_ENDS) (nomark _)) (pw_or (pt_cmpR op_gt (pe_callB call_len_seq rfl T.n_len PySem.boot_len (pa_cons (pv 3) pa_nil)) (pe_gint rfl T.g_MOST_ENDS) (nomark _)) (pw_or1 (pt_cmpR op_eq (pe_op op_mod (pe_callB call_len_seq rfl T.n_len PySem.boot_len (pa_cons (pv 3) pa_nil)) pe_int) pe_int (nomark _)))))) (pss_one (ps_ret (pe_lst (pa_cons (pe_un un_neg pe_int) pa_nil)))) pss_nil)
      (pss_cons (ps_if (PW.pt (pw_or (pt_cmpR op_lt (pe_callB (cr_min rfl) rfl T.n_min boot_min (pa_cons (pv 3) pa_nil)) pe_int (nomark _)) (pw_or1 (pt_cmpR op_gt (pe_callB (cr_max rfl) rfl T.n_max boot_max (pa_cons (pv 3) pa_nil)) (pe_callB call_len_seq rfl T.n_len PySem.boot_len (pa_cons (pv 2) pa_nil)) (nomark _))))) (pss_one (ps_ret (pe_lst (pa_cons (pe_un un_neg pe_int) pa_nil)))) pss_nil)
      (pss_cons (ps_expr (pe_meth (pv 0) T.c_Net T.m_Net_lay (ok_Net_lay T) (hr.mono (by decide)) T.b_Net_lay .nil pass0 (pa_cons (pv 2) (pa_cons (pv 3) pa_nil))))
      (pss_one (ps_ret (pe_lst (pa_cons (pe_callB call_len_seq rfl T.n_len PySem.boot_len (pa_cons (pe_fld (pv 0) rfl) pa_nil)) pa_nil))))))))))), ?_⟩
    have hd : ns.drop i = ((zs a).length : Int) :: (zs a ++ (((zs b).length : Int) :: (zs b ++ rest))) := by
      rw [B.args]
      show (rowOf a ++ rowOf b) ++ rest = _
      unfold rowOf
      rw [zs_len, zs_len]
      simp
    obtain ⟨_, g2, _⟩ := drop_get hd
    have g3 : ns.drop (i + 1 + (zs a).length) = ((zs b).length : Int) :: (zs b ++ rest) := by
      rw [← List.drop_drop, g2, List.drop_left']
      rfl
    have hj : i + 1 + (zs a).length + 1 + (zs b).length = i + (argsOf (.net a b)).length := by
      show _ = i + (rowOf a ++ rowOf b).length
      unfold rowOf
      simp [zs_len]
      omega
    refine ⟨_, rfl, r, dr, _, rfl, B.rd, rfl, r, dr, ca, i, ns, zs a, _, rfl, B.rd, B.seq.seq, hd, fun l1 n1 => ?_⟩
    have r1 : r ≠ l1 := ne_of_none B.rd n1
    refine ⟨_, rfl, r, dr, _, rfl, upd_same, rfl, r, dr, ca, _, ns, zs b, rest, rfl, upd_same, ?_, g3, fun l2 n2 => ?_⟩
    · refine sq_ins B.seq.seq B.rd fun c o e n => ?_
      rw [upd_ne n, upd_ne (ne_of_none e n1)]
      exact e
    have r2 : r ≠ l2 := ne_of_none upd_same n2
    rw [upd_ne r2.symm] at n2
    have l12 : l1 ≠ l2 := ne_of_none upd_same n2
    rw [upd_ne l12.symm] at n2
    refine hp_eq (H2 := upd (upd (rdAt T H r dr ca (i + 1 + (zs a).length + 1 + (zs b).length)) l1 (.lst (vi a))) l2 (.lst (vi b))) ?_ ?_
    · rw [zs_vi, zs_vi, upd_swap (a := l2) (b := r) r2.symm, upd_upd, upd_swap (a := l1) (b := r) r1.symm]
    rw [hj]
    have hH0 := (B.rdOk (i + (argsOf (.net a b)).length)).1
    have m1 : rdAt T H r dr ca (i + (argsOf (.net a b)).length) l1 = none := (upd_ne r1.symm).trans n1
    have m2 : upd (rdAt T H r dr ca (i + (argsOf (.net a b)).length)) l1 (.lst (vi a)) l2 = none := by rw [upd_ne l12.symm]; exact (upd_ne r2.symm).trans n2
    have sm : Same (rdAt T H r dr ca (i + (argsOf (.net a b)).length)) (upd (upd (rdAt T H r dr ca (i + (argsOf (.net a b)).length)) l1 (.lst (vi a))) l2 (.lst (vi b))) := fun c o e => by
      have e1 : upd (rdAt T H r dr ca (i + (argsOf (.net a b)).length)) l1 (.lst (vi a)) c = some o := by rw [upd_ne (ne_of_none e m1)]; exact e
      rw [upd_ne (ne_of_none e1 m2)]
      exact e1
    have ha : upd (upd (rdAt T H r dr ca (i + (argsOf (.net a b)).length)) l1 (.lst (vi a))) l2 (.lst (vi b)) l1 = some (.lst (vi a)) := by rw [upd_ne l12]; exact upd_same
    have hb : upd (upd (rdAt T H r dr ca (i + (argsOf (.net a b)).length)) l1 (.lst (vi a))) l2 (.lst (vi b)) l2 = some (.lst (vi b)) := upd_same
    generalize upd (upd (rdAt T H r dr ca (i + (argsOf (.net a b)).length)) l1 (.lst (vi a))) l2 (.lst (vi b)) = G at *
    have hG := Hold.same hH0 sm
    have hS := B.shape
    obtain ⟨dn, en⟩ := hS.net
    have gn := hG.at_ _ _ en
    have one : ∀ e : Int, Hs07.netBad a b = some e → ∀ l, G l = none → Q (.ref l) (upd G l (.lst [.int e])) := fun e he l hl => kk _ _ l (B.done (ans := [e]) rfl hG (Fr.same sm) hS (B.bd.mono (by omega)) rfl (by rw [step_net, he]) hl)
    refine ⟨_, rfl, _, _, rfl, .inl (SqL.of ha), _, _, rfl, rfl, _, rfl, ?_⟩
    rw [vi_len]
    refine ite2 (fun h1 => ?_) (fun h1 => ?_)
    · have h1' : (a.length : Int) < 2 := of_decide_eq_true h1
      refine iteT ?_
      exact ⟨_, rfl, (by show 1 ≤ sizeLine; decide), fun l hl => one (-1) (by unfold Hs07.netBad; rw [if_pos (by omega)]) l hl⟩
    have h1' : ¬ (a.length : Int) < 2 := fun z => h1 (decide_eq_true z)
    refine ⟨_, rfl, _, _, rfl, .inl (SqL.of ha), _, _, rfl, rfl, _, rfl, ?_⟩
    rw [vi_len]
    refine ite2 (fun h2 => ?_) (fun h2 => ?_)
    · have h2' : (8 : Int) < (a.length : Int) := of_decide_eq_true h2
      exact ⟨_, rfl, (by show 1 ≤ sizeLine; decide), fun l hl => one (-1) (by unfold Hs07.netBad; rw [if_pos (by omega)]) l hl⟩
    have h2' : ¬ (8 : Int) < (a.length : Int) := fun z => h2 (decide_eq_true z)
    have b1 : ∀ X : Option Int, (if a.length < 2 ∨ 8 < a.length then some (-1) else X) = X := fun X => if_neg (by omega)
    refine ⟨_, rfl, _, zs a, rfl, SqL.of (by rw [zs_vi]; exact ha), by rw [zs_len]; omega, fun m hm hmax => ⟨_, _, rfl, rfl, _, rfl, ite2 (fun h3 => ?_) (fun h3 => ?_)⟩⟩
    · have h3' : (1000 : Int) < m := of_decide_eq_true h3
      obtain ⟨n, hn, rfl⟩ := zs_mem hm
      refine ⟨_, rfl, (by show 1 ≤ sizeLine; decide), fun l hl => one (-2) ?_ l hl⟩
      unfold Hs07.netBad
      rw [b1, if_pos (List.any_eq_true.mpr ⟨n, hn, decide_eq_true (by omega)⟩)]
    have h3' : ¬ (1000 : Int) < m := fun z => h3 (decide_eq_true z)
    have b2 : ∀ X : Option Int, (if a.any (fun n => decide (1000 < n)) = true then some (-2) else X) = X := fun X => if_neg fun z => by
      obtain ⟨n, hn, e⟩ := List.any_eq_true.mp z
      have := hmax _ (mem_zs hn)
      have := of_decide_eq_true e
      omega
    have bad3 : (b.length % 2 = 1 ∨ b.length < 2 ∨ 32 < b.length) → Hs07.netBad a b = some (-3) := fun z => by
      unfold Hs07.netBad
      rw [b1, b2, if_pos z]
    refine ⟨_, rfl, _, _, rfl, .inl (SqL.of hb), _, _, rfl, rfl, _, rfl, ?_⟩
    rw [vi_len]
    refine ite2 (fun h4 => ?_) (fun h4 => ?_)
    · have h4' : (b.length : Int) < 2 := of_decide_eq_true h4
      refine iteT ?_
      exact ⟨_, rfl, (by show 1 ≤ sizeLine; decide), fun l hl => one (-3) (bad3 (by omega)) l hl⟩
    have h4' : ¬ (b.length : Int) < 2 := fun z => h4 (decide_eq_true z)
    refine ⟨_, rfl, _, _, rfl, .inl (SqL.of hb), _, _, rfl, rfl, _, rfl, ?_⟩
    rw [vi_len]
    refine ite2 (fun h5 => ?_) (fun h5 => ?_)
    · have h5' : (32 : Int) < (b.length : Int) := of_decide_eq_true h5
      refine iteT ?_
      exact ⟨_, rfl, (by show 1 ≤ sizeLine; decide), fun l hl => one (-3) (bad3 (by omega)) l hl⟩
    have h5' : ¬ (32 : Int) < (b.length : Int) := fun z => h5 (decide_eq_true z)
    refine ⟨_, rfl, _, _, rfl, .inl (SqL.of hb), _, _, rfl, rfl, (by show (0 : Int) < 2; decide), rfl, _, rfl, ?_⟩
    rw [vi_len]
    refine ite2 (fun h6 => ?_) (fun h6 => ?_)
    · have h6' : (b.length : Int) % 2 = 1 := V.int.inj (of_decide_eq_true h6)
      exact ⟨_, rfl, (by show 1 ≤ sizeLine; decide), fun l hl => one (-3) (bad3 (by omega)) l hl⟩
    have h6' : ¬ (b.length : Int) % 2 = 1 := fun z => h6 (decide_eq_true (congrArg V.int z))
    have b3 : ∀ X : Option Int, (if b.length % 2 = 1 ∨ b.length < 2 ∨ 32 < b.length then some (-3) else X) = X := fun X => if_neg (by omega)
    have bad4 : (∃ e ∈ b, e < 1 ∨ a.length < e) → Hs07.netBad a b = some (-4) := fun ⟨e, he, z⟩ => by
      unfold Hs07.netBad
      rw [b1, b2, b3, if_pos (List.any_eq_true.mpr ⟨e, he, by rw [Bool.or_eq_true]; exact z.imp decide_eq_true decide_eq_true⟩)]
    refine ⟨_, rfl, _, zs b, rfl, SqL.of (by rw [zs_vi]; exact hb), by rw [zs_len]; omega, fun mi hmi hmin => ⟨_, _, rfl, rfl, _, rfl, ite2 (fun h7 => ?_) (fun h7 => ?_)⟩⟩
    · have h7' : mi < (1 : Int) := of_decide_eq_true h7
      obtain ⟨n, hn, rfl⟩ := zs_mem hmi
      refine iteT ?_
      exact ⟨_, rfl, (by show 1 ≤ sizeLine; decide), fun l hl => one (-4) (bad4 ⟨n, hn, .inl (by omega)⟩) l hl⟩
    have h7' : ¬ mi < (1 : Int) := fun z => h7 (decide_eq_true z)
    refine ⟨_, rfl, _, zs b, rfl, SqL.of (by rw [zs_vi]; exact hb), by rw [zs_len]; omega, fun ma hma hmax2 => ⟨_, rfl, _, _, rfl, .inl (SqL.of ha), _, _, rfl, rfl, _, rfl, ?_⟩⟩
    rw [vi_len]
    refine ite2 (fun h8 => ?_) (fun h8 => ?_)
    · have h8' : (a.length : Int) < ma := of_decide_eq_true h8
      obtain ⟨n, hn, rfl⟩ := zs_mem hma
      exact ⟨_, rfl, (by show 1 ≤ sizeLine; decide), fun l hl => one (-4) (bad4 ⟨n, hn, .inr (by omega)⟩) l hl⟩
    have h8' : ¬ (a.length : Int) < ma := fun z => h8 (decide_eq_true z)
    have hend : ∀ e ∈ b, 1 ≤ e ∧ e ≤ a.length := fun e he => by
      have e1 := hmin _ (mem_zs he)
      have e2 := hmax2 _ (mem_zs he)
      omega
    have bad0 : Hs07.netBad a b = none := by
      unfold Hs07.netBad
      rw [b1, b2, b3, if_neg fun z => ?_]
      obtain ⟨e, he, z⟩ := List.any_eq_true.mp z
      have := hend e he
      rw [Bool.or_eq_true] at z
      rcases z with z | z
      · have := of_decide_eq_true z; omega
      · have := of_decide_eq_true z; omega
    refine ⟨_, rfl, _, dn, _, rfl, gn, rfl, _, rfl, _, rfl, _, dn, l1, l2, _, a, b, rfl, gn, .inr ⟨_, _, _, _, _, rfl⟩, .inl (SqL.of ha), .inl (SqL.of hb), ⟨by omega, by omega, by omega, hend⟩, fun H' S' hH' hS' hn' old => ?_⟩
    obtain ⟨dn2, en2⟩ := hS'.net
    have gn2 := hH'.at_ _ _ en2
    rw [hn'] at gn2
    refine ⟨_, rfl, _, T.cNet, dn2, _, _, rfl, gn2, T.c_Net, T.n_Net_channels, rfl, _, _, rfl, .inl (SqL.of (hH'.at_ _ _ hS'.clist)), (by show 1 ≤ sizeLine; decide), fun l hl => ?_⟩
    have hcl : (netOf a b).chans.length = b.length / 2 := by
      show (Hs07.pairs (b.map fun e => e - 1)).length = _
      rw [pairs_len, List.length_map]
    have own : Own S (S.ad .net) := ⟨.net, _, en, rfl⟩
    refine hp_eq (H2 := upd H' l (.lst (([((b.length / 2 : Nat) : Int)] : List Int).map V.int))) ?_ ?_
    · rw [List.length_map, List.length_range, hcl]
      rfl
    · have bd : Bd (N + 6000) (netOf a b) := by
        refine ⟨fun x hx => ?_, fun x hx => ?_⟩
        · have e : (netOf a b).on = (netOf a b).chans.map (fun _ => []) := rfl
          rw [e] at hx
          obtain ⟨_, _, rfl⟩ := List.mem_map.mp hx
          exact Nat.zero_le _
        · cases hx
      exact kk _ _ l (B.done rfl hH' (fun c o e n => old c o (sm c o e) (fun z => n (z ▸ own))) hS' bd hn' (by rw [step_net, bad0]; rfl) hl)
end
end Cp

set_option Elab.async false
set_option linter.all false
set_option maxRecDepth 100000
set_option maxHeartbeats 2000000
namespace Cp
open PySem PySem.Spec PyProof.Rows L2
def part {α : Type} (f : α → α) (l : List α) (i : Nat) : List α := (l.take i).map f ++ l.drop i
theorem part_zero {α : Type} {f : α → α} {l : List α} : part f l 0 = l := rfl
theorem part_all {α : Type} {f : α → α} {l : List α} : part f l l.length = l.map f := by
  unfold part
  rw [List.take_length, List.drop_length, List.append_nil]
theorem part_get {α : Type} {f : α → α} {l : List α} {i : Nat} {x : α} (h : l[i]? = some x) : (part f l i)[i]? = some x := by
  have hi := (List.getElem?_eq_some_iff.mp h).1
  unfold part
  rw [List.getElem?_append_right (by simp; omega)]
  simp [Nat.min_eq_left (Nat.le_of_lt hi)]
  exact h
theorem part_set {α : Type} {f : α → α} {l : List α} {i : Nat} {x : α} (h : l[i]? = some x) : (part f l i).set i (f x) = part f l (i + 1) := by
  have hi := (List.getElem?_eq_some_iff.mp h).1
  unfold part
  rw [List.set_append_right _ _ (by simp; omega)]
  have e : i - ((l.take i).map f).length = 0 := by simp; omega
  rw [e, List.drop_eq_getElem_cons hi, List.set_cons_zero, List.take_add_one, h]
  simp
theorem part_same {α : Type} {f : α → α} {l : List α} {i : Nat} {x : α} (h : l[i]? = some x) (e : f x = x) : part f l i = part f l (i + 1) := by
  rw [← part_set h, e]
  apply List.ext_getElem?
  intro j
  by_cases hj : i = j
  · subst hj
    have g := part_get (f := f) h
    rw [List.getElem?_set_self (List.getElem?_eq_some_iff.mp g).1]
    exact g
  · rw [List.getElem?_set_ne hj]
theorem put_comm {S : Sto} {r r' : Ro} {o o' : HO} (h : r ≠ r') : (S.put r o).put r' o' = (S.put r' o').put r o := by
  unfold Sto.put
  congr 1
  funext x
  by_cases h1 : x = r'
  · have h2 : x ≠ r := fun z => h (z.symm.trans h1)
    simp [h1, h2, Ne.symm h]
  · by_cases h2 : x = r
    · simp [h2, h]
    · simp [h1, h2]
theorem put_same {S : Sto} {r : Ro} {o : HO} (h : S.ob r = some o) : S.put r o = S := by
  cases S with
  | mk ad ob =>
    unfold Sto.put
    congr 1
    funext x
    by_cases h1 : x = r
    · rw [if_pos h1, h1]; exact h.symm
    · rw [if_neg h1]
section
variable {K : PySem.W.Frag} {mg : Str → Option Value} {T : Env K mg} {S S' : Sto} {s : Hs07.St}
theorem Shape.setDeeds (h : Shape T S s) (dx : Addr) (d : Nat) : Shape T (S.put .net (.ins T.cNet dx (netF (S.ad .plist) (S.ad .clist) (S.ad .pdict) s.last d))) { s with deeds := d } := by
  refine ⟨⟨dx, by simp⟩, by simpa using h.plist, by simpa using h.proc, fun j hj => ?_, by simpa using h.clist, by simpa using h.chan, ?_, by simpa using h.pdict, fun x hx => ?_, ⟨h.wf.ends, h.wf.on, h.wf.pics, h.wf.nd, h.wf.np, h.wf.nc, h.wf.nk⟩⟩
  · show (S.put _ _).ob (.leav j) = some (.lst ((Hs07.outs s j).map fun (c : Nat) => .int ((c : Int) + 1)))
    simpa using h.leav j hj
  · intro c l hl
    obtain ⟨as, q, r⟩ := h.wait c l hl
    exact ⟨as, by simpa using q, Paired.mapP r fun a it z => z.of fun a o e => by simpa using e⟩
  · exact (h.pic x hx).of (fun r hr => rfl) (fun a o e => by simpa using e) (by simp) (by simp) (by simp) (by simp) (by simp)
theorem Shape.bumped (h : Shape T S s) {j : Nat} {x : Hs07.Pic} (hx : s.pics[j]? = some x) (dx : Addr) :
    Shape T (S.put (.pic x.number) (.ins T.cPicture dx (picF x.has.length (x.before + 1) (S.ad (.recs x.number)) (S.ad (.shut x.number)) (S.ad (.caught x.number))))) { s with pics := s.pics.set j { x with before := x.before + 1 } } := by
  refine h.setPicAt hx rfl rfl rfl rfl rfl (fun r hr => ?_) ?_
  · cases r <;> simp_all [isPic]
  · have P := h.pic x (List.mem_of_getElem? hx)
    have im : ∀ b o, S.ob (.imm b) = some o → (S.put (.pic x.number) (.ins T.cPicture dx (picF x.has.length (x.before + 1) (S.ad (.recs x.number)) (S.ad (.shut x.number)) (S.ad (.caught x.number))))).ob (.imm b) = some o := fun a o e => by simpa using e
    refine ⟨⟨dx, by simp⟩, ?_, by simpa using P.shut, by simpa using P.caught, fun c l hl => ?_⟩
    · obtain ⟨kvs', q', r'⟩ := P.recs
      exact ⟨kvs', by simpa using q', r'.of im⟩
    · obtain ⟨as, q', r'⟩ := P.cl c l hl
      exact ⟨as, by simpa using q', Paired.mapP r' fun a it ⟨dx, z⟩ => ⟨dx, im _ _ z⟩⟩
variable (T) in
structure Lk (H : Hp) (S : Sto) (od : Obj) (u : HO) (H' : Hp) (S' : Sto) (t : Hs07.St) : Prop where
  hold : Hold H' S'
  fr : Fr H S H' S'
  ad : S'.ad = S.ad
  lk : S'.ob .pdict = some (.frz od u)
  im : Im S S'
  shape : Shape T (S'.put .pdict u) t
theorem Lk.start {H : Hp} (h : Hold H S) (k : Shape T S s) {u : HO} (e : S.ob .pdict = some u) (od : Obj) : Lk T H S od u (upd H (S.ad .pdict) (.frz od u)) (S.put .pdict (.frz od u)) s :=
  ⟨h.write e _, Fr.write e _, rfl, put_self, Im.put (by simp), by rw [put_put, put_same e]; exact k⟩
theorem Lk.stop {H H' : Hp} {od : Obj} {u : HO} {t : Hs07.St} (h : Lk T H S od u H' S' t) : Go T H S (upd H' (S.ad .pdict) u) (S'.put .pdict u) t := by
  rw [← h.ad]
  exact ⟨h.hold.write h.lk _, h.fr.trans (Fr.write h.lk _), h.shape, by rw [put_ad, h.ad], h.im.trans (Im.put (by simp))⟩
theorem Lk.at_ {H H' : Hp} {od : Obj} {u : HO} {t : Hs07.St} (h : Lk T H S od u H' S' t) : H' (S.ad .pdict) = some (.frz od u) := by
  rw [← h.ad]
  exact h.hold.at_ _ _ h.lk
theorem Lk.pic {H H' : Hp} {od : Obj} {u : HO} {t : Hs07.St} (h : Lk T H S od u H' S' t) {x : Hs07.Pic} (hx : x ∈ t.pics) : PicAt T S' x :=
  (h.shape.pic x hx).of (fun r hr => rfl) (fun a o e => by simpa using e) (by simp) (by simp) (by simp) (by simp) (by simp)
theorem Lk.write {H H' : Hp} {od : Obj} {u : HO} {t t' : Hs07.St} (h : Lk T H S od u H' S' t) {r : Ro} {o o' : HO} (e : S'.ob r = some o) (hr : r ≠ .pdict) (hi : ∀ a, r ≠ .imm a) (k : Shape T ((S'.put .pdict u).put r o') t') : Lk T H S od u (upd H' (S'.ad r) o') (S'.put r o') t' :=
  ⟨h.hold.write e _, h.fr.trans (Fr.write e _), h.ad, by rw [put_ne (Ne.symm hr)]; exact h.lk, h.im.trans (Im.put hi), by rw [put_comm hr]; exact k⟩
end
theorem Bd.picsMap {N : Nat} {s : Hs07.St} (h : Bd N s) (f : Hs07.Pic → Hs07.Pic) (hf : ∀ x ∈ s.pics, ∀ l ∈ (f x).came, l.length ≤ N) (d : Nat) : Bd N { s with pics := s.pics.map f, deeds := d } :=
  ⟨h.on, fun x hx l hl => by
    obtain ⟨y, hy, rfl⟩ := List.mem_map.mp hx
    exact hf y hy l hl⟩
theorem Bd.done {N : Nat} {s : Hs07.St} (h : Bd N s) (p : Nat) : Bd N (Hs07.done s p) := h.picsMap _ (fun x hx l hl => by
  unfold Hs07.counted at hl
  split at hl
  · exact h.came x hx l hl
  · exact h.came x hx l hl) _
section
variable {P : Program} {w : World} {K : PySem.W.Frag} {mg : Str → Option Value} {base : Heap} (T : Env K mg)
def spPicture_see_deed : Sp := fun vs H Q _ => ∃ (S : Sto) (x : Hs07.Pic) (p : Nat) (dx : Addr), vs = [.ref (S.ad (.pic x.number)), .int ((p : Int) + 1)] ∧ Hold H S ∧ PicAt T S x ∧ p < x.has.length ∧ S.ob (.pic x.number) = some (.ins T.cPicture dx (picF x.has.length x.before (S.ad (.recs x.number)) (S.ad (.shut x.number)) (S.ad (.caught x.number)))) ∧
  (Hs07.hasDone x p = true → Q .non H) ∧ (Hs07.hasDone x p = false → Q .non (upd H (S.ad (.pic x.number)) (.ins T.cPicture dx (picF x.has.length (x.before + 1) (S.ad (.recs x.number)) (S.ad (.shut x.number)) (S.ad (.caught x.number))))))
theorem ok_Picture_see_deed : FnOk P w K mg base CX0 2 T.f_Picture_see_deed T.d_Picture_see_deed ["self", "p"] (spPicture_see_deed T) := by
  refine T.F_Picture_see_deed.ok sc_Picture_see_deed (fun vs H Q E h => ?_) (fun cdv A outer s H vs Q E hr h => ?_)
  · obtain ⟨S, x, p, dx, rfl, _⟩ := h
    rfl
  · obtain ⟨S, x, p, dx, rfl, hH, hP, hp, eq, k1, k2⟩ := h
    have gq := hH.at_ _ _ eq
    refine ⟨_, (pss_one (ps_if (pt_not (pt_val (pe_meth (pv 0) T.c_Picture T.m_Picture_has_record (ok_Picture_has_record T) (hr.mono (by decide)) T.b_Picture_has_record .nil pass0 (pa_cons (pv 1) pa_nil)))) (pss_one (ps_fldaug (pv 0) pe_int in_add)) pss_nil)), ?_⟩
    refine ⟨_, rfl, _, dx, _, rfl, gq, rfl, _, rfl, S, x, p, rfl, hH, hP, hp, _, rfl, ite2 (fun h1 => ?_) (fun h1 => ?_)⟩
    · refine ⟨_, rfl, _, T.cPicture, dx, _, _, rfl, gq, T.c_Picture, T.n_Picture_deeds_before, rfl, _, _, rfl, rfl, dx, _, gq, lt1000 rfl, ?_⟩
      exact k2 (by simpa using h1)
    · exact k1 (by simpa using h1)
def spNet_count_deed : Sp := fun vs H Q _ => ∃ (S : Sto) (s : Hs07.St) (p : Nat), vs = [.ref (S.ad .net), .int ((p : Int) + 1)] ∧ Hold H S ∧ Shape T S s ∧ p < s.procs.length ∧ ∀ H' S', Go T H S H' S' (Hs07.done s p) → Q .non H'
theorem ok_Net_count_deed : FnOk P w K mg base CX0 3 T.f_Net_count_deed T.d_Net_count_deed ["self", "p"] (spNet_count_deed T) := by
  refine T.F_Net_count_deed.ok sc_Net_count_deed (fun vs H Q E h => ?_) (fun cdv A outer s H vs Q E hr h => ?_)
  · obtain ⟨S, s, p, rfl, _⟩ := h
    rfl
  · obtain ⟨S, s, p, rfl, hH, hS, hp, k⟩ := h
    obtain ⟨dn, en⟩ := hS.net
    refine ⟨_, (pss_cons (ps_fldaug (pv 0) pe_int in_add)
      (pss_one (ps_lock (ps_for PassesOwn.never rfl (pi_values (pe_fld (pv 0) rfl)) (pg_name (i := 2) sc_Net_count_deed.nd rfl (Or.inl rfl)) (pss_one (ps_expr (pe_meth (pv 2) T.c_Picture T.m_Picture_see_deed (ok_Picture_see_deed T) (hr.mono (by decide)) T.b_Picture_see_deed .nil pass0 (pa_cons (pv 1) pa_nil)))))))), ?_⟩
    refine ⟨_, rfl, _, T.cNet, dn, _, _, rfl, hH.at_ _ _ en, T.c_Net, T.n_Net_deeds, rfl, _, _, rfl, rfl, dn, _, hH.at_ _ _ en, lt1000 rfl, ?_⟩
    have g1 : Go T H S (upd H (S.ad .net) (.ins T.cNet dn (netF (S.ad .plist) (S.ad .clist) (S.ad .pdict) s.last (s.deeds + 1)))) (S.put .net (.ins T.cNet dn (netF (S.ad .plist) (S.ad .clist) (S.ad .pdict) s.last (s.deeds + 1)))) { s with deeds := s.deeds + 1 } := ⟨hH.write en _, Fr.write en _, hS.setDeeds dn _, rfl, Im.put (by simp)⟩
    refine hp_eq (H2 := upd H (S.ad .net) (.ins T.cNet dn (netF (S.ad .plist) (S.ad .clist) (S.ad .pdict) s.last (s.deeds + 1)))) rfl ?_
    generalize upd H (S.ad .net) (.ins T.cNet dn (netF (S.ad .plist) (S.ad .clist) (S.ad .pdict) s.last (s.deeds + 1))) = H1 at *
    generalize S.put .net (.ins T.cNet dn (netF (S.ad .plist) (S.ad .clist) (S.ad .pdict) s.last (s.deeds + 1))) = S1 at *
    have epd := g1.shape.pdict
    obtain ⟨kvs, ekv⟩ : ∃ kvs, (s.pics.map fun x => ((Sum.inl (x.number : Int) : Key), V.ref (S1.ad (.pic x.number)))) = kvs := ⟨_, rfl⟩
    have lkv : kvs.length = s.pics.length := by rw [← ekv, List.length_map]
    rw [ekv] at epd
    have gpd := g1.hold.at_ _ _ epd
    rw [← g1.ad]
    refine ⟨_, _, gpd, trivial, fun od => ?_⟩
    have L0 := Lk.start g1.hold g1.shape epd od
    obtain ⟨dn1, en1⟩ := L0.shape.net
    have gn1 := L0.hold.at_ .net _ (by simpa using en1)
    refine ⟨_, rfl, _, T.cNet, dn1, _, _, rfl, gn1, T.c_Net, T.n_Net_pictures, rfl, _, od, _, rfl, L0.at_, for_vals (kvs := kvs) (fun i σ H' => ∃ (v : Option V) (S' : Sto), σ = [some (.ref (S1.ad .net)), some (.int ((p : Int) + 1)), v] ∧ Lk T H1 S1 od _ H' S' { s with deeds := s.deeds + 1, pics := part (fun x => Hs07.counted x p) s.pics i }) ⟨none, _, rfl, L0⟩ ?_ ?_ ?_⟩
    · rintro i σ H' hi ⟨v, S', rfl, L⟩
      exact L.at_
    · rintro i k' y σ H' hy ⟨v, S', rfl, L⟩
      obtain ⟨x, hx, e1, e2⟩ : ∃ x, s.pics[i]? = some x ∧ Sum.inl (x.number : Int) = k' ∧ V.ref (S1.ad (.pic x.number)) = y := by
        have hy' := hy
        rw [← ekv, List.getElem?_map] at hy'
        cases q : s.pics[i]? with
        | none => rw [q] at hy'; cases hy'
        | some x =>
          rw [q] at hy'
          have := Option.some.inj hy'
          exact ⟨x, rfl, congrArg Prod.fst this, congrArg Prod.snd this⟩
      subst e1 e2
      have hx' : ({ s with deeds := s.deeds + 1, pics := part (fun x => Hs07.counted x p) s.pics i } : Hs07.St).pics[i]? = some x := part_get hx
      have hP := L.pic (List.mem_of_getElem? hx')
      obtain ⟨dq, eq⟩ := hP.pic
      have hpl : p < x.has.length := by rw [(hS.wf.pics x (List.mem_of_getElem? hx)).1]; exact hp
      rw [← L.ad]
      refine ⟨_, rfl, _, dq, _, rfl, L.hold.at_ _ _ eq, rfl, _, rfl, S', x, p, dq, rfl, L.hold, hP, hpl, eq, fun h1 => ?_, fun h1 => ?_⟩
      · refine ⟨_, S', rfl, ?_⟩
        rw [← part_same hx (show Hs07.counted x p = x from if_pos h1)]
        exact L
      · refine ⟨_, _, rfl, L.write (r := .pic x.number) eq (by simp) (by simp) ?_⟩
        have z := L.shape.bumped hx' dq
        have ec : Hs07.counted x p = { x with before := x.before + 1 } := if_neg (by rw [h1]; decide)
        rw [← part_set hx, ec]
        exact z
    · rintro σ H' ⟨v, S', rfl, L⟩
      refine ⟨L.at_, ?_⟩
      have g2 := L.stop
      rw [lkv] at g2
      have e : ({ s with deeds := s.deeds + 1, pics := part (fun x => Hs07.counted x p) s.pics s.pics.length } : Hs07.St) = Hs07.done s p := by rw [part_all]; rfl
      have g3 := g1.trans g2
      rw [e] at g3
      exact k _ _ g3
end
end Cp

set_option Elab.async false
set_option linter.all false
set_option maxRecDepth 100000
set_option maxHeartbeats 2000000
namespace Cp
open PySem PySem.Spec PyProof.Rows L2
def up (s : Hs07.St) (P : List Hs07.Pic) (d : Nat) : Hs07.St := { s with pics := P, deeds := d }
theorem sendsOn_up {P : List Hs07.Pic} {d hops : Nat} : ∀ (l : List Nat) (s : Hs07.St), Hs07.sendsOn (up s P d) hops l = up (Hs07.sendsOn s hops l) P d
  | [], s => rfl
  | c :: r, s => sendsOn_up r (Hs07.puts s c ((Hs07.proc s (Hs07.source s c)).purse / 2) hops)
theorem gets_up {P : List Hs07.Pic} {d : Nat} (s : Hs07.St) (c : Nat) (m : Hs07.Msg) : Hs07.gets (up s P d) c m = up (Hs07.gets s c m) P d := by
  unfold Hs07.gets
  by_cases h : m.hops = 0
  · simp only [h, if_true]; rfl
  · simp only [h, if_false]
    exact sendsOn_up _ (Hs07.setProc s (Hs07.target s c) _)
theorem added_counted (x : Hs07.Pic) (p c : Nat) (m : Hs07.Msg) : Hs07.added (Hs07.counted x p) p c m = Hs07.counted (Hs07.added x p c m) p := by
  by_cases h : Hs07.hasDone x p = true
  · have e : Hs07.counted x p = x := if_pos h
    rw [e]
    unfold Hs07.added
    by_cases h2 : x.shut.getD c false = false
    · rw [if_pos ⟨h, h2⟩]
      exact (if_pos h).symm
    · rw [if_neg (fun z => h2 z.2)]
      exact e.symm
  · have e : Hs07.added x p c m = x := if_neg fun z => h z.1
    have e2 : Hs07.counted x p = { x with before := x.before + 1 } := if_neg h
    rw [e, e2]
    exact if_neg fun z => h z.1
theorem taken_eq (s : Hs07.St) (p c : Nat) (m : Hs07.Msg) : Hs07.gets { Hs07.done s p with pics := (Hs07.done s p).pics.map fun x => Hs07.added x p c m } c m = Hs07.done (Hs07.gets { s with pics := s.pics.map fun x => Hs07.added x p c m } c m) p := by
  have e1 : ({ Hs07.done s p with pics := (Hs07.done s p).pics.map fun x => Hs07.added x p c m } : Hs07.St) = up s ((s.pics.map fun x => Hs07.counted x p).map fun x => Hs07.added x p c m) (s.deeds + 1) := rfl
  have e2 : ({ s with pics := s.pics.map fun x => Hs07.added x p c m } : Hs07.St) = up s (s.pics.map fun x => Hs07.added x p c m) s.deeds := rfl
  rw [e1, e2, gets_up, gets_up]
  show _ = up (Hs07.gets s c m) ((s.pics.map fun x => Hs07.added x p c m).map fun x => Hs07.counted x p) (s.deeds + 1)
  congr 1
  rw [List.map_map, List.map_map]
  exact List.map_congr_left fun x _ => added_counted x p c m
theorem put_eq (s : Hs07.St) (c coins hops p : Nat) : Hs07.puts (Hs07.done s p) c coins hops = Hs07.done (Hs07.puts s c coins hops) p := rfl
theorem gets_len {s : Hs07.St} {c : Nat} {m : Hs07.Msg} : (Hs07.gets s c m).procs.length = s.procs.length := by
  have so : ∀ (l : List Nat) (hops : Nat) (t : Hs07.St), (Hs07.sendsOn t hops l).procs.length = t.procs.length := by
    intro l hops
    induction l with
    | nil => intro t; rfl
    | cons c r ih =>
      intro t
      show (Hs07.sendsOn (Hs07.puts t c _ hops) hops r).procs.length = _
      rw [ih, puts_procs]
  unfold Hs07.gets
  by_cases h : m.hops = 0
  · simp only [h, if_true]; exact List.length_set
  · simp only [h, if_false]; rw [so]; exact List.length_set
section
variable {P : Program} {w : World} {K : PySem.W.Frag} {mg : Str → Option Value} {base : Heap} (T : Env K mg)
def spNet_put_as_deed : Sp := fun vs H Q _ => ∃ (S : Sto) (s : Hs07.St) (c coins hops : Nat), vs = [.ref (S.ad .net), .int ((c : Int) + 1), .int coins, .int hops] ∧ Hold H S ∧ Shape T S s ∧ c < s.chans.length ∧
  coins ≤ (Hs07.proc s (Hs07.source s c)).purse ∧ (Hs07.items s c).length < sizeLine ∧ ∀ H' S', Go T H S H' S' (Hs07.putting s c coins hops) → Q .non H'
theorem ok_Net_put_as_deed : FnOk P w K mg base CX0 4 T.f_Net_put_as_deed T.d_Net_put_as_deed ["self", "c", "coins", "hops"] (spNet_put_as_deed T) := by
  refine T.F_Net_put_as_deed.ok sc_Net_put_as_deed (fun vs H Q E h => ?_) (fun cdv A outer s H vs Q E hr h => ?_)
  · obtain ⟨S, s, c, coins, hops, rfl, _⟩ := h
    rfl
  · obtain ⟨S, s, c, coins, hops, rfl, hH, hS, hc, hco, hlen, k⟩ := h
    obtain ⟨dn, en⟩ := hS.net
    refine ⟨_, (pss_cons (ps_expr (pe_meth (pv 0) T.c_Net T.m_Net_count_deed (ok_Net_count_deed T) (hr.mono (by decide)) T.b_Net_count_deed .nil pass0 (pa_cons (pe_fld (pe_meth (pv 0) T.c_Net T.m_Net_channel (ok_Net_channel T) (hr.mono (by decide)) T.b_Net_channel .nil pass0 (pa_cons (pv 1) pa_nil)) rfl) pa_nil)))
      (pss_one (ps_expr (pe_meth (pv 0) T.c_Net T.m_Net_put_message (ok_Net_put_message T) (hr.mono (by decide)) T.b_Net_put_message .nil pass0 (pa_cons (pv 1) (pa_cons (pv 2) (pa_cons (pv 3) pa_nil))))))), ?_⟩
    have ex : s.chans[c]? = some s.chans[c] := List.getElem?_eq_getElem hc
    obtain ⟨dc, ec⟩ := hS.chan c _ ex
    have es : Hs07.source s c = s.chans[c].1 := by unfold Hs07.source; rw [getD_of ex]
    have hq := src_lt hS.wf hc
    refine ⟨_, rfl, _, dn, _, rfl, hH.at_ _ _ en, rfl, _, rfl, _, dn, _, rfl, hH.at_ _ _ en, rfl, _, rfl, S, s, c, rfl, hH, hS.sk, hc, _, T.cChannel, dc, _, _, rfl, hH.at_ _ _ ec, T.c_Channel, T.n_Channel_source, rfl, ?_⟩
    refine ⟨S, s, Hs07.source s c, by rw [es]; rfl, hH, hS, hq, fun H1 S1 g1 => ?_⟩
    obtain ⟨dn1, en1⟩ := g1.shape.net
    rw [← g1.ad]
    refine ⟨_, rfl, _, dn1, _, rfl, g1.hold.at_ _ _ en1, rfl, _, rfl, _, rfl, _, rfl, ?_⟩
    refine ⟨S1, _, c, coins, hops, rfl, g1.hold, g1.shape, hc, hco, hlen, fun H' S' h1 h2 h3 h4 h5 => k H' S' (g1.trans ⟨h1, h2, ?_, h4, h5⟩)⟩
    rw [put_eq] at h3
    exact h3
def took (s : Hs07.St) (c : Nat) (m : Hs07.Msg) : Hs07.St := Hs07.done (Hs07.gets { s with pics := s.pics.map fun x => Hs07.added x (Hs07.target s c) c m } c m) (Hs07.target s c)
def spNet_take_message : Sp := fun vs H Q _ => ∃ (S : Sto) (s : Hs07.St) (c N : Nat) (a : Addr) (m : Hs07.Msg), vs = [.ref (S.ad .net), .int ((c : Int) + 1), .ref a] ∧ Hold H S ∧ Shape T S s ∧ c < s.chans.length ∧ MsgAt T S a m ∧ Bd N s ∧ N + 17 < sizeLine ∧
  ∀ H' S' l, Go T H S H' S' (took s c m) → Bd (N + 17) (took s c m) → H' l = none → Q (.ref l) (upd H' l (.lst (vi [1, m.coins, m.hops, (Hs07.proc (took s c m) (Hs07.target s c)).purse])))
theorem Bd.added {N : Nat} {s : Hs07.St} (h : Bd N s) (p c : Nat) (m : Hs07.Msg) : Bd (N + 1) { s with pics := s.pics.map fun x => Hs07.added x p c m } :=
  ⟨fun l hl => Nat.le_succ_of_le (h.on l hl), fun x hx l hl => by
    obtain ⟨y, hy, rfl⟩ := List.mem_map.mp hx
    unfold Hs07.added at hl
    split at hl
    · rcases mem_set hl with e | e
      · rw [e, List.length_append]
        refine Nat.succ_le_succ ?_
        rw [List.getD_eq_getElem?_getD]
        cases q : y.came[c]? with
        | none => simp
        | some z => exact h.came y hy z (List.mem_of_getElem? q)
      · exact Nat.le_succ_of_le (h.came y hy l e)
    · exact Nat.le_succ_of_le (h.came y hy l hl)⟩
theorem ok_Net_take_message : FnOk P w K mg base CX0 6 T.f_Net_take_message T.d_Net_take_message ["self", "c", "message"] (spNet_take_message T) := by
  refine T.F_Net_take_message.ok sc_Net_take_message (fun vs H Q E h => ?_) (fun cdv A outer s H vs Q E hr h => ?_)
  · obtain ⟨S, s, c, N, a, m, rfl, _⟩ := h
    rfl
  · obtain ⟨S, s, c, N, a, m, rfl, hH, hS, hc, ⟨da, ea⟩, hB, hN, k⟩ := h
    obtain ⟨dn, en⟩ := hS.net
    refine ⟨_, (pss_cons (ps_set (i := 3) sc_Net_take_message.nd rfl (Or.inl rfl) (pe_fld (pe_meth (pv 0) T.c_Net T.m_Net_channel (ok_Net_channel T) (hr.mono (by decide)) T.b_Net_channel .nil pass0 (pa_cons (pv 1) pa_nil)) rfl))
      (pss_cons (ps_expr (pe_meth (pv 0) T.c_Net T.m_Net_count_deed (ok_Net_count_deed T) (hr.mono (by decide)) T.b_Net_count_deed .nil pass0 (pa_cons (pv 3) pa_nil)))
      (pss_cons (ps_lock (ps_for PassesOwn.never rfl (pi_values (pe_fld (pv 0) rfl)) (pg_name (i := 4) sc_Net_take_message.nd rfl (Or.inl rfl)) (pss_one (ps_expr (pe_meth (pv 4) T.c_Picture T.m_Picture_see_message (ok_Picture_see_message T) (hr.mono (by decide)) T.b_Picture_see_message .nil pass0 (pa_cons (pv 1) (pa_cons (pv 3) (pa_cons (pv 2) pa_nil))))))))
      (pss_cons (ps_expr (pe_meth (pv 0) T.c_Net T.m_Net_get_message (ok_Net_get_message T) (hr.mono (by decide)) T.b_Net_get_message .nil pass0 (pa_cons (pv 1) (pa_cons (pv 2) pa_nil))))
      (pss_one (ps_ret (pe_lst (pa_cons (pe_gint rfl T.g_MESSAGE) (pa_cons (pe_fld (pv 2) rfl) (pa_cons (pe_fld (pv 2) rfl) (pa_cons (pe_fld (pe_meth (pv 0) T.c_Net T.m_Net_process (ok_Net_process T) (hr.mono (by decide)) T.b_Net_process .nil pass0 (pa_cons (pv 3) pa_nil)) rfl) pa_nil))))))))))), ?_⟩
    have ex : s.chans[c]? = some s.chans[c] := List.getElem?_eq_getElem hc
    obtain ⟨dc, ec⟩ := hS.chan c _ ex
    have es : Hs07.target s c = s.chans[c].2 := by unfold Hs07.target; rw [getD_of ex]
    have hq := tgt_lt hS.wf hc
    have line : (s.chans[c].2 : Int) + 1 = ((Hs07.target s c : Nat) : Int) + 1 := by rw [es]
    refine ⟨_, rfl, _, dn, _, rfl, hH.at_ _ _ en, rfl, _, rfl, S, s, c, rfl, hH, hS.sk, hc, _, T.cChannel, dc, _, _, rfl, hH.at_ _ _ ec, T.c_Channel, T.n_Channel_target, rfl, ?_⟩
    refine ⟨_, rfl, _, dn, _, rfl, hH.at_ _ _ en, rfl, _, rfl, S, s, Hs07.target s c, by rw [es]; rfl, hH, hS, hq, fun H1 S1 g1 => ?_⟩
    have hB1 := hB.done (Hs07.target s c)
    have ea1 := g1.im _ _ ea
    unfold took at k
    rw [← taken_eq] at k
    have ht1 : Hs07.target (Hs07.done s (Hs07.target s c)) c = Hs07.target s c := rfl
    have hc1 : c < (Hs07.done s (Hs07.target s c)).chans.length := hc
    have hq1 : Hs07.target s c < (Hs07.done s (Hs07.target s c)).procs.length := hq
    generalize Hs07.target s c = p at *
    generalize hs1 : Hs07.done s p = s1 at *
    have epd := g1.shape.pdict
    obtain ⟨kvs, ekv⟩ : ∃ kvs, (s1.pics.map fun x => ((Sum.inl (x.number : Int) : Key), V.ref (S1.ad (.pic x.number)))) = kvs := ⟨_, rfl⟩
    have lkv : kvs.length = s1.pics.length := by rw [← ekv, List.length_map]
    rw [ekv] at epd
    have gpd := g1.hold.at_ _ _ epd
    rw [← g1.ad]
    refine ⟨_, _, gpd, trivial, fun od => ?_⟩
    have L0 := Lk.start g1.hold g1.shape epd od
    obtain ⟨dn1, en1⟩ := L0.shape.net
    have gn1 := L0.hold.at_ .net _ (by simpa using en1)
    refine ⟨_, rfl, _, T.cNet, dn1, _, _, rfl, gn1, T.c_Net, T.n_Net_pictures, rfl, _, od, _, rfl, L0.at_, for_vals (kvs := kvs) (fun i σ H' => ∃ (v : Option V) (S' : Sto), σ = [some (.ref (S1.ad .net)), some (.int ((c : Int) + 1)), some (.ref a), some (.int ((s.chans[c].2 : Int) + 1)), v] ∧ Lk T H1 S1 od _ H' S' { s1 with pics := part (fun x => Hs07.added x p c m) s1.pics i }) ⟨none, _, rfl, L0⟩ ?_ ?_ ?_⟩
    · rintro i σ H' hi ⟨v, S', rfl, L⟩
      exact L.at_
    · rintro i k' y σ H' hy ⟨v, S', rfl, L⟩
      obtain ⟨x, hx, e1, e2⟩ : ∃ x, s1.pics[i]? = some x ∧ Sum.inl (x.number : Int) = k' ∧ V.ref (S1.ad (.pic x.number)) = y := by
        have hy' := hy
        rw [← ekv, List.getElem?_map] at hy'
        cases q : s1.pics[i]? with
        | none => rw [q] at hy'; cases hy'
        | some x =>
          rw [q] at hy'
          have := Option.some.inj hy'
          exact ⟨x, rfl, congrArg Prod.fst this, congrArg Prod.snd this⟩
      subst e1 e2
      have hx' : ({ s1 with pics := part (fun x => Hs07.added x p c m) s1.pics i } : Hs07.St).pics[i]? = some x := part_get hx
      have hP := L.pic (List.mem_of_getElem? hx')
      obtain ⟨dq, eq⟩ := hP.pic
      have hw := g1.shape.wf.pics x (List.mem_of_getElem? hx)
      have hpl : p < x.has.length := by rw [hw.1]; exact hq1
      have hcs : c < x.shut.length := by rw [hw.2.2.1]; exact hc1
      have hcc : c < x.came.length := by rw [hw.2.1]; exact hc1
      have ecm : x.came[c]? = some x.came[c] := List.getElem?_eq_getElem hcc
      obtain ⟨as, ecl, hcl⟩ := hP.cl c _ ecm
      have hlen : as.length < sizeLine := by
        rw [Paired.length hcl]
        exact Nat.lt_of_le_of_lt (hB1.came x (List.mem_of_getElem? hx) _ (List.mem_of_getElem? ecm)) (by omega)
      rw [← L.ad, line]
      refine ⟨_, rfl, _, dq, _, rfl, L.hold.at_ _ _ eq, rfl, _, rfl, _, rfl, _, rfl, S', x, c, p, a, as, rfl, L.hold, hP, hpl, hcs, hcc, ecl, hlen, fun h1 => ?_, fun h1 => ?_⟩
      · refine ⟨_, _, rfl, L.write (r := .cl x.number c) ecl (by simp) (by simp) ?_⟩
        have ea' : MsgAt T (S'.put .pdict (.dK kvs)) a m := ⟨da, by simpa using L.im _ _ ea1⟩
        have z := L.shape.caughtAt hx' ecm (Paired.mapP hcl fun b it ⟨dx, z⟩ => ⟨dx, by simpa using z⟩) ea'
        have eA : Hs07.added x p c m = { x with came := x.came.set c (x.came[c] ++ [m]) } := by
          unfold Hs07.added
          rw [if_pos h1, getD_of ecm]
        rw [← part_set hx, eA]
        exact z
      · refine ⟨_, S', rfl, ?_⟩
        rw [← part_same (f := fun x => Hs07.added x p c m) hx (show Hs07.added x p c m = x from if_neg h1)]
        exact L
    · rintro σ H2' ⟨v, S2', rfl, L⟩
      refine ⟨L.at_, ?_⟩
      have g2 := L.stop
      rw [lkv, part_all] at g2
      have g12 := g1.trans g2
      have ea2 : MsgAt T (S2'.put .pdict (.dK kvs)) a m := ⟨da, g12.im _ _ ea⟩
      have hB2 := hB1.added p c m
      have hq2 : p < (Hs07.gets { s1 with pics := s1.pics.map fun x => Hs07.added x p c m } c m).procs.length := by rw [gets_len]; exact hq1
      generalize upd H2' (S1.ad .pdict) (.dK kvs) = H2 at *
      generalize S2'.put .pdict (.dK kvs) = S2 at *
      have hc2 : c < ({ s1 with pics := s1.pics.map fun x => Hs07.added x p c m } : Hs07.St).chans.length := hc1
      generalize ({ s1 with pics := s1.pics.map fun x => Hs07.added x p c m } : Hs07.St) = s2 at *
      obtain ⟨dn2, en2⟩ := g2.shape.net
      rw [← g2.ad]
      refine ⟨_, rfl, _, dn2, _, rfl, g2.hold.at_ _ _ en2, rfl, _, rfl, _, rfl, S2, s2, c, a, m, N + 1, rfl, g2.hold, g2.shape, hc2, ea2, hB2, by omega, fun H3 S3 g3 hB3 => ?_⟩
      have g13 := g12.trans g3
      have ga3 := g13.hold.at_ _ _ (g13.im _ _ ea)
      rw [g13.hold.imm] at ga3
      obtain ⟨dn3, en3⟩ := g3.shape.net
      obtain ⟨dp3, ep3⟩ := g3.shape.proc _ _ (proc_of hq2)
      rw [← g3.ad]
      refine ⟨_, rfl, _, T.cMessage, da, _, _, rfl, ga3, T.c_Message, T.n_Message_coins, rfl, _, rfl, _, T.cMessage, da, _, _, rfl, ga3, T.c_Message, T.n_Message_hops, rfl, _, rfl, _, dn3, _, rfl, g3.hold.at_ _ _ en3, rfl, _, rfl, S3, _, p, by rw [← line]; rfl, g3.hold, g3.shape.sk, hq2, _, T.cProcess, dp3, _, _, rfl, g3.hold.at_ _ _ ep3, T.c_Process, T.n_Process_purse, rfl, (by show 4 ≤ sizeLine; decide), fun l hl => ?_⟩
      exact k H3 S3 l g13 (hB3.mono (by omega)) hl
def spNet_take_first : Sp := fun vs H Q _ => ∃ (S : Sto) (s : Hs07.St) (c N : Nat), vs = [.ref (S.ad .net), .int ((c : Int) + 1)] ∧ Hold H S ∧ Shape T S s ∧ c < s.chans.length ∧ (Hs07.items s c).isEmpty = false ∧ Bd N s ∧ N + 17 < sizeLine ∧
  ∀ H' S' l, Go T H S H' S' (Hs07.taking s c) → Bd (N + 17) (Hs07.taking s c) → H' l = none → Q (.ref l) (upd H' l (.lst (vi (Hs07.takeTold s c))))
theorem TyMsg {H : Hp} {S : Sto} (hH : Hold H S) {a da : Addr} {m : Hs07.Msg} (e : S.ob (.imm a) = some (.ins T.cMessage da (msgF m))) : TyOf K H (.ref a) (.ref T.cMessage) := by
  have ga := hH.at_ _ _ e
  rw [hH.imm] at ga
  exact TyOf.ins ga T.c_Message T.i1_Message T.i2 T.i3 T.i4_Message
theorem TyMark {H : Hp} {S : Sto} (hH : Hold H S) {a da : Addr} {k : Nat} (e : S.ob (.imm a) = some (.ins T.cMark da (markF k))) : TyOf K H (.ref a) (.ref T.cMark) := by
  have ga := hH.at_ _ _ e
  rw [hH.imm] at ga
  exact TyOf.ins ga T.c_Mark T.i1_Mark T.i2 T.i3 T.i4_Mark
theorem Bd.popped {N : Nat} {s : Hs07.St} (h : Bd N s) {c : Nat} {it : Hs07.Item} {r : List Hs07.Item} (e : Hs07.items s c = it :: r) : Bd N { s with on := s.on.set c r } :=
  h.setOn (by have := h.items c; rw [e] at this; exact Nat.le_of_succ_le this)
theorem ok_Net_take_first : FnOk P w K mg base CX0 7 T.f_Net_take_first T.d_Net_take_first ["self", "c"] (spNet_take_first T) := by
  refine T.F_Net_take_first.ok sc_Net_take_first (fun vs H Q E h => ?_) (fun cdv A outer s H vs Q E hr h => ?_)
  · obtain ⟨S, s, c, N, rfl, _⟩ := h
    rfl
  · obtain ⟨S, s, c, N, rfl, hH, hS, hc, hne, hB, hN, k⟩ := h
    obtain ⟨dn, en⟩ := hS.net
    refine ⟨_, (pss_cons (ps_set (i := 2) sc_Net_take_first.nd rfl (Or.inl rfl) (pe_bm PySem.F.plainAttrs_list PySem.F.slot_list_pop PySem.F.type_list_pop mt_popAt (pe_fld (pe_meth (pv 0) T.c_Net T.m_Net_channel (ok_Net_channel T) (hr.mono (by decide)) T.b_Net_channel .nil pass0 (pa_cons (pv 1) pa_nil)) rfl) (pa_cons pe_int pa_nil)))
      (pss_cons (ps_if (pt_val (pe_callB call_isinst rfl T.n_isinstance boot_isinstance (pa_cons (pv 2) (pa_cons (pe_gref rfl T.g_Mark) pa_nil)))) (pss_one (ps_ret (pe_meth (pv 0) T.c_Net T.m_Net_take_mark (ok_Net_take_mark T) (hr.mono (by decide)) T.b_Net_take_mark .nil pass0 (pa_cons (pv 1) (pa_cons (pe_fld (pv 2) rfl) pa_nil))))) pss_nil)
      (pss_one (ps_ret (pe_meth (pv 0) T.c_Net T.m_Net_take_message (ok_Net_take_message T) (hr.mono (by decide)) T.b_Net_take_message .nil pass0 (pa_cons (pv 1) (pa_cons (pv 2) pa_nil))))))), ?_⟩
    have ex : s.chans[c]? = some s.chans[c] := List.getElem?_eq_getElem hc
    obtain ⟨dc, ec⟩ := hS.chan c _ ex
    have hon : c < s.on.length := by rw [hS.wf.on]; exact hc
    have eon := items_get hon
    obtain ⟨as, ew, hw⟩ := hS.wait c _ eon
    obtain ⟨it, r, eit⟩ : ∃ it r, Hs07.items s c = it :: r := by
      cases q : Hs07.items s c with
      | nil => rw [q] at hne; cases hne
      | cons it r => exact ⟨it, r, rfl⟩
    rw [eit] at hw
    cases hw with
    | @cons a _ as' _ ia hr' =>
    refine ⟨_, rfl, _, dn, _, rfl, hH.at_ _ _ en, rfl, _, rfl, S, s, c, rfl, hH, hS.sk, hc, _, T.cChannel, dc, _, _, rfl, hH.at_ _ _ ec, T.c_Channel, T.n_Channel_waiting, rfl, .inl ⟨rfl, _, SqL.of (hH.at_ _ _ ew)⟩, _, _, _, 0, _, rfl, rfl, hH.at_ _ _ ew, by decide, by decide, PySem.StrLaws.seqIndex_nonneg (Int.le_refl 0) (by simp), rfl, ?_⟩
    have g1 : Go T H S (upd H (S.ad (.wait c)) (.lst (as'.map V.ref))) (S.put (.wait c) (.lst (as'.map V.ref))) { s with on := s.on.set c r } := ⟨hH.write ew _, Fr.write ew _, hS.setOn hr', rfl, Im.put (by simp)⟩
    refine hp_eq (H2 := upd H (S.ad (.wait c)) (.lst (as'.map V.ref))) rfl ?_
    have ia1 : ItemAt T (S.put (.wait c) (.lst (as'.map V.ref))) a it := ItemAt.of g1.im ia
    have hB1 := hB.popped eit
    generalize upd H (S.ad (.wait c)) (.lst (as'.map V.ref)) = H1 at *
    generalize S.put (.wait c) (.lst (as'.map V.ref)) = S1 at *
    obtain ⟨dn1, en1⟩ := g1.shape.net
    have gn1 := g1.hold.at_ _ _ en1
    have hc1 : c < ({ s with on := s.on.set c r } : Hs07.St).chans.length := hc
    rw [← g1.ad]
    unfold Hs07.taking Hs07.takeTold at k
    rw [eit] at k
    cases it with
    | msg m =>
      obtain ⟨da, ea⟩ := ia1
      refine ⟨_, rfl, _, _, _, _, rfl, TyMsg T g1.hold ea, T.ik_Message_Mark, _, rfl, iteF ?_⟩
      refine ⟨_, rfl, _, dn1, _, rfl, gn1, rfl, _, rfl, _, rfl, S1, _, c, N, a, m, rfl, g1.hold, g1.shape, hc1, ⟨da, ea⟩, hB1, hN, fun H' S' l g2 hB2 hl => ?_⟩
      have et : Hs07.taking s c = took { s with on := s.on.set c r } c m := by
        unfold Hs07.taking
        rw [eit]
        rfl
      have z := k H' S' l (g1.trans g2) hB2 hl
      rw [et] at z
      exact z
    | mark i =>
      obtain ⟨da, ea⟩ := ia1
      have ga := g1.hold.at_ _ _ ea
      rw [g1.hold.imm] at ga
      refine ⟨_, rfl, _, _, _, _, rfl, TyMark T g1.hold ea, T.ik_Mark_Mark, _, rfl, iteT ?_⟩
      refine ⟨_, rfl, _, dn1, _, rfl, gn1, rfl, _, rfl, _, rfl, _, T.cMark, da, _, _, rfl, ga, T.c_Mark, T.n_Mark_picture_number, rfl, S1, _, c, i, N, rfl, g1.hold, g1.shape, hc1, hB1, by omega, fun H' S' l g2 hB2 hl => ?_⟩
      have z := k H' S' l (g1.trans g2) (hB2.mono (by omega)) hl
      have ek : (vi [2, i, match Hs07.picOf s i with | some x => if Hs07.hasDone x (Hs07.target s c) = true then 0 else 1 | none => 0]) = [V.int 2, V.int i, V.int (match Hs07.picOf s i with | some x => if Hs07.hasDone x (Hs07.target s c) = true then 0 else 1 | none => 0)] := by
        cases Hs07.picOf s i with
        | none => rfl
        | some x => by_cases h : Hs07.hasDone x (Hs07.target s c) = true <;> simp [vi, h]
      exact hp_eq (F := Q (.ref l)) (congrArg (fun q => upd H' l (.lst q)) ek.symm) z
end
end Cp

set_option Elab.async false
set_option linter.all false
set_option maxRecDepth 100000
set_option maxHeartbeats 2000000
namespace Cp
open PySem PySem.Spec PyProof.Rows L2
def begun (s : Hs07.St) : Hs07.St := { s with pics := s.pics ++ [Hs07.blank s], last := s.last + 1 }
section
variable {K : PySem.W.Frag} {mg : Str → Option Value} {T : Env K mg} {S S' : Sto} {s : Hs07.St}
theorem Shape.begins (h : Shape T S s) (lt : s.pics.length < 8) {dx : Addr} (off : ∀ r, isPic (s.last + 1) r = false → r ≠ .net → r ≠ .pdict → S'.ob r = S.ob r) (ad : ∀ r, isPic (s.last + 1) r = false → S'.ad r = S.ad r)
    (net : S'.ob .net = some (.ins T.cNet dx (netF (S.ad .plist) (S.ad .clist) (S.ad .pdict) (s.last + 1) s.deeds)))
    (pd : S'.ob .pdict = some (.dK ((s.pics.map fun x => ((Sum.inl (x.number : Int) : Key), V.ref (S.ad (.pic x.number)))) ++ [(Sum.inl ((s.last + 1 : Nat) : Int), V.ref (S'.ad (.pic (s.last + 1))))]))) (P : PicAt T S' (Hs07.blank s)) : Shape T S' (begun s) := by
  have im : ∀ a o, S.ob (.imm a) = some o → S'.ob (.imm a) = some o := fun a o e => by rw [off _ rfl (by simp) (by simp)]; exact e
  have ne : ∀ x ∈ s.pics, x.number ≠ s.last + 1 := fun x hx e => by
    have := (h.wf.pics x hx).2.2.2
    omega
  have np : ∀ x ∈ s.pics, ∀ r, isPic x.number r = true → isPic (s.last + 1) r = false := fun x hx r hr => by
    have := ne x hx
    cases r <;> simp_all [isPic]
  have notnet : ∀ x ∈ s.pics, ∀ r, isPic x.number r = true → S'.ob r = S.ob r := fun x hx r hr => off r (np x hx r hr) (fun e => by subst e; cases hr) (fun e => by subst e; cases hr)
  refine ⟨⟨dx, ?_⟩, ?_, ?_, ?_, ?_, ?_, ?_, ?_, ?_, ⟨h.wf.ends, h.wf.on, ?_, ?_, h.wf.np, h.wf.nc, ?_⟩⟩
  · rw [ad .plist rfl, ad .clist rfl, ad .pdict rfl]; exact net
  · rw [off .plist rfl (by simp) (by simp), h.plist]
    simp only [begun, ad (.proc _) rfl]
  · intro i p hp
    rw [off (.proc i) rfl (by simp) (by simp), ad (.leav i) rfl]; exact h.proc i p hp
  · intro i hi; rw [off (.leav i) rfl (by simp) (by simp)]; exact h.leav i hi
  · rw [off .clist rfl (by simp) (by simp), h.clist]
    simp only [begun, ad (.chan _) rfl]
  · intro c x hx; rw [off (.chan c) rfl (by simp) (by simp), ad (.wait c) rfl]; exact h.chan c x hx
  · intro c l hl
    obtain ⟨as, q, r⟩ := h.wait c l hl
    exact ⟨as, by rw [off (.wait c) rfl (by simp) (by simp)]; exact q, Paired.mapP r fun a it z => z.of im⟩
  · rw [pd]
    show _ = some (HO.dK ((s.pics ++ [Hs07.blank s]).map _))
    rw [List.map_append]
    refine congrArg (fun z => some (HO.dK (z ++ _))) (List.map_congr_left fun x hx => ?_)
    rw [ad (.pic x.number) (np x hx _ (by simp [isPic]))]
  · intro x hx
    rcases List.mem_append.mp (show x ∈ s.pics ++ [Hs07.blank s] from hx) with hx | hx
    · have f := notnet x hx
      have g := np x hx
      have P' := h.pic x hx
      refine ⟨?_, ?_, ?_, ?_, fun c l hl => ?_⟩
      · rw [f _ (by simp [isPic]), ad (.recs _) (g _ (by simp [isPic])), ad (.shut _) (g _ (by simp [isPic])), ad (.caught _) (g _ (by simp [isPic]))]; exact P'.pic
      · obtain ⟨kvs, q, r⟩ := P'.recs
        exact ⟨kvs, by rw [f _ (by simp [isPic])]; exact q, r.of im⟩
      · rw [f _ (by simp [isPic])]; exact P'.shut
      · rw [f _ (by simp [isPic]), P'.caught]
        refine congrArg (fun z => some (HO.lst z)) (List.map_congr_left fun c _ => ?_)
        rw [ad (.cl _ _) (g _ (by simp [isPic]))]
      · obtain ⟨as, q, r⟩ := P'.cl c l hl
        exact ⟨as, by rw [f _ (by simp [isPic])]; exact q, Paired.mapP r fun a it ⟨dx, z⟩ => ⟨dx, im _ _ z⟩⟩
    · have e : x = Hs07.blank s := by simpa using hx
      rw [e]; exact P
  · intro x hx
    rcases List.mem_append.mp (show x ∈ s.pics ++ [Hs07.blank s] from hx) with hx | hx
    · have := h.wf.pics x hx
      exact ⟨this.1, this.2.1, this.2.2.1, Nat.le_succ_of_le this.2.2.2⟩
    · have e : x = Hs07.blank s := by simpa using hx
      rw [e]
      exact ⟨List.length_map .., List.length_map .., List.length_map .., Nat.le_refl _⟩
  · show ((s.pics ++ [Hs07.blank s]).map (·.number)).Nodup
    rw [List.map_append, List.nodup_append]
    refine ⟨h.wf.nd, by simp, fun a ha b hb => ?_⟩
    obtain ⟨x, hx, rfl⟩ := List.mem_map.mp ha
    have e : b = s.last + 1 := by simpa [Hs07.blank] using hb
    rw [e]
    exact ne x hx
  · show (s.pics ++ [Hs07.blank s]).length ≤ 8
    rw [List.length_append]
    simp
    omega
structure Mid (H : Hp) (S : Sto) (p : Addr) (k : Nat) (rc sh : Addr) (H' : Hp) (S' : Sto) (i : Nat) : Prop where
  hold : Hold H' S'
  off : ∀ r, isPic k r = false → S'.ob r = S.ob r ∧ S'.ad r = S.ad r
  recs : S'.ob (.recs k) = some (.dK [])
  shut : S'.ob (.shut k) = some (.dK [])
  ar : S'.ad (.recs k) = rc
  as : S'.ad (.shut k) = sh
  cl : ∀ c, c < i → S'.ob (.cl k c) = some (.lst [])
  fr : ∀ b o, H b = some o → ¬ Own S b → b ≠ p → H' b = some o ∧ ¬ Own S' b
  np : ¬ Own S' p
end
section
variable {P : Program} {w : World} {K : PySem.W.Frag} {mg : Str → Option Value} {base : Heap} (T : Env K mg)
def spPicture_init : Sp := fun vs H Q _ => ∃ (S : Sto) (k : Nat) (p dx : Addr) (n m d : Nat), vs = [.ref p, .int n, .int m, .int d] ∧ Hold H S ∧ H p = some (.ins T.cPicture dx []) ∧ ¬ Own S p ∧ m ≤ 16 ∧
  ∀ H' S', Hold H' S' → (∀ r, isPic k r = false → S'.ob r = S.ob r ∧ S'.ad r = S.ad r) → S'.ad (.pic k) = p → PicAt T S' ⟨k, List.replicate n none, List.replicate m [], List.replicate m false, d⟩ → (∀ b o, H b = some o → ¬ Own S b → b ≠ p → H' b = some o ∧ ¬ Own S' b) → Q .non H'
theorem ok_Picture_init : FnOk P w K mg base CX0 1 T.f_Picture_init T.d_Picture_init ["self", "process_count", "channel_count", "deeds_before"] (spPicture_init T) := by
  refine T.F_Picture_init.ok sc_Picture_init (fun vs H Q E h => ?_) (fun cdv A outer s H vs Q E hr h => ?_)
  · obtain ⟨S, k, p, dx, n, m, d, rfl, _⟩ := h
    rfl
  · obtain ⟨S, k, p, dx, n, m, d, rfl, hH, hp, np, hm, kk⟩ := h
    refine ⟨_, (pss_cons (ps_fld (pv 0) (pv 1) rfl)
      (pss_cons (ps_fld (pv 0) (pv 3) rfl)
      (pss_cons (ps_fld (pv 0) pe_dnewK rfl)
      (pss_cons (ps_fld (pv 0) pe_dnewK rfl)
      (pss_one (ps_fld (pv 0) (pe_lc rfl sc_Picture_init.nd (pi_range1 rfl T.n_range (pa_cons (pv 2) pa_nil)) (blkOk_by (own := [("c", 4)]) (by kernel_rfl!)) (fun _ _ _ _ _ => pg_name (i := 4) sc_Picture_init.nd rfl (Or.inl rfl)) (fun _ _ _ _ _ => pts_nil) (fun _ _ _ _ _ => pe_lst pa_nil)) rfl)))))), ?_⟩
    refine ⟨_, rfl, _, rfl, p, T.cPicture, dx, _, rfl, hp, T.c_Picture, T.n_Picture_process_count, lt1000 rfl, ?_⟩
    refine ⟨_, rfl, _, rfl, p, T.cPicture, dx, _, rfl, upd_same, T.c_Picture, T.n_Picture_deeds_before, lt1000 rfl, ?_⟩
    intro rc hrc
    have prc : p ≠ rc := ne_of_none upd_same hrc
    refine ⟨_, rfl, p, T.cPicture, dx, _, rfl, by rw [upd_ne prc]; exact upd_same, T.c_Picture, T.n_Picture_records, lt1000 rfl, ?_⟩
    intro sh hsh
    have psh : p ≠ sh := ne_of_none upd_same hsh
    refine ⟨_, rfl, p, T.cPicture, dx, _, rfl, by rw [upd_ne psh]; exact upd_same, T.c_Picture, T.n_Picture_shut, lt1000 rfl, ?_⟩
    rw [upd_ne psh.symm] at hsh
    have rcsh : rc ≠ sh := ne_of_none upd_same hsh
    rw [upd_ne rcsh.symm, upd_ne psh.symm, upd_ne psh.symm] at hsh
    rw [upd_ne prc.symm, upd_ne prc.symm] at hrc
    refine hp_eq (H2 := upd (upd (upd H rc (.dK [])) sh (.dK [])) p (.ins T.cPicture dx [("process_count", .int n), ("deeds_before", .int d), ("records", .ref rc), ("shut", .ref sh)])) (by rw [upd_upd, upd3 prc, upd3 psh]; rfl) ?_
    have k1 : Hold (upd H rc (.dK [])) (S.lay (.recs k) rc (.dK [])) := hH.lay hrc _ (fun b e => by cases e)
    have hsh' : upd H rc (.dK []) sh = none := by rw [upd_ne rcsh.symm]; exact hsh
    have k2 : Hold (upd (upd H rc (.dK [])) sh (.dK [])) ((S.lay (.recs k) rc (.dK [])).lay (.shut k) sh (.dK [])) := k1.lay hsh' _ (fun b e => by cases e)
    have np2 : ¬ Own ((S.lay (.recs k) rc (.dK [])).lay (.shut k) sh (.dK [])) p := not_own_lay (not_own_lay np prc) psh
    have M0 : Mid H S p k rc sh (upd (upd (upd H rc (.dK [])) sh (.dK [])) p (.ins T.cPicture dx [("process_count", .int n), ("deeds_before", .int d), ("records", .ref rc), ("shut", .ref sh)])) ((S.lay (.recs k) rc (.dK [])).lay (.shut k) sh (.dK [])) 0 := by
      refine ⟨k2.aside np2 _, fun r hr => ?_, by simp, by simp, by simp, by simp, fun c hc => absurd hc (Nat.not_lt_zero _), fun b o e no nb => ?_, np2⟩
      · have h1 : r ≠ .recs k := fun z => by subst z; simp [isPic] at hr
        have h2 : r ≠ .shut k := fun z => by subst z; simp [isPic] at hr
        simp [h1, h2]
      · exact ⟨by rw [upd_ne nb, upd_ne (ne_of_none e hsh), upd_ne (ne_of_none e hrc)]; exact e, not_own_lay (not_own_lay no (ne_of_none e hrc)) (ne_of_none e hsh)⟩
    have hp0 : upd (upd (upd H rc (.dK [])) sh (.dK [])) p (.ins T.cPicture dx [("process_count", .int n), ("deeds_before", .int d), ("records", .ref rc), ("shut", .ref sh)]) p = some (.ins T.cPicture dx [("process_count", .int n), ("deeds_before", .int d), ("records", .ref rc), ("shut", .ref sh)]) := upd_same
    generalize upd (upd (upd H rc (.dK [])) sh (.dK [])) p (.ins T.cPicture dx [("process_count", .int n), ("deeds_before", .int d), ("records", .ref rc), ("shut", .ref sh)]) = H4 at *
    generalize (S.lay (.recs k) rc (.dK [])).lay (.shut k) sh (.dK []) = S4 at *
    have line : 100 < sizeLine := by decide
    refine ⟨_, rfl, _, rfl, by omega, by omega, fun D hD => ?_⟩
    rw [Int.toNat_natCast]
    have pD : p ≠ D := ne_of_none hp0 hD
    refine lc_range (lo := 0) (n := m) (fun i H' => ∃ S', Mid H S p k rc sh H' S' i ∧ H' D = some (.lst ((List.range i).map fun c => V.ref (S'.ad (.cl k c)))) ∧ ¬ Own S' D ∧ H' p = some (.ins T.cPicture dx [("process_count", .int n), ("deeds_before", .int d), ("records", .ref rc), ("shut", .ref sh)]) ∧ (∀ b o, H b = some o → ¬ Own S b → b ≠ D))
      ⟨S4, ⟨M0.hold.other hD _, M0.off, M0.recs, M0.shut, M0.ar, M0.as, M0.cl, fun b o e no nb => ⟨by rw [upd_ne (ne_of_none (M0.fr b o e no nb).1 hD)]; exact (M0.fr b o e no nb).1, (M0.fr b o e no nb).2⟩, M0.np⟩, upd_same, M0.hold.notOwn hD, by rw [upd_ne pD]; exact hp0, fun b o e no => ?_⟩ ?_ ?_
    · by_cases hb : b = p
      · rw [hb]; exact pD
      · exact ne_of_none (M0.fr b o e no hb).1 hD
    · rintro i H' hi ⟨S', M, hDl, nD, hp', nw⟩
      refine ⟨rfl, ?_⟩
      refine yes_of ?_
      rw [if_pos rfl]
      refine ⟨Nat.zero_le _, fun l hl => ?_⟩
      have Dl : D ≠ l := ne_of_none hDl hl
      have pl : p ≠ l := ne_of_none hp' hl
      refine ⟨_, by rw [upd_ne Dl]; exact hDl, ?_, ?_⟩
      · rw [List.length_map, List.length_range]; omega
      have hk := M.hold.lay (r := .cl k i) hl (.lst []) (fun b e => by cases e)
      have nDl : ¬ Own (S'.lay (.cl k i) l (.lst [])) D := not_own_lay nD Dl
      refine ⟨S'.lay (.cl k i) l (.lst []), ⟨hk.aside nDl _, fun r hr => ?_, by simpa using M.recs, by simpa using M.shut, by simpa using M.ar, by simpa using M.as, fun c hc => ?_, fun b o e no nb => ?_, not_own_lay M.np pl⟩, ?_, nDl, ?_, nw⟩
      · have h1 : r ≠ .cl k i := fun z => by subst z; simp [isPic] at hr
        have h2 := M.off r hr
        simp [h1, h2]
      · by_cases hci : c = i
        · subst hci
          simp
        · simpa [hci] using M.cl c (by omega)
      · obtain ⟨e1, e2⟩ := M.fr b o e no nb
        exact ⟨by rw [upd_ne (nw b o e no), upd_ne (ne_of_none e1 hl)]; exact e1, not_own_lay e2 (ne_of_none e1 hl)⟩
      · rw [upd_same]
        refine congrArg (fun z => some (HO.lst z)) (range_snoc (fun j hj => ?_) ?_).symm
        · have : j ≠ i := by omega
          simp [this]
        · simp
      · rw [upd_ne pD, upd_ne pl]; exact hp'
    · rintro H' ⟨S', M, hDl, nD, hp', nw⟩
      refine ⟨_, rfl, p, T.cPicture, dx, _, rfl, hp', T.c_Picture, T.n_Picture_caught, lt1000 rfl, ?_⟩
      refine hp_eq (H2 := upd H' p (.ins T.cPicture dx (picF n d rc sh D))) rfl ?_
      have a1 : Hold (upd H' p (.ins T.cPicture dx (picF n d rc sh D))) S' := M.hold.aside M.np _
      have a2 := a1.adopt (r := .caught k) (a := D) (by rw [upd_ne pD.symm]; exact hDl) nD (fun b e => by cases e)
      have a3 := a2.adopt (r := .pic k) (a := p) upd_same (not_own_lay M.np pD) (fun b e => by cases e)
      refine kk _ _ a3 (fun r hr => ?_) (by simp) ?_ (fun b o e no nb => ?_)
      · have h1 : r ≠ .caught k := fun z => by subst z; simp [isPic] at hr
        have h2 : r ≠ .pic k := fun z => by subst z; simp [isPic] at hr
        have h3 := M.off r hr
        simp [h1, h2, h3]
      · refine ⟨⟨dx, ?_⟩, ⟨[], by simpa using M.recs, ?_, fun q y hy => ?_, [], .nil, ?_⟩, ⟨[], by simpa using M.shut, ?_, fun q y hy => ?_⟩, ?_, fun c l hl => ?_⟩
        · simp [M.ar, M.as]
        · simp [List.countP_replicate]
        · have e : y = none := by
            have := List.mem_of_getElem? hy
            simpa using (List.mem_replicate.mp this).2
          exact .inl ⟨e, rfl⟩
        · simp [List.map_replicate, purseOf]
        · simp [List.countP_replicate]
        · have e : y = false := by
            have := List.mem_of_getElem? hy
            simpa using (List.mem_replicate.mp this).2
          rw [e]; rfl
        · simp
        · have e := List.mem_replicate.mp (List.mem_of_getElem? hl)
          have hc : c < m := by simpa using (List.getElem?_eq_some_iff.mp hl).1
          refine ⟨[], by simpa using M.cl c hc, ?_⟩
          rw [e.2]
          exact .nil
      · obtain ⟨e1, e2⟩ := M.fr b o e no nb
        exact ⟨by rw [upd_ne nb]; exact e1, not_own_lay (not_own_lay e2 (nw b o e no)) nb⟩
theorem map_none {α β : Type} {c : β} (l : List α) : l.map (fun _ => c) = List.replicate l.length c := by
  induction l with
  | nil => rfl
  | cons a r ih => rw [List.map_cons, ih]; rfl
def spNet_begin_picture : Sp := fun vs H Q _ => ∃ (S : Sto) (s : Hs07.St), vs = [.ref (S.ad .net)] ∧ Hold H S ∧ Shape T S s ∧ s.pics.length < 8 ∧ ∀ H' S', Hold H' S' → Fr H S H' S' → Shape T S' (begun s) → S'.ad .net = S.ad .net → Q (.int ((s.last : Int) + 1)) H'
theorem ok_Net_begin_picture : FnOk P w K mg base CX0 5 T.f_Net_begin_picture T.d_Net_begin_picture ["self"] (spNet_begin_picture T) := by
  refine T.F_Net_begin_picture.ok sc_Net_begin_picture (fun vs H Q E h => ?_) (fun cdv A outer s H vs Q E hr h => ?_)
  · obtain ⟨S, s, rfl, _⟩ := h
    rfl
  · obtain ⟨S, s, rfl, hH, hS, hl8, k⟩ := h
    have hu := hu_of hr
    obtain ⟨dn, en⟩ := hS.net
    refine ⟨_, (pss_cons (ps_fldaug (pv 0) pe_int in_add)
      (pss_cons (ps_dput hu (pe_fld (pv 0) rfl) (pe_fld (pv 0) rfl) (pe_make T.mk_Picture (ok_Picture_init T) (hr.mono (by decide)) rfl T.g_Picture T.b_Picture_init .nil pass0 (pa_cons (pe_callB call_len_seq rfl T.n_len PySem.boot_len (pa_cons (pe_fld (pv 0) rfl) pa_nil)) (pa_cons (pe_callB call_len_seq rfl T.n_len PySem.boot_len (pa_cons (pe_fld (pv 0) rfl) pa_nil)) (pa_cons (pe_fld (pv 0) rfl) pa_nil)))) rfl)
      (pss_one (ps_ret (pe_fld (pv 0) rfl))))), ?_⟩
    refine ⟨_, rfl, _, T.cNet, dn, _, _, rfl, hH.at_ _ _ en, T.c_Net, T.n_Net_begun, rfl, _, _, rfl, rfl, dn, _, hH.at_ _ _ en, lt1000 rfl, ?_⟩
    refine hp_eq (H2 := upd H (S.ad .net) (.ins T.cNet dn (netF (S.ad .plist) (S.ad .clist) (S.ad .pdict) (s.last + 1) s.deeds))) rfl ?_
    have h1 : Hold (upd H (S.ad .net) (.ins T.cNet dn (netF (S.ad .plist) (S.ad .clist) (S.ad .pdict) (s.last + 1) s.deeds))) _ := hH.write en _
    have f1 : Fr H S _ _ := Fr.write en (.ins T.cNet dn (netF (S.ad .plist) (S.ad .clist) (S.ad .pdict) (s.last + 1) s.deeds))
    have en1 : (S.put .net (.ins T.cNet dn (netF (S.ad .plist) (S.ad .clist) (S.ad .pdict) (s.last + 1) s.deeds))).ob .net = some (.ins T.cNet dn (netF (S.ad .plist) (S.ad .clist) (S.ad .pdict) (s.last + 1) s.deeds)) := put_self
    have ad1 : (S.put .net (.ins T.cNet dn (netF (S.ad .plist) (S.ad .clist) (S.ad .pdict) (s.last + 1) s.deeds))).ad = S.ad := rfl
    have of1 : ∀ r, r ≠ .net → (S.put .net (.ins T.cNet dn (netF (S.ad .plist) (S.ad .clist) (S.ad .pdict) (s.last + 1) s.deeds))).ob r = S.ob r := fun r hr => put_ne hr
    generalize upd H (S.ad .net) (.ins T.cNet dn (netF (S.ad .plist) (S.ad .clist) (S.ad .pdict) (s.last + 1) s.deeds)) = H1 at *
    generalize S.put .net (.ins T.cNet dn (netF (S.ad .plist) (S.ad .clist) (S.ad .pdict) (s.last + 1) s.deeds)) = S1 at *
    have gn1 := h1.at_ _ _ en1
    have ep1 : S1.ob .plist = _ := (of1 .plist (by simp)).trans hS.plist
    have ec1 : S1.ob .clist = _ := (of1 .clist (by simp)).trans hS.clist
    have ed1 : S1.ob .pdict = _ := (of1 .pdict (by simp)).trans hS.pdict
    have gp1 := h1.at_ _ _ ep1
    have gc1 := h1.at_ _ _ ec1
    rw [ad1] at gn1 gp1 gc1
    refine ⟨_, rfl, _, T.cNet, dn, _, _, rfl, gn1, T.c_Net, T.n_Net_processes, rfl, _, _, rfl, .inl (SqL.of gp1), _, rfl, _, T.cNet, dn, _, _, rfl, gn1, T.c_Net, T.n_Net_channels, rfl, _, _, rfl, .inl (SqL.of gc1), _, rfl, _, T.cNet, dn, _, _, rfl, gn1, T.c_Net, T.n_Net_deeds, rfl, ?_⟩
    intro a da na nda nda'
    have h2 : Hold (upd (upd H1 da (.own a)) a (.ins T.cPicture da [])) S1 := (h1.other nda _).other (by rw [upd_ne nda'.symm]; exact na) _
    refine ⟨S1, s.last + 1, a, da, s.procs.length, s.chans.length, s.deeds, ?_, h2, upd_same, h1.notOwn na, hS.wf.nc, fun H2 S2 h3 off ap P2 fr2 => ?_⟩
    · rw [List.length_map, List.length_range, List.length_map, List.length_range]; rfl
    refine ⟨rfl, ?_⟩
    have en2 : S2.ob .net = _ := (off .net rfl).1.trans en1
    have ed2 : S2.ob .pdict = _ := (off .pdict rfl).1.trans ed1
    have an2 : S2.ad .net = S.ad .net := by rw [(off .net rfl).2, ad1]
    have ad2 : S2.ad .pdict = S.ad .pdict := by rw [(off .pdict rfl).2, ad1]
    have gn2 := h3.at_ _ _ en2
    have gd2 := h3.at_ _ _ ed2
    rw [an2] at gn2
    rw [ad2] at gd2
    have line : 8 < sizeLine := by decide
    have hno : valV (s.pics.map fun x => ((Sum.inl (x.number : Int) : Key), V.ref (S.ad (.pic x.number)))) (Sum.inl ((s.last + 1 : Nat) : Int)) = none := by
      rw [valV_pics S.ad (s.last + 1) s.pics]
      have : s.pics.find? (fun x => x.number == s.last + 1) = none := List.find?_eq_none.mpr fun x hx => by
        have := (hS.wf.pics x hx).2.2.2
        simp
        omega
      rw [this]
      rfl
    refine ⟨_, rfl, _, T.cNet, dn, _, _, rfl, gn2, T.c_Net, T.n_Net_pictures, rfl, _, rfl, _, T.cNet, dn, _, _, rfl, gn2, T.c_Net, T.n_Net_begun, rfl, _, _, rfl, DPut.k (k := Sum.inl ((s.last + 1 : Nat) : Int)) gd2 (by rw [List.length_map]; omega), ?_⟩
    rw [putK_new _ hno]
    have h4 := h3.write ed2 (.dK ((s.pics.map fun x => ((Sum.inl (x.number : Int) : Key), V.ref (S.ad (.pic x.number)))) ++ [(Sum.inl ((s.last + 1 : Nat) : Int), V.ref a)]))
    have f4 : Fr H2 S2 _ _ := Fr.write ed2 (.dK ((s.pics.map fun x => ((Sum.inl (x.number : Int) : Key), V.ref (S.ad (.pic x.number)))) ++ [(Sum.inl ((s.last + 1 : Nat) : Int), V.ref a)]))
    have gn4 := h4.at_ .net _ (by simpa using en2)
    rw [put_ad, an2] at gn4
    rw [ad2] at h4 f4 gn4
    refine ⟨_, rfl, _, T.cNet, dn, _, _, rfl, gn4, T.c_Net, T.n_Net_begun, rfl, ?_⟩
    refine k _ _ h4 ((f1.trans fun b o e no => ?_).trans f4) ?_ (by rw [put_ad]; exact an2)
    · have nb : b ≠ a := ne_of_none e na
      exact fr2 b o (by rw [upd_ne nb, upd_ne (ne_of_none e nda)]; exact e) no nb
    · have P2' : PicAt T S2 (Hs07.blank s) := by
        unfold Hs07.blank
        rw [map_none, map_none, map_none]
        exact P2
      refine hS.begins (dx := dn) hl8 (fun r hr h1 h2 => ?_) (fun r hr => ?_) ?_ ?_ ?_
      · rw [put_ne h2, (off r hr).1, of1 r h1]
      · rw [put_ad, (off r hr).2, ad1]
      · simpa using en2
      · rw [put_self, put_ad, ap]
      · exact P2'.of (fun r hr => rfl) (fun a o e => by simpa using e) (by simp) (by simp) (by simp) (by simp) (by simp)
end
end Cp

set_option Elab.async false
set_option linter.all false
set_option maxRecDepth 100000
set_option maxHeartbeats 2000000
namespace Cp
open PySem PySem.Spec PyProof.Rows L2
structure Kin (s t : Hs07.St) : Prop where
  chans : t.chans = s.chans
  procs : t.procs.length = s.procs.length
theorem Kin.refl (s : Hs07.St) : Kin s s := ⟨rfl, rfl⟩
theorem Kin.trans {a b c : Hs07.St} (h : Kin a b) (k : Kin b c) : Kin a c := ⟨k.chans.trans h.chans, k.procs.trans h.procs⟩
theorem kin_setProc (s : Hs07.St) (i : Nat) (p : Hs07.Proc) : Kin s (Hs07.setProc s i p) := ⟨rfl, List.length_set⟩
theorem kin_puts (s : Hs07.St) (c a b : Nat) : Kin s (Hs07.puts s c a b) := ⟨rfl, List.length_set⟩
theorem kin_sends (hops : Nat) : ∀ (l : List Nat) (s : Hs07.St), Kin s (Hs07.sendsOn s hops l)
  | [], s => Kin.refl s
  | c :: r, s => (kin_puts s c _ hops).trans (kin_sends hops r _)
theorem kin_gets (s : Hs07.St) (c : Nat) (m : Hs07.Msg) : Kin s (Hs07.gets s c m) := by
  unfold Hs07.gets
  simp only
  split
  · exact kin_setProc s _ _
  · exact (kin_setProc s _ _).trans (kin_sends _ _ _)
theorem kin_marks (k : Nat) (l : List Nat) (s : Hs07.St) : Kin s (marks k s l) := ⟨marks_chans l s, by rw [marks_procs]⟩
theorem kin_records (s : Hs07.St) (x : Hs07.Pic) (p : Nat) : Kin s (Hs07.records s x p) := (show Kin s (Hs07.setPic s { x with has := x.has.set p (some ((Hs07.proc s p).purse, (Hs07.proc s p).memory)) }) from ⟨rfl, rfl⟩).trans (kin_marks x.number (Hs07.outs s p) _)
theorem kin_recordsFor (s : Hs07.St) (k p : Nat) : Kin s (Hs07.recordsFor s k p) := by
  unfold Hs07.recordsFor
  split
  · split
    · exact Kin.refl s
    · exact kin_records s _ p
  · exact Kin.refl s
theorem kin_marked (s : Hs07.St) (c k : Nat) : Kin s (Hs07.marked s c k) := by
  unfold Hs07.marked
  simp only
  split
  · exact (kin_recordsFor s k _).trans ⟨rfl, rfl⟩
  · exact kin_recordsFor s k _
theorem kin_taking (s : Hs07.St) (c : Nat) : Kin s (Hs07.taking s c) := by
  unfold Hs07.taking
  split
  · exact Kin.refl s
  · rename_i m r _
    exact Kin.trans (b := { s with on := s.on.set c r, pics := s.pics.map fun x => Hs07.added x (Hs07.target s c) c m }) ⟨rfl, rfl⟩ (Kin.trans (kin_gets _ c m) ⟨rfl, rfl⟩)
  · rename_i k r _
    exact Kin.trans (b := { s with on := s.on.set c r }) ⟨rfl, rfl⟩ (kin_marked _ c k)
theorem pair_empty {β : Type} {F : Addr → β → Prop} {as : List Addr} {l : List β} (h : Paired F as l) : (!(as.map V.ref).isEmpty) = !l.isEmpty := by
  cases h <;> rfl
theorem kin_round : ∀ (l : List Nat) (s : Hs07.St), Kin s (Hs07.round l s).1
  | [], s => Kin.refl s
  | c :: r, s => by
    unfold Hs07.round
    split
    · exact (kin_taking s c).trans (kin_round r _)
    · exact kin_round r s
section
variable {P : Program} {w : World} {K : PySem.W.Frag} {mg : Str → Option Value} {base : Heap} (T : Env K mg)
def spNet_take_round : Sp := fun vs H Q _ => ∃ (S : Sto) (s : Hs07.St) (N : Nat), vs = [.ref (S.ad .net)] ∧ Hold H S ∧ Shape T S s ∧ Bd N s ∧ N + 300 < sizeLine ∧
  ∀ H' S', Go T H S H' S' (Hs07.round (List.range s.chans.length) s).1 → Bd (N + 272) (Hs07.round (List.range s.chans.length) s).1 → Q (.int ((Hs07.round (List.range s.chans.length) s).2 : Nat)) H'
theorem ok_Net_take_round : FnOk P w K mg base CX0 8 T.f_Net_take_round T.d_Net_take_round ["self"] (spNet_take_round T) := by
  refine T.F_Net_take_round.ok sc_Net_take_round (fun vs H Q E h => ?_) (fun cdv A outer s H vs Q E hr h => ?_)
  · obtain ⟨S, s, N, rfl, _⟩ := h
    rfl
  · obtain ⟨S, s, N, rfl, hH, hS, hB, hN, k⟩ := h
    obtain ⟨dn, en⟩ := hS.net
    have hnc := hS.wf.nc
    refine ⟨_, (pss_cons (ps_set (i := 1) sc_Net_take_round.nd rfl (Or.inl rfl) pe_int)
      (pss_cons (ps_for PassesOwn.never rfl (pi_range2 rfl T.n_range (pa_cons pe_int (pa_cons (pe_op op_add (pe_callB call_len_seq rfl T.n_len PySem.boot_len (pa_cons (pe_fld (pv 0) rfl) pa_nil)) pe_int) pa_nil))) (pg_name (i := 2) sc_Net_take_round.nd rfl (Or.inl rfl)) (pss_one (ps_if (PW.pt (pw_and (pt_truth (pe_fld (pe_meth (pv 0) T.c_Net T.m_Net_channel (ok_Net_channel T) (hr.mono (by decide)) T.b_Net_channel .nil pass0 (pa_cons (pv 2) pa_nil)) rfl) (by intro _; rfl)) (pw_and1 (pt_not (pt_val (pe_fld (pe_meth (pv 0) T.c_Net T.m_Net_getter (ok_Net_getter T) (hr.mono (by decide)) T.b_Net_getter .nil pass0 (pa_cons (pv 2) pa_nil)) rfl)))))) (pss_cons (ps_expr (pe_meth (pv 0) T.c_Net T.m_Net_take_first (ok_Net_take_first T) (hr.mono (by decide)) T.b_Net_take_first .nil pass0 (pa_cons (pv 2) pa_nil)))
      (pss_one (ps_aug (i := 1) sc_Net_take_round.nd rfl (Or.inl rfl) pe_int ip_add))) pss_nil)))
      (pss_one (ps_ret (pv 1))))), ?_⟩
    refine ⟨_, rfl, _, T.cNet, dn, _, _, rfl, hH.at_ _ _ en, T.c_Net, T.n_Net_channels, rfl, _, _, rfl, .inl (SqL.of (hH.at_ _ _ hS.clist)), _, _, rfl, rfl, _, _, rfl, ⟨by decide, by decide, by rw [List.length_map, List.length_range]; omega, by rw [List.length_map, List.length_range]; omega⟩, ?_⟩
    rw [List.length_map, List.length_range, show (((s.chans.length : Nat) : Int) + 1 - 1).toNat = s.chans.length by omega]
    refine for_range (lo := 1) (n := s.chans.length) (fun i σ H' => ∃ (v : Option V) (S' : Sto) (t : Hs07.St) (m : Nat), σ = [some (.ref (S.ad .net)), some (.int (m : Nat)), v] ∧ Go T H S H' S' t ∧ Kin s t ∧ Bd (N + 17 * i) t ∧
      Hs07.round (List.range s.chans.length) s = ((Hs07.round ((List.range s.chans.length).drop i) t).1, m + (Hs07.round ((List.range s.chans.length).drop i) t).2))
      ⟨none, S, s, 0, rfl, Go.refl hH hS, Kin.refl s, hB, by simp⟩ ?_ ?_
    · rintro i σ H' hi ⟨v, S', t, m, rfl, g, kin, hb, he⟩
      have ed : (List.range s.chans.length).drop i = i :: (List.range s.chans.length).drop (i + 1) := by
        rw [List.drop_eq_getElem_cons (by rw [List.length_range]; exact hi), List.getElem_range]
      rw [ed] at he
      have hct : i < t.chans.length := by rw [kin.chans]; exact hi
      obtain ⟨dn', en'⟩ := g.shape.net
      have gn' := g.hold.at_ _ _ en'
      have ex : t.chans[i]? = some t.chans[i] := List.getElem?_eq_getElem hct
      obtain ⟨dc, ec⟩ := g.shape.chan i _ ex
      have hon : i < t.on.length := by rw [g.shape.wf.on]; exact hct
      obtain ⟨as, ew, hw⟩ := g.shape.wait i _ (items_get hon)
      obtain ⟨dp, ep⟩ := g.shape.proc _ _ (proc_of (tgt_lt g.shape.wf hct))
      have eE : (!(as.map V.ref).isEmpty) = !(Hs07.items t i).isEmpty := pair_empty hw
      rw [show (1 : Int) + ((i : Nat) : Int) = ((i : Nat) : Int) + 1 by omega, ← g.ad]
      have no : Hs07.canTake t i = false → ∃ (v : Option V) (S' : Sto) (t : Hs07.St) (m' : Nat), ([some (.ref (S.ad .net)), some (.int (m : Nat)), some (.int ((i : Int) + 1))] : L2.St) = [some (.ref (S.ad .net)), some (.int (m' : Nat)), v] ∧ Go T H S H' S' t ∧ Kin s t ∧ Bd (N + 17 * (i + 1)) t ∧
          Hs07.round (List.range s.chans.length) s = ((Hs07.round ((List.range s.chans.length).drop (i + 1)) t).1, m' + (Hs07.round ((List.range s.chans.length).drop (i + 1)) t).2) := fun z => by
        refine ⟨_, S', t, m, rfl, g, kin, hb.mono (by omega), ?_⟩
        have er : Hs07.round (i :: (List.range s.chans.length).drop (i + 1)) t = Hs07.round ((List.range s.chans.length).drop (i + 1)) t := by
          rw [Hs07.round, if_neg (by rw [z]; decide)]
        rw [he, er]
      refine ⟨_, rfl, _, dn', _, rfl, gn', rfl, _, rfl, S', t, i, rfl, g.hold, g.shape.sk, hct, _, T.cChannel, dc, _, _, rfl, g.hold.at_ _ _ ec, T.c_Channel, T.n_Channel_waiting, rfl, _, .inl ⟨_, SqL.of (g.hold.at_ _ _ ew), rfl⟩, ?_⟩
      rw [eE]
      refine ite2 (fun h1 => ?_) (fun h1 => ?_)
      · refine ⟨_, rfl, _, dn', _, rfl, gn', rfl, _, rfl, S', t, i, rfl, g.hold, g.shape.sk, hct, _, T.cProcess, dp, _, _, rfl, g.hold.at_ _ _ ep, T.c_Process, T.n_Process_down, rfl, _, rfl, ite2 (fun h2 => ?_) (fun h2 => ?_)⟩
        · have hcan : Hs07.canTake t i = true := by
            unfold Hs07.canTake
            rw [h1, h2]
            rfl
          refine ⟨_, rfl, _, dn', _, rfl, gn', rfl, _, rfl, S', t, i, N + 17 * i, rfl, g.hold, g.shape, hct, by simpa using h1, hb, by omega, fun H2 S2 l g2 b2 hl => ?_⟩
          refine ⟨_, rfl, _, _, rfl, rfl, ?_⟩
          have g3 : Go T H' S' (upd H2 l (.lst (vi (Hs07.takeTold t i)))) S2 (Hs07.taking t i) := ⟨g2.hold.other hl _, g2.fr.trans (Fr.other hl _), g2.shape, g2.ad, g2.im⟩
          refine ⟨_, S2, _, m + 1, rfl, g.trans g3, kin.trans (kin_taking t i), b2.mono (by omega), ?_⟩
          · rw [he]
            have er : Hs07.round (i :: (List.range s.chans.length).drop (i + 1)) t = Hs07.oneMore (Hs07.round ((List.range s.chans.length).drop (i + 1)) (Hs07.taking t i)) := by
              rw [Hs07.round, if_pos hcan]
            rw [er]
            unfold Hs07.oneMore
            simp only [Prod.mk.injEq, true_and]
            omega
        · have h2' : (Hs07.proc t (Hs07.target t i)).down = true := by simpa using h2
          rw [g.ad]
          exact no (by unfold Hs07.canTake; rw [h2', Bool.not_true, Bool.and_false])
      · have h1' : (!(Hs07.items t i).isEmpty) = false := by simpa using h1
        refine iteF ?_
        rw [g.ad]
        exact no (by unfold Hs07.canTake; rw [h1', Bool.false_and])
    · rintro σ H' ⟨v, S', t, m, rfl, g, kin, hb, he⟩
      have e0 : (List.range s.chans.length).drop s.chans.length = [] := List.drop_eq_nil_of_le (by simp)
      rw [e0] at he
      have e1 : (Hs07.round (List.range s.chans.length) s).1 = t := by rw [he]; rfl
      have e2 : (Hs07.round (List.range s.chans.length) s).2 = m := by rw [he]; rfl
      rw [e1, e2] at k
      exact ⟨_, rfl, k H' S' g (hb.mono (by omega))⟩
def spA_turns : Sp := fun vs H Q E => ∃ t : Nat, spCall T (.turns t) vs H Q E
theorem ok_answer_turns : FnOk P w K mg base CX0 12 T.f_answer_turns T.d_answer_turns ["net", "reader"] (spA_turns T) := by
  refine T.F_answer_turns.ok sc_answer_turns (fun vs H Q E h => ?_) (fun cdv A outer s H vs Q E hr h => ?_)
  · obtain ⟨k, S, s, r, dr, ca, ns, rest, i, N, rfl, _⟩ := h
    rfl
  · obtain ⟨n, S, s, r, dr, ca, ns, rest, i, N, rfl, B, kk⟩ := h
    refine ⟨_, (pss_cons (ps_set (i := 2) sc_answer_turns.nd rfl (Or.inl rfl) (pe_meth0 (pv 1) T.c_Reader T.m_Reader_read_number (ok_Reader_read_number T) (hr.mono (by decide)) T.b_Reader_read_number .nil pass0))
      (pss_cons (ps_if (pt_cmpR op_gt (pv 2) (pe_gint rfl T.g_MOST_ROUNDS) (nomark _)) (pss_one (ps_ret (pe_lst (pa_cons (pe_un un_neg pe_int) pa_nil)))) pss_nil)
      (pss_cons (ps_set (i := 3) sc_answer_turns.nd rfl (Or.inl rfl) pe_int)
      (pss_cons (ps_for PassesOwn.never rfl (pi_range1 rfl T.n_range (pa_cons (pv 2) pa_nil)) (pg_name (i := 4) sc_answer_turns.nd rfl (Or.inl rfl)) (pss_one (ps_aug (i := 3) sc_answer_turns.nd rfl (Or.inl rfl) (pe_meth0 (pv 0) T.c_Net T.m_Net_take_round (ok_Net_take_round T) (hr.mono (by decide)) T.b_Net_take_round .nil pass0) ip_add)))
      (pss_one (ps_ret (pe_lst (pa_cons (pv 3) pa_nil)))))))), ?_⟩
    have hd : ns.drop i = (n : Int) :: rest := B.args
    obtain ⟨g1, g2, _⟩ := drop_get hd
    refine ⟨_, rfl, r, dr, _, rfl, B.rd, rfl, r, dr, ca, i, ns, _, rfl, B.rd, B.seq.seq, g1, ?_⟩
    obtain ⟨hH, _, _⟩ := B.rdOk (i + 1)
    have hS := B.shape
    have hbig := B.big
    have line : 1000000 < sizeLine := by decide
    refine ⟨_, rfl, _, _, rfl, rfl, _, rfl, ite2 (fun h1 => ?_) (fun h1 => ?_)⟩
    · have h1' : (20 : Int) < (n : Int) := of_decide_eq_true h1
      exact ⟨_, rfl, (by show 1 ≤ sizeLine; decide), fun l hl => kk _ _ l (B.same (ans := [-2]) rfl (by rw [step_turns, if_pos (by omega)]) hl)⟩
    have h1' : ¬ (20 : Int) < (n : Int) := fun z => h1 (decide_eq_true z)
    refine ⟨_, rfl, _, rfl, by omega, by omega, ?_⟩
    rw [show ((n : Nat) : Int).toNat = n by omega]
    refine for_range (lo := 0) (n := n) (fun j σ H' => ∃ (v : Option V) (S' : Sto) (t : Hs07.St) (m : Nat), σ = [some (.ref (S.ad .net)), some (.ref r), some (.int (n : Nat)), some (.int (m : Nat)), v] ∧ Go T (rdAt T H r dr ca (i + 1)) S H' S' t ∧ Bd (N + 272 * j) t ∧
      Hs07.rounds n s = ((Hs07.rounds (n - j) t).1, m + (Hs07.rounds (n - j) t).2)) ⟨none, S, s, 0, rfl, Go.refl hH hS, B.bd, by simp⟩ ?_ ?_
    · rintro j σ H' hj ⟨v, S', t, m, rfl, g, hb, he⟩
      obtain ⟨dn', en'⟩ := g.shape.net
      rw [← g.ad]
      refine ⟨_, rfl, _, rfl, _, dn', _, rfl, g.hold.at_ _ _ en', rfl, S', t, N + 272 * j, rfl, g.hold, g.shape, hb, by omega, fun H2 S2 g2 b2 => ?_⟩
      refine ⟨_, _, rfl, rfl, ?_⟩
      refine ⟨_, S2, _, m + (Hs07.round (List.range t.chans.length) t).2, rfl, g.trans g2, b2.mono (by omega), ?_⟩
      · rw [he]
        have en : n - j = (n - (j + 1)) + 1 := by omega
        rw [en]
        simp only [Hs07.rounds, Prod.mk.injEq, true_and]
        omega
    · rintro σ H' ⟨v, S', t, m, rfl, g, hb, he⟩
      rw [Nat.sub_self] at he
      have he' : Hs07.rounds n s = (t, m) := he
      refine ⟨_, rfl, (by show 1 ≤ sizeLine; decide), fun l hl => ?_⟩
      exact kk _ _ l (B.done (ans := [(m : Int)]) rfl g.hold g.fr g.shape (hb.mono (by omega)) (by rw [g.ad]) (by rw [step_turns, if_neg (by omega), he']; rfl) hl)
def spA_take : Sp := fun vs H Q E => ∃ c : Nat, spCall T (.take c) vs H Q E
theorem ok_answer_take : FnOk P w K mg base CX0 12 T.f_answer_take T.d_answer_take ["net", "reader"] (spA_take T) := by
  refine T.F_answer_take.ok sc_answer_take (fun vs H Q E h => ?_) (fun cdv A outer s H vs Q E hr h => ?_)
  · obtain ⟨k, S, s, r, dr, ca, ns, rest, i, N, rfl, _⟩ := h
    rfl
  · obtain ⟨c, S, s, r, dr, ca, ns, rest, i, N, rfl, B, kk⟩ := h
    refine ⟨_, (pss_cons (ps_set (i := 2) sc_answer_take.nd rfl (Or.inl rfl) (pe_meth0 (pv 1) T.c_Reader T.m_Reader_read_number (ok_Reader_read_number T) (hr.mono (by decide)) T.b_Reader_read_number .nil pass0))
      (pss_cons (ps_if (pt_not (pt_val (pe_meth (pv 0) T.c_Net T.m_Net_has_channel (ok_Net_has_channel T) (hr.mono (by decide)) T.b_Net_has_channel .nil pass0 (pa_cons (pv 2) pa_nil)))) (pss_one (ps_ret (pe_lst (pa_cons (pe_un un_neg pe_int) pa_nil)))) pss_nil)
      (pss_cons (ps_if (pt_val (pe_fld (pe_meth (pv 0) T.c_Net T.m_Net_getter (ok_Net_getter T) (hr.mono (by decide)) T.b_Net_getter .nil pass0 (pa_cons (pv 2) pa_nil)) rfl)) (pss_one (ps_ret (pe_lst (pa_cons (pe_un un_neg pe_int) pa_nil)))) pss_nil)
      (pss_cons (ps_if (pt_not (pt_truth (pe_fld (pe_meth (pv 0) T.c_Net T.m_Net_channel (ok_Net_channel T) (hr.mono (by decide)) T.b_Net_channel .nil pass0 (pa_cons (pv 2) pa_nil)) rfl) (by intro _; rfl))) (pss_one (ps_ret (pe_lst (pa_cons (pe_un un_neg pe_int) pa_nil)))) pss_nil)
      (pss_one (ps_ret (pe_meth (pv 0) T.c_Net T.m_Net_take_first (ok_Net_take_first T) (hr.mono (by decide)) T.b_Net_take_first .nil pass0 (pa_cons (pv 2) pa_nil)))))))), ?_⟩
    have hd : ns.drop i = (c : Int) :: rest := B.args
    obtain ⟨g1, g2, _⟩ := drop_get hd
    refine ⟨_, rfl, r, dr, _, rfl, B.rd, rfl, r, dr, ca, i, ns, _, rfl, B.rd, B.seq.seq, g1, ?_⟩
    obtain ⟨hH, _, _⟩ := B.rdOk (i + 1)
    have hS := B.shape
    have hbig := B.big
    have line : 1000000 < sizeLine := by decide
    obtain ⟨dn, en⟩ := hS.net
    have gn := hH.at_ _ _ en
    have one : ∀ e : Int, Hs07.step s (.take c) = (s, [e]) → ∀ l, rdAt T H r dr ca (i + 1) l = none → Q (.ref l) (upd (rdAt T H r dr ca (i + 1)) l (.lst [.int e])) := fun e he l hl => kk _ _ l (B.same rfl he hl)
    refine ⟨_, rfl, _, dn, _, rfl, gn, rfl, _, rfl, S, s, c, rfl, hH, hS, _, rfl, ?_⟩
    rw [isChan_dec]
    refine ite2 (fun h1 => ?_) (fun h1 => ?_)
    · have h1' : Hs07.isChan s c = false := by simpa using h1
      exact ⟨_, rfl, (by show 1 ≤ sizeLine; decide), fun l hl => one (-1) (by rw [step_take, if_pos h1']) l hl⟩
    have h1' : Hs07.isChan s c = true := by simpa using h1
    have n1 : ∀ X Y : Hs07.St × List Int, (if Hs07.isChan s c = false then X else Y) = Y := fun X Y => if_neg (by rw [h1']; decide)
    obtain ⟨q, rfl, hq⟩ := isChan_is h1'
    obtain ⟨dp, ep⟩ := hS.proc _ _ (proc_of (tgt_lt hS.wf hq))
    refine ⟨_, rfl, _, dn, _, rfl, gn, rfl, _, rfl, S, s, q, rfl, hH, hS.sk, hq, _, T.cProcess, dp, _, _, rfl, hH.at_ _ _ ep, T.c_Process, T.n_Process_down, rfl, _, rfl, ite2 (fun h2 => ?_) (fun h2 => ?_)⟩
    · exact ⟨_, rfl, (by show 1 ≤ sizeLine; decide), fun l hl => one (-6) (by rw [step_take, n1, Nat.add_sub_cancel, if_pos h2]) l hl⟩
    have ex : s.chans[q]? = some s.chans[q] := List.getElem?_eq_getElem hq
    obtain ⟨dc, ec⟩ := hS.chan q _ ex
    have hon : q < s.on.length := by rw [hS.wf.on]; exact hq
    obtain ⟨as, ew, hw⟩ := hS.wait q _ (items_get hon)
    have eE : (!(as.map V.ref).isEmpty) = !(Hs07.items s q).isEmpty := pair_empty hw
    refine ⟨_, rfl, _, dn, _, rfl, gn, rfl, _, rfl, S, s, q, rfl, hH, hS.sk, hq, _, T.cChannel, dc, _, _, rfl, hH.at_ _ _ ec, T.c_Channel, T.n_Channel_waiting, rfl, _, .inl ⟨_, SqL.of (hH.at_ _ _ ew), rfl⟩, ?_⟩
    rw [eE]
    refine ite2 (fun h3 => ?_) (fun h3 => ?_)
    · have h3' : (Hs07.items s q).isEmpty = true := by simpa using h3
      exact ⟨_, rfl, (by show 1 ≤ sizeLine; decide), fun l hl => one (-5) (by rw [step_take, n1, Nat.add_sub_cancel, if_neg h2, if_pos h3']) l hl⟩
    have h3' : (Hs07.items s q).isEmpty = false := by simpa using h3
    refine ⟨_, rfl, _, dn, _, rfl, gn, rfl, _, rfl, S, s, q, N, rfl, hH, hS, hq, h3', B.bd, by omega, fun H' S' l g b hl => ?_⟩
    have hst : Hs07.step s (.take (q + 1)) = (Hs07.taking s q, Hs07.ints (Hs07.takeTold s q)) := by
      rw [step_take, n1, Nat.add_sub_cancel, if_neg h2, if_neg (by rw [h3']; decide)]
    rw [← vi_ints]
    exact kk _ _ l (B.done rfl g.hold g.fr g.shape (b.mono (by omega)) (by rw [g.ad]) hst hl)
end
end Cp

set_option Elab.async false
set_option linter.all false
set_option maxRecDepth 100000
set_option maxHeartbeats 2000000
namespace Cp
open PySem PySem.Spec PyProof.Rows L2
theorem distinct_nodup : ∀ {l : List Nat}, (Hs07.distinct l = true) ↔ l.Nodup
  | [] => by simp [Hs07.distinct]
  | a :: r => by
    have ih := distinct_nodup (l := r)
    unfold Hs07.distinct
    rw [Bool.and_eq_true, ih, List.nodup_cons]
    simp
theorem nodup_take {l : List Nat} (h : l.Nodup) (i : Nat) : (l.take i).Nodup := (List.take_sublist i l).nodup h
theorem dup_of {l : List Nat} {i p : Nat} (h : l[i]? = some p) (m : p ∈ l.take i) : ¬ l.Nodup := fun nd => by
  have n2 := nodup_take nd (i + 1)
  rw [take_snoc' h] at n2
  have := List.nodup_append.mp n2
  exact this.2.2 p m p (List.mem_singleton.mpr rfl) rfl
theorem nodup_le : ∀ (n : Nat) (l : List Nat), l.Nodup → (∀ x ∈ l, x < n) → l.length ≤ n
  | 0, l, _, h => by
    cases l with
    | nil => exact Nat.le_refl _
    | cons a r => exact absurd (h a (List.mem_cons_self ..)) (Nat.not_lt_zero _)
  | n + 1, l, nd, h => by
    by_cases m : n ∈ l
    · have ih := nodup_le n (l.erase n) (nd.erase n) fun x hx => by
        have h1 := h x (List.mem_of_mem_erase hx)
        have h2 := (List.Nodup.mem_erase_iff nd).mp hx
        omega
      rw [List.length_erase_of_mem m] at ih
      omega
    · have ih := nodup_le n l nd fun x hx => by
        have h1 := h x hx
        have h2 : x ≠ n := fun z => m (z ▸ hx)
        omega
      omega
section
variable {P : Program} {w : World} {K : PySem.W.Frag} {mg : Str → Option Value} {base : Heap} (T : Env K mg)
def sptold_once : Sp := fun vs H Q _ => ∃ (S : Sto) (s : Hs07.St) (l : Addr) (ps : List Nat), vs = [.ref (S.ad .net), .ref l] ∧ Hold H S ∧ Shape T S s ∧ H l = some (.lst (vi ps)) ∧ ps.length ≤ 30000 ∧
  ∀ H', Same H H' → Q (.bl (ps.all (Hs07.isProc s) && Hs07.distinct ps)) H'
theorem ok_are_processes_told_once : FnOk P w K mg base CX0 2 T.f_are_processes_told_once T.d_are_processes_told_once ["net", "told"] (sptold_once T) := by
  refine T.F_are_processes_told_once.ok sc_are_processes_told_once (fun vs H Q E h => ?_) (fun cdv A outer s H vs Q E hr h => ?_)
  · obtain ⟨S, s, l, ps, rfl, _⟩ := h
    rfl
  · obtain ⟨S, s, l, ps, rfl, hH, hS, hl, hlen, k⟩ := h
    have hu := hu_of hr
    obtain ⟨dn, en⟩ := hS.net
    have gn := hH.at_ _ _ en
    have line : 30000 < sizeLine := by decide
    refine ⟨_, (pss_cons (ps_set (i := 2) sc_are_processes_told_once.nd rfl (Or.inl rfl) pe_dnewK)
      (pss_cons (ps_for PassesOwn.never rfl (pi_list (pv 1)) (pg_name (i := 3) sc_are_processes_told_once.nd rfl (Or.inl rfl)) (pss_cons (ps_if (PW.pt (pw_or (pt_cmp (pc_din hu (pv 3) (pv 2))) (pw_or1 (pt_not (pt_val (pe_meth (pv 0) T.c_Net T.m_Net_has_process (ok_Net_has_process T) (hr.mono (by decide)) T.b_Net_has_process .nil pass0 (pa_cons (pv 3) pa_nil))))))) (pss_one (ps_ret pe_bl)) pss_nil)
      (pss_one (ps_dput hu (pv 2) (pv 3) pe_bl rfl))))
      (pss_one (ps_ret pe_bl)))), ?_⟩
    intro d hd
    have s0 : Same H (upd H d (.dK [])) := fun b o e => by rw [upd_ne (ne_of_none e hd)]; exact e
    refine ⟨_, rfl, _, rfl, ⟨_, SqL.of (s0 _ _ hl)⟩, for_list (K := K) (a := l) (xs := vi ps) (fun i σ H' => ∃ (v : Option V) (kvs : List (Key × V)), σ = [some (.ref (S.ad .net)), some (.ref l), some (.ref d), v] ∧ Same H H' ∧ H' d = some (.dK kvs) ∧ kvs.length ≤ i ∧ (∀ p : Nat, (valV kvs (.inl (p : Int))).isSome = decide (p ∈ ps.take i)) ∧
      (∀ p ∈ ps.take i, Hs07.isProc s p = true) ∧ (ps.take i).Nodup) ⟨none, [], rfl, s0, upd_same, Nat.le_refl _, fun p => by simp [valV_nil], fun p hp => by simp at hp, by simp⟩ ?_ ?_ ?_⟩
    · rintro i σ H' hi ⟨v, kvs, rfl, sm, _⟩
      exact SqL.of (sm _ _ hl)
    · rintro i y σ H' hy ⟨v, kvs, rfl, sm, hdk, hkl, hv, hpr, hnd⟩
      obtain ⟨p, hp, rfl⟩ := map_get hy
      have hi : i < ps.length := (List.getElem?_eq_some_iff.mp hp).1
      have no : (¬ Hs07.isProc s p = true ∨ p ∈ ps.take i) → Q (.bl false) H' := fun z => by
        have k' := k H' sm
        have e : (ps.all (Hs07.isProc s) && Hs07.distinct ps) = false := by
          rcases z with z | z
          · have : ps.all (Hs07.isProc s) = false := by
              rw [Bool.eq_false_iff]
              intro q
              exact z (List.all_eq_true.mp q p (List.mem_of_getElem? hp))
            rw [this, Bool.false_and]
          · have : Hs07.distinct ps = false := by
              rw [Bool.eq_false_iff]
              intro q
              exact dup_of hp z (distinct_nodup.mp q)
            rw [this, Bool.and_false]
        rw [e] at k'
        exact k'
      refine ⟨_, rfl, _, rfl, _, _, rfl, DGet.k (k := Sum.inl (p : Int)) hdk, _, rfl, ?_⟩
      rw [hv p]
      refine ite2 (fun h1 => ?_) (fun h1 => ?_)
      · exact iteT (no (.inr (of_decide_eq_true h1)))
      have h1' : ¬ p ∈ ps.take i := fun z => h1 (decide_eq_true z)
      refine ⟨_, rfl, _, dn, _, rfl, sm _ _ gn, rfl, _, rfl, S, s, p, rfl, Hold.same hH sm, hS, _, rfl, ?_⟩
      rw [isProc_dec]
      refine ite2 (fun h2 => ?_) (fun h2 => ?_)
      · exact no (.inl (by simpa using h2))
      have h2' : Hs07.isProc s p = true := by simpa using h2
      refine ⟨_, rfl, _, rfl, _, _, rfl, DPut.k (k := Sum.inl (p : Int)) hdk (by omega), ?_⟩
      refine ⟨_, _, rfl, fun b o e => by rw [upd_ne (ne_of_none e hd)]; exact sm b o e, upd_same, ?_, fun q => ?_, fun q hq => ?_, ?_⟩
      · have := length_putK kvs (Sum.inl (p : Int)) (V.bl true)
        omega
      · rw [valV_put, take_snoc' hp]
        by_cases e : q = p
        · subst e
          rw [if_pos rfl]
          simp
        · rw [if_neg (fun z => e (by have := Sum.inl.inj z; omega)), hv q]
          simp [e]
      · rw [take_snoc' hp] at hq
        rcases List.mem_append.mp hq with z | z
        · exact hpr q z
        · rw [List.mem_singleton.mp z]; exact h2'
      · rw [take_snoc' hp]
        exact nd_snoc hnd h1'
    · rintro σ H' ⟨v, kvs, rfl, sm, hdk, hkl, hv, hpr, hnd⟩
      rw [vi_len, List.take_length] at hpr hnd
      have k' := k H' sm
      rw [List.all_eq_true.mpr hpr, distinct_nodup.mpr hnd] at k'
      exact k'
def spA_cut : Sp := fun vs H Q E => ∃ ps : List Nat, spCall T (.cut ps) vs H Q E
theorem ok_answer_cut : FnOk P w K mg base CX0 12 T.f_answer_cut T.d_answer_cut ["net", "reader"] (spA_cut T) := by
  refine T.F_answer_cut.ok sc_answer_cut (fun vs H Q E h => ?_) (fun cdv A outer s H vs Q E hr h => ?_)
  · obtain ⟨ps, S, s, r, dr, ca, ns, rest, i, N, rfl, _⟩ := h
    rfl
  · obtain ⟨ps, S, s, r, dr, ca, ns, rest, i, N, rfl, B, kk⟩ := h
    refine ⟨_, (pss_cons (ps_set (i := 2) sc_answer_cut.nd rfl (Or.inl rfl) (pe_meth0 (pv 1) T.c_Reader T.m_Reader_read_row (ok_Reader_read_row T) (hr.mono (by decide)) T.b_Reader_read_row .nil pass0))
      (pss_cons (ps_if (PW.pt (pw_or (pt_not (pt_truth (pv 2) (by intro _; rfl))) (pw_or1 (pt_not (pt_val (pe_call (ok_are_processes_told_once T) (hr.mono (by decide)) rfl T.g_are_processes_told_once T.F_are_processes_told_once.kp T.b_are_processes_told_once .nil pass0 (pa_cons (pv 0) (pa_cons (pv 2) pa_nil)))))))) (pss_one (ps_ret (pe_lst (pa_cons (pe_un un_neg pe_int) pa_nil)))) pss_nil)
      (pss_cons (ps_for PassesOwn.never rfl (pi_list (pv 2)) (pg_name (i := 3) sc_answer_cut.nd rfl (Or.inl rfl)) (pss_one (ps_if (pt_val (pe_fld (pe_meth (pv 0) T.c_Net T.m_Net_process (ok_Net_process T) (hr.mono (by decide)) T.b_Net_process .nil pass0 (pa_cons (pv 3) pa_nil)) rfl)) (pss_one (ps_ret (pe_lst (pa_cons (pe_un un_neg pe_int) pa_nil)))) pss_nil)))
      (pss_cons (ps_if (pt_cmpR op_ge (pe_callB call_lenD rfl T.n_len PySem.boot_len (pa_cons (pe_fld (pv 0) rfl) pa_nil)) (pe_gint rfl T.g_MOST_PICTURES) (nomark _)) (pss_one (ps_ret (pe_lst (pa_cons (pe_un un_neg pe_int) pa_nil)))) pss_nil)
      (pss_cons (ps_set (i := 4) sc_answer_cut.nd rfl (Or.inl rfl) (pe_meth0 (pv 0) T.c_Net T.m_Net_begin_picture (ok_Net_begin_picture T) (hr.mono (by decide)) T.b_Net_begin_picture .nil pass0))
      (pss_cons (ps_for PassesOwn.never rfl (pi_list (pv 2)) (pg_name (i := 3) sc_answer_cut.nd rfl (Or.inl rfl)) (pss_one (ps_expr (pe_meth (pv 0) T.c_Net T.m_Net_record (ok_Net_record T) (hr.mono (by decide)) T.b_Net_record .nil pass0 (pa_cons (pv 4) (pa_cons (pv 3) pa_nil))))))
      (pss_one (ps_ret (pe_lst (pa_cons (pv 4) pa_nil)))))))))), ?_⟩
    have hd : ns.drop i = ((zs ps).length : Int) :: (zs ps ++ rest) := by
      rw [B.args]
      show rowOf ps ++ rest = _
      unfold rowOf
      rw [zs_len]
      rfl
    have hj : i + 1 + (zs ps).length = i + (argsOf (.cut ps)).length := by
      show _ = i + (rowOf ps).length
      unfold rowOf
      simp [zs_len]
      omega
    have hpl : ps.length ≤ 30000 := by
      have e := congrArg List.length hd
      have := B.len
      simp [zs_len] at e
      omega
    refine ⟨_, rfl, r, dr, _, rfl, B.rd, rfl, r, dr, ca, i, ns, zs ps, _, rfl, B.rd, B.seq.seq, hd, fun l1 n1 => ?_⟩
    have r1 : r ≠ l1 := ne_of_none B.rd n1
    refine hp_eq (H2 := upd (rdAt T H r dr ca (i + (argsOf (.cut ps)).length)) l1 (.lst (vi ps))) ?_ ?_
    · rw [zs_vi, upd_swap (a := l1) (b := r) r1.symm, hj]
    have hH0 := (B.rdOk (i + (argsOf (.cut ps)).length)).1
    have m1 : rdAt T H r dr ca (i + (argsOf (.cut ps)).length) l1 = none := (upd_ne r1.symm).trans n1
    have sm : Same (rdAt T H r dr ca (i + (argsOf (.cut ps)).length)) (upd (rdAt T H r dr ca (i + (argsOf (.cut ps)).length)) l1 (.lst (vi ps))) := fun c o e => by
      rw [upd_ne (ne_of_none e m1)]; exact e
    have ha : upd (rdAt T H r dr ca (i + (argsOf (.cut ps)).length)) l1 (.lst (vi ps)) l1 = some (.lst (vi ps)) := upd_same
    have nol : ¬ Own S l1 := hH0.notOwn m1
    generalize upd (rdAt T H r dr ca (i + (argsOf (.cut ps)).length)) l1 (.lst (vi ps)) = G at *
    have hS := B.shape
    have line : 1000000 < sizeLine := by decide
    have one : ∀ e : Int, Hs07.step s (.cut ps) = (s, [e]) → ∀ G', Same G G' → ∀ l, G' l = none → Q (.ref l) (upd G' l (.lst [.int e])) := fun e he G' sg l hl =>
      kk _ _ l (B.done (ans := [e]) rfl (Hold.same hH0 (sm.trans sg)) (Fr.same (sm.trans sg)) hS (B.bd.mono (by omega)) rfl he hl)
    refine ⟨_, rfl, _, .inl ⟨_, SqL.of ha, rfl⟩, ite2 (fun h1 => ?_) (fun h1 => ?_)⟩
    · have h1' : ps = [] := by
        cases ps with
        | nil => rfl
        | cons a b => simp [vi] at h1
      refine iteT ?_
      exact ⟨_, rfl, (by show 1 ≤ sizeLine; decide), fun l hl => one (-1) (by rw [step_cut, if_pos (.inl (by rw [h1']; rfl))]) G (Same.refl _) l hl⟩
    have h1' : ps.isEmpty = false := by
      cases ps with
      | nil => exact absurd rfl h1
      | cons a b => rfl
    refine ⟨_, rfl, _, rfl, S, s, l1, ps, rfl, Hold.same hH0 sm, hS, ha, hpl, fun G1 sg => ⟨_, rfl, ite2 (fun h2 => ?_) (fun h2 => ?_)⟩⟩
    · have h2' : ps.all (Hs07.isProc s) = false ∨ Hs07.distinct ps = false := by
        cases q : ps.all (Hs07.isProc s) with
        | false => exact .inl rfl
        | true =>
          rw [q] at h2
          exact .inr (by simpa using h2)
      exact ⟨_, rfl, (by show 1 ≤ sizeLine; decide), fun l hl => one (-1) (by rw [step_cut, if_pos (.inr h2')]) G1 sg l hl⟩
    have hall : ps.all (Hs07.isProc s) = true := by
      cases q : ps.all (Hs07.isProc s) with
      | true => rfl
      | false => rw [q] at h2; exact absurd rfl h2
    have hdis : Hs07.distinct ps = true := by
      cases q : Hs07.distinct ps with
      | true => rfl
      | false => rw [q, Bool.and_false] at h2; exact absurd rfl h2
    have b1 : ∀ X Y : Hs07.St × List Int, (if ps.isEmpty = true ∨ ps.all (Hs07.isProc s) = false ∨ Hs07.distinct ps = false then X else Y) = Y := fun X Y => if_neg (by rw [h1', hall, hdis]; decide)
    have hproc : ∀ p ∈ ps, ∃ q, p = q + 1 ∧ q < s.procs.length := fun p hp => isProc_is (List.all_eq_true.mp hall p hp)
    have smG := sm.trans sg
    have hG1 := Hold.same hH0 smG
    have ha1 := sg _ _ ha
    obtain ⟨dn, en⟩ := hS.net
    have gn := hG1.at_ _ _ en
    refine ⟨_, rfl, _, rfl, ⟨_, SqL.of ha1⟩, for_list (K := K) (a := l1) (xs := vi ps) (fun j σ H' => ∃ v : Option V, σ = [some (.ref (S.ad .net)), some (.ref r), some (.ref l1), v, none] ∧ H' = G1 ∧ ∀ p ∈ ps.take j, (Hs07.proc s (p - 1)).down = false) ⟨none, rfl, rfl, fun p hp => by simp at hp⟩ ?_ ?_ ?_⟩
    · rintro j σ H' _ ⟨v, rfl, rfl, _⟩
      exact SqL.of ha1
    · rintro j y σ H' hy ⟨v, rfl, rfl, hup⟩
      obtain ⟨p, hp, rfl⟩ := map_get hy
      obtain ⟨q, rfl, hq⟩ := hproc p (List.mem_of_getElem? hp)
      obtain ⟨dq, eq⟩ := hS.proc _ _ (proc_of hq)
      refine ⟨_, rfl, _, dn, _, rfl, gn, rfl, _, rfl, S, s, q, rfl, hG1, hS.sk, hq, _, T.cProcess, dq, _, _, rfl, hG1.at_ _ _ eq, T.c_Process, T.n_Process_down, rfl, _, rfl, ite2 (fun h3 => ?_) (fun h3 => ?_)⟩
      · exact ⟨_, rfl, (by show 1 ≤ sizeLine; decide), fun l hl => one (-6) (by rw [step_cut, b1, if_pos (List.any_eq_true.mpr ⟨q + 1, List.mem_of_getElem? hp, h3⟩)]) _ sg l hl⟩
      · refine ⟨_, rfl, rfl, fun p' hp' => ?_⟩
        rw [take_snoc' hp] at hp'
        rcases List.mem_append.mp hp' with z | z
        · exact hup p' z
        · rw [List.mem_singleton.mp z, Nat.add_sub_cancel]
          simpa using h3
    rintro σ H' ⟨v, rfl, rfl, hup⟩
    rw [vi_len, List.take_length] at hup
    have b2 : ∀ X Y : Hs07.St × List Int, (if ps.any (fun p => (Hs07.proc s (p - 1)).down) = true then X else Y) = Y := fun X Y => if_neg fun z => by
      obtain ⟨p, hp, e⟩ := List.any_eq_true.mp z
      rw [hup p hp] at e
      cases e
    refine ⟨_, rfl, _, T.cNet, dn, _, _, rfl, gn, T.c_Net, T.n_Net_pictures, rfl, _, _, rfl, hG1.at_ _ _ hS.pdict, _, _, rfl, rfl, _, rfl, ?_⟩
    rw [List.length_map]
    refine ite2 (fun h4 => ?_) (fun h4 => ?_)
    · have h4' : (8 : Int) ≤ (s.pics.length : Int) := of_decide_eq_true h4
      exact ⟨_, rfl, (by show 1 ≤ sizeLine; decide), fun l hl => one (-7) (by rw [step_cut, b1, b2, if_pos (by omega)]) _ sg l hl⟩
    have h4' : ¬ (8 : Int) ≤ (s.pics.length : Int) := fun z => h4 (decide_eq_true z)
    have hst : Hs07.step s (.cut ps) = (Hs07.cutting s (ps.map fun p => p - 1), [((s.last : Int) + 1)]) := by
      rw [step_cut, b1, b2, if_neg (by omega)]
      rfl
    refine ⟨_, rfl, _, dn, _, rfl, gn, rfl, S, s, rfl, hG1, hS, by omega, fun H1 S1 hH1 f1 hS1 hn1 => ?_⟩
    obtain ⟨ha2, nol2⟩ := f1 _ _ ha1 nol
    have hB1 : Bd N (begun s) := ⟨B.bd.on, fun x hx => by
      rcases List.mem_append.mp hx with z | z
      · exact B.bd.came x z
      · rw [List.mem_singleton.mp z]
        intro y hy
        obtain ⟨_, _, rfl⟩ := List.mem_map.mp hy
        exact Nat.zero_le _⟩
    have hnd := distinct_nodup.mp hdis
    have hl8 : ps.length ≤ 8 := by
      have e : (ps.map fun p => p - 1).Nodup := by
        rw [List.nodup_iff_pairwise_ne, List.pairwise_map]
        rw [List.nodup_iff_pairwise_ne] at hnd
        exact List.Pairwise.imp_of_mem (fun {a b} ma mb ne e => by
          obtain ⟨q1, e1, _⟩ := hproc a ma
          obtain ⟨q2, e2, _⟩ := hproc b mb
          omega) hnd
      have := nodup_le s.procs.length _ e fun x hx => by
        obtain ⟨p, hp, rfl⟩ := List.mem_map.mp hx
        obtain ⟨q, rfl, hq⟩ := hproc p hp
        omega
      rw [List.length_map] at this
      have := hS.wf.np
      omega
    refine ⟨_, rfl, _, rfl, ⟨_, SqL.of ha2⟩, for_list (K := K) (a := l1) (xs := vi ps) (fun j σ H' => ∃ (v : Option V) (S' : Sto) (t : Hs07.St) (x : Hs07.Pic), σ = [some (.ref (S.ad .net)), some (.ref r), some (.ref l1), v, some (.int ((s.last : Int) + 1))] ∧ Hold H' S' ∧ Fr H1 S1 H' S' ∧ Shape T S' t ∧ S'.ad .net = S.ad .net ∧
      Bd (N + 16 * j) t ∧ t = ((ps.take j).map fun p => p - 1).foldl (fun t p => Hs07.recordsFor t (s.last + 1) p) (begun s) ∧ Kin s t ∧ t.pics[s.pics.length]? = some x ∧ x.number = s.last + 1 ∧ ∀ q, q < s.procs.length → ¬ q + 1 ∈ ps.take j → x.has[q]? = some none)
      ⟨_, S1, begun s, Hs07.blank s, rfl, hH1, Fr.refl, hS1, hn1, hB1, rfl, ⟨rfl, rfl⟩, ?_, rfl, fun q hq _ => ?_⟩ ?_ ?_ ?_⟩
    · show (s.pics ++ [Hs07.blank s])[s.pics.length]? = _
      simp
    · show (s.procs.map fun _ => none)[q]? = _
      rw [List.getElem?_map, List.getElem?_eq_getElem hq]
      rfl
    · rintro j σ H' _ ⟨v, S', t, x, rfl, _, f, _⟩
      exact SqL.of (f _ _ ha2 nol2).1
    · rintro j y σ H' hy ⟨v, S', t, x, rfl, hH', f, hS', hn', hb, ht, kin, hx, hxn, hxh⟩
      obtain ⟨p, hp, rfl⟩ := map_get hy
      obtain ⟨q, rfl, hq⟩ := hproc p (List.mem_of_getElem? hp)
      have hj : j < ps.length := (List.getElem?_eq_some_iff.mp hp).1
      have hnone := hxh q hq (fun m => dup_of hp m hnd)
      obtain ⟨dn', en'⟩ := hS'.net
      have hbig := B.big
      rw [← hn']
      refine ⟨_, rfl, _, dn', _, rfl, hH'.at_ _ _ en', rfl, _, rfl, _, rfl, S', t, s.pics.length, q, N + 16 * j, x, by rw [hxn]; rfl, hH', hS', hx, by rw [kin.procs]; exact hq, hnone, hb, by omega, fun H2 S2 g b2 => ?_⟩
      obtain ⟨e1, e2, e3⟩ := records_pic (p := q) hS'.wf.nd hx
      refine ⟨_, S2, _, { x with has := x.has.set q (some ((Hs07.proc t q).purse, (Hs07.proc t q).memory)) }, rfl, g.hold, f.trans g.fr, g.shape, by rw [g.ad], b2.mono (by omega), ?_, kin.trans (kin_records t x q), ?_, hxn, fun q' hq' hm => ?_⟩
      · rw [take_snoc' hp, List.map_append, List.foldl_append, ← ht]
        show _ = Hs07.recordsFor t (s.last + 1) (q + 1 - 1)
        rw [Nat.add_sub_cancel]
        unfold Hs07.recordsFor
        rw [← hxn, picOf_of hS'.wf.nd hx]
        have hdn : Hs07.hasDone x q = false := by
          unfold Hs07.hasDone
          rw [getD_of hnone]
          rfl
        simp only [hdn]
        rw [if_neg (by decide)]
      · rw [e1]
        exact List.getElem?_set_self (List.getElem?_eq_some_iff.mp hx).1
      · rw [take_snoc' hp] at hm
        have hne : q ≠ q' := fun z => hm (by rw [z]; simp)
        show (x.has.set q _)[q']? = _
        rw [List.getElem?_set_ne hne]
        exact hxh q' hq' fun z => hm (List.mem_append_left _ z)
    · rintro σ H' ⟨v, S', t, x, rfl, hH', f, hS', hn', hb, ht, kin, hx, hxn, hxh⟩
      rw [vi_len, List.take_length] at ht
      rw [vi_len] at hb
      refine ⟨_, rfl, (by show 1 ≤ sizeLine; decide), fun l hl => ?_⟩
      have et : t = Hs07.cutting s (ps.map fun p => p - 1) := ht
      rw [et] at hS' hb
      exact kk _ _ l (B.done rfl hH' ((Fr.same smG).trans (f1.trans f)) hS' (hb.mono (by omega)) hn' hst hl)
end
end Cp

set_option Elab.async false
set_option linter.all false
set_option maxRecDepth 100000
set_option maxHeartbeats 2000000
namespace Cp
open PySem PySem.Spec PyProof.Rows L2
theorem proc_set {s : Hs07.St} {p : Nat} {y : Hs07.Proc} (h : p < s.procs.length) : Hs07.proc (Hs07.setProc s p y) p = y := by
  unfold Hs07.proc Hs07.setProc
  exact getD_of (List.getElem?_set_self h)
section
variable {P : Program} {w : World} {K : PySem.W.Frag} {mg : Str → Option Value} {base : Heap} (T : Env K mg)
def spA_put : Sp := fun vs H Q E => ∃ c coins hops : Nat, spCall T (.put c coins hops) vs H Q E
theorem ok_answer_put : FnOk P w K mg base CX0 12 T.f_answer_put T.d_answer_put ["net", "reader"] (spA_put T) := by
  refine T.F_answer_put.ok sc_answer_put (fun vs H Q E h => ?_) (fun cdv A outer s H vs Q E hr h => ?_)
  · obtain ⟨c, co, ho, S, s, r, dr, ca, ns, rest, i, N, rfl, _⟩ := h
    rfl
  · obtain ⟨c, coins, hops, S, s, r, dr, ca, ns, rest, i, N, rfl, B, kk⟩ := h
    refine ⟨_, (pss_cons (ps_set (i := 2) sc_answer_put.nd rfl (Or.inl rfl) (pe_meth0 (pv 1) T.c_Reader T.m_Reader_read_number (ok_Reader_read_number T) (hr.mono (by decide)) T.b_Reader_read_number .nil pass0))
      (pss_cons (ps_set (i := 3) sc_answer_put.nd rfl (Or.inl rfl) (pe_meth0 (pv 1) T.c_Reader T.m_Reader_read_number (ok_Reader_read_number T) (hr.mono (by decide)) T.b_Reader_read_number .nil pass0))
      (pss_cons (ps_set (i := 4) sc_answer_put.nd rfl (Or.inl rfl) (pe_meth0 (pv 1) T.c_Reader T.m_Reader_read_number (ok_Reader_read_number T) (hr.mono (by decide)) T.b_Reader_read_number .nil pass0))
      (pss_cons (ps_if (pt_not (pt_val (pe_meth (pv 0) T.c_Net T.m_Net_has_channel (ok_Net_has_channel T) (hr.mono (by decide)) T.b_Net_has_channel .nil pass0 (pa_cons (pv 2) pa_nil)))) (pss_one (ps_ret (pe_lst (pa_cons (pe_un un_neg pe_int) pa_nil)))) pss_nil)
      (pss_cons (ps_set (i := 5) sc_answer_put.nd rfl (Or.inl rfl) (pe_meth (pv 0) T.c_Net T.m_Net_sender (ok_Net_sender T) (hr.mono (by decide)) T.b_Net_sender .nil pass0 (pa_cons (pv 2) pa_nil)))
      (pss_cons (ps_if (pt_val (pe_fld (pv 5) rfl)) (pss_one (ps_ret (pe_lst (pa_cons (pe_un un_neg pe_int) pa_nil)))) pss_nil)
      (pss_cons (ps_if (pt_cmpR op_gt (pv 4) (pe_gint rfl T.g_MOST_HOPS) (nomark _)) (pss_one (ps_ret (pe_lst (pa_cons (pe_un un_neg pe_int) pa_nil)))) pss_nil)
      (pss_cons (ps_if (pt_cmpR op_gt (pv 3) (pe_fld (pv 5) rfl) (nomark _)) (pss_one (ps_ret (pe_lst (pa_cons (pe_un un_neg pe_int) pa_nil)))) pss_nil)
      (pss_cons (ps_expr (pe_meth (pv 0) T.c_Net T.m_Net_put_as_deed (ok_Net_put_as_deed T) (hr.mono (by decide)) T.b_Net_put_as_deed .nil pass0 (pa_cons (pv 2) (pa_cons (pv 3) (pa_cons (pv 4) pa_nil)))))
      (pss_one (ps_ret (pe_lst (pa_cons (pe_fld (pv 5) rfl) pa_nil))))))))))))), ?_⟩
    have hd : ns.drop i = (c : Int) :: (coins : Int) :: (hops : Int) :: rest := B.args
    obtain ⟨g1, g2, _⟩ := drop_get hd
    obtain ⟨g3, g4, _⟩ := drop_get g2
    obtain ⟨g5, g6, _⟩ := drop_get g4
    refine ⟨_, rfl, r, dr, _, rfl, B.rd, rfl, r, dr, ca, i, ns, _, rfl, B.rd, B.seq.seq, g1, ?_⟩
    obtain ⟨_, q1, q2⟩ := B.rdOk (i + 1)
    refine ⟨_, rfl, r, dr, _, rfl, q2, rfl, r, dr, ca, i + 1, ns, _, rfl, q2, q1, g3, ?_⟩
    refine hp_eq upd_upd ?_
    obtain ⟨_, q3, q4⟩ := B.rdOk (i + 1 + 1)
    refine ⟨_, rfl, r, dr, _, rfl, q4, rfl, r, dr, ca, i + 1 + 1, ns, _, rfl, q4, q3, g5, ?_⟩
    refine hp_eq upd_upd ?_
    obtain ⟨hH, _, _⟩ := B.rdOk (i + 1 + 1 + 1)
    have hS := B.shape
    have hbig := B.big
    have line : 1000000 < sizeLine := by decide
    obtain ⟨dn, en⟩ := hS.net
    have gn := hH.at_ _ _ en
    have one : ∀ e : Int, Hs07.step s (.put c coins hops) = (s, [e]) → ∀ l, rdAt T H r dr ca (i + 1 + 1 + 1) l = none → Q (.ref l) (upd (rdAt T H r dr ca (i + 1 + 1 + 1)) l (.lst [.int e])) := fun e he l hl => kk _ _ l (B.same rfl he hl)
    refine ⟨_, rfl, _, dn, _, rfl, gn, rfl, _, rfl, S, s, c, rfl, hH, hS, _, rfl, ?_⟩
    rw [isChan_dec]
    refine ite2 (fun h1 => ?_) (fun h1 => ?_)
    · have h1' : Hs07.isChan s c = false := by simpa using h1
      exact ⟨_, rfl, (by show 1 ≤ sizeLine; decide), fun l hl => one (-1) (by rw [step_put, if_pos h1']) l hl⟩
    have h1' : Hs07.isChan s c = true := by simpa using h1
    have n1 : ∀ X Y : Hs07.St × List Int, (if Hs07.isChan s c = false then X else Y) = Y := fun X Y => if_neg (by rw [h1']; decide)
    obtain ⟨q, rfl, hq⟩ := isChan_is h1'
    have hp := src_lt hS.wf hq
    obtain ⟨dp, ep⟩ := hS.proc _ _ (proc_of hp)
    have gp := hH.at_ _ _ ep
    refine ⟨_, rfl, _, dn, _, rfl, gn, rfl, _, rfl, S, s, q, rfl, hH, hS.sk, hq, ?_⟩
    refine ⟨_, rfl, _, T.cProcess, dp, _, _, rfl, gp, T.c_Process, T.n_Process_down, rfl, _, rfl, ite2 (fun h2 => ?_) (fun h2 => ?_)⟩
    · exact ⟨_, rfl, (by show 1 ≤ sizeLine; decide), fun l hl => one (-6) (by rw [step_put, n1, Nat.add_sub_cancel, if_pos h2]) l hl⟩
    refine ⟨_, rfl, _, _, rfl, rfl, _, rfl, ite2 (fun h3 => ?_) (fun h3 => ?_)⟩
    · have h3' : (3 : Int) < (hops : Int) := of_decide_eq_true h3
      exact ⟨_, rfl, (by show 1 ≤ sizeLine; decide), fun l hl => one (-2) (by rw [step_put, n1, Nat.add_sub_cancel, if_neg h2, if_pos (by omega)]) l hl⟩
    have h3' : ¬ (3 : Int) < (hops : Int) := fun z => h3 (decide_eq_true z)
    refine ⟨_, rfl, _, rfl, _, T.cProcess, dp, _, _, rfl, gp, T.c_Process, T.n_Process_purse, rfl, _, _, rfl, rfl, _, rfl, ite2 (fun h4 => ?_) (fun h4 => ?_)⟩
    · have h4' : ((Hs07.proc s (Hs07.source s q)).purse : Int) < (coins : Int) := of_decide_eq_true h4
      exact ⟨_, rfl, (by show 1 ≤ sizeLine; decide), fun l hl => one (-3) (by rw [step_put, n1, Nat.add_sub_cancel, if_neg h2, if_neg (by omega), if_pos (by omega)]) l hl⟩
    have h4' : ¬ ((Hs07.proc s (Hs07.source s q)).purse : Int) < (coins : Int) := fun z => h4 (decide_eq_true z)
    refine ⟨_, rfl, _, dn, _, rfl, gn, rfl, _, rfl, _, rfl, _, rfl, S, s, q, coins, hops, rfl, hH, hS, hq, by omega, Nat.lt_of_le_of_lt (B.bd.items q) (by omega), fun H' S' g => ?_⟩
    have hst : Hs07.step s (.put (q + 1) coins hops) = (Hs07.putting s q coins hops, [(((Hs07.proc s (Hs07.source s q)).purse - coins : Nat) : Int)]) := by
      rw [step_put, n1, Nat.add_sub_cancel, if_neg h2, if_neg (by omega), if_neg (by omega)]
      rfl
    have hp' : Hs07.source s q < (Hs07.putting s q coins hops).procs.length := by
      show _ < (s.procs.set _ _).length
      rw [List.length_set]; exact hp
    have epr : Hs07.proc (Hs07.putting s q coins hops) (Hs07.source s q) = ⟨(Hs07.proc s (Hs07.source s q)).purse - coins, Hs07.mix (Hs07.proc s (Hs07.source s q)).memory q coins hops, (Hs07.proc s (Hs07.source s q)).down⟩ :=
      proc_set (s := s) hp
    obtain ⟨dp', ep'⟩ := g.shape.proc _ _ (proc_of hp')
    rw [epr] at ep'
    rw [← g.ad]
    refine ⟨_, rfl, _, T.cProcess, dp', _, _, rfl, g.hold.at_ _ _ ep', T.c_Process, T.n_Process_purse, rfl, (by show 1 ≤ sizeLine; decide), fun l hl => ?_⟩
    exact kk _ _ l (B.done rfl g.hold g.fr g.shape (((B.bd.puts q coins hops).done _).mono (by omega)) (by rw [g.ad]) hst hl)
def spA_count : Sp := fun vs H Q E => ∃ k : Nat, spCall T (.count k) vs H Q E
theorem ok_answer_count : FnOk P w K mg base CX0 12 T.f_answer_count T.d_answer_count ["net", "reader"] (spA_count T) := by
  refine T.F_answer_count.ok sc_answer_count (fun vs H Q E h => ?_) (fun cdv A outer s H vs Q E hr h => ?_)
  · obtain ⟨k, S, s, r, dr, ca, ns, rest, i, N, rfl, _⟩ := h
    rfl
  · obtain ⟨k, S, s, r, dr, ca, ns, rest, i, N, rfl, B, kk⟩ := h
    have hu := hu_of hr
    refine ⟨_, (pss_cons (ps_set (i := 2) sc_answer_count.nd rfl (Or.inl rfl) (pe_meth0 (pv 1) T.c_Reader T.m_Reader_read_number (ok_Reader_read_number T) (hr.mono (by decide)) T.b_Reader_read_number .nil pass0))
      (pss_cons (ps_if (pt_not (pt_val (pe_meth (pv 0) T.c_Net T.m_Net_has_picture (ok_Net_has_picture T) (hr.mono (by decide)) T.b_Net_has_picture .nil pass0 (pa_cons (pv 2) pa_nil)))) (pss_one (ps_ret (pe_lst (pa_cons (pe_un un_neg pe_int) pa_nil)))) pss_nil)
      (pss_one (ps_ret (pe_lst (pa_cons (pe_fld (pe_dget hu (pe_fld (pv 0) rfl) (pv 2) (fun _ _ => rfl)) rfl) (pa_cons (pe_fld (pv 0) rfl) pa_nil))))))), ?_⟩
    have hd : ns.drop i = (k : Int) :: rest := B.args
    obtain ⟨g1, g2, _⟩ := drop_get hd
    refine ⟨_, rfl, r, dr, _, rfl, B.rd, rfl, r, dr, ca, i, ns, _, rfl, B.rd, B.seq.seq, g1, ?_⟩
    obtain ⟨hH, _, _⟩ := B.rdOk (i + 1)
    have hS := B.shape
    obtain ⟨dn, en⟩ := hS.net
    have gn := hH.at_ _ _ en
    refine ⟨_, rfl, _, dn, _, rfl, gn, rfl, _, rfl, S, s, k, rfl, hH, hS, _, rfl, ite2 (fun h1 => ?_) (fun h1 => ?_)⟩
    · have h1' : Hs07.picOf s k = none := by simpa using h1
      exact ⟨_, rfl, (by show 1 ≤ sizeLine; decide), fun l hl => kk _ _ l (B.same (ans := [-1]) rfl (by rw [step_count, h1']) hl)⟩
    obtain ⟨x, hx⟩ : ∃ x, Hs07.picOf s k = some x := by
      cases q : Hs07.picOf s k with
      | none => rw [q] at h1; exact absurd rfl h1
      | some x => exact ⟨x, rfl⟩
    obtain ⟨rfl, j, hj⟩ := picOf_ix hx
    have hP := hS.pic x (List.mem_of_getElem? hj)
    obtain ⟨dq, eq⟩ := hP.pic
    refine ⟨_, rfl, _, T.cNet, dn, _, _, rfl, gn, T.c_Net, T.n_Net_pictures, rfl, _, rfl, _, _, rfl, hS.dget hH hj, _, T.cPicture, dq, _, _, rfl, hH.at_ _ _ eq, T.c_Picture, T.n_Picture_deeds_before, rfl, _, rfl, _, T.cNet, dn, _, _, rfl, gn, T.c_Net, T.n_Net_deeds, rfl, (by show 2 ≤ sizeLine; decide), fun l hl => ?_⟩
    exact kk _ _ l (B.same (ans := [(x.before : Int), (s.deeds : Int)]) rfl (by rw [step_count, hx]; rfl) hl)
def spProcess_fall : Sp := fun vs H Q _ => ∃ (p dx lv : Addr) (y : Hs07.Proc), vs = [.ref p] ∧ H p = some (.ins T.cProcess dx (procF y lv)) ∧ Q .non (upd H p (.ins T.cProcess dx (procF ⟨0, 0, true⟩ lv)))
theorem ok_Process_fall : FnOk P w K mg base CX0 1 T.f_Process_fall T.d_Process_fall ["self"] (spProcess_fall T) := by
  refine T.F_Process_fall.ok sc_Process_fall (fun vs H Q E h => ?_) (fun cdv A outer s H vs Q E hr h => ?_)
  · obtain ⟨p, dx, lv, y, rfl, _⟩ := h
    rfl
  · obtain ⟨p, dx, lv, y, rfl, hp, k⟩ := h
    refine ⟨_, (pss_cons (ps_fld (pv 0) pe_int rfl)
      (pss_cons (ps_fld (pv 0) pe_int rfl)
      (pss_one (ps_fld (pv 0) pe_bl rfl)))), ?_⟩
    refine ⟨_, rfl, p, T.cProcess, dx, _, rfl, hp, T.c_Process, T.n_Process_purse, lt1000 rfl, ?_⟩
    refine ⟨_, rfl, p, T.cProcess, dx, _, rfl, upd_same, T.c_Process, T.n_Process_memory, lt1000 rfl, ?_⟩
    refine ⟨_, rfl, p, T.cProcess, dx, _, rfl, upd_same, T.c_Process, T.n_Process_down, lt1000 rfl, ?_⟩
    rw [upd_upd, upd_upd]
    exact k
def spProcess_rise : Sp := fun vs H Q _ => ∃ (p dx lv : Addr) (y : Hs07.Proc) (a b : Nat), vs = [.ref p, .int a, .int b] ∧ H p = some (.ins T.cProcess dx (procF y lv)) ∧ Q .non (upd H p (.ins T.cProcess dx (procF ⟨a, b, false⟩ lv)))
theorem ok_Process_rise : FnOk P w K mg base CX0 1 T.f_Process_rise T.d_Process_rise ["self", "purse", "memory"] (spProcess_rise T) := by
  refine T.F_Process_rise.ok sc_Process_rise (fun vs H Q E h => ?_) (fun cdv A outer s H vs Q E hr h => ?_)
  · obtain ⟨p, dx, lv, y, a, b, rfl, _⟩ := h
    rfl
  · obtain ⟨p, dx, lv, y, a, b, rfl, hp, k⟩ := h
    refine ⟨_, (pss_cons (ps_fld (pv 0) (pv 1) rfl)
      (pss_cons (ps_fld (pv 0) (pv 2) rfl)
      (pss_one (ps_fld (pv 0) pe_bl rfl)))), ?_⟩
    refine ⟨_, rfl, _, rfl, p, T.cProcess, dx, _, rfl, hp, T.c_Process, T.n_Process_purse, lt1000 rfl, ?_⟩
    refine ⟨_, rfl, _, rfl, p, T.cProcess, dx, _, rfl, upd_same, T.c_Process, T.n_Process_memory, lt1000 rfl, ?_⟩
    refine ⟨_, rfl, p, T.cProcess, dx, _, rfl, upd_same, T.c_Process, T.n_Process_down, lt1000 rfl, ?_⟩
    rw [upd_upd, upd_upd]
    exact k
def spA_fall : Sp := fun vs H Q E => ∃ p : Nat, spCall T (.fall p) vs H Q E
theorem ok_answer_fall : FnOk P w K mg base CX0 12 T.f_answer_fall T.d_answer_fall ["net", "reader"] (spA_fall T) := by
  refine T.F_answer_fall.ok sc_answer_fall (fun vs H Q E h => ?_) (fun cdv A outer s H vs Q E hr h => ?_)
  · obtain ⟨k, S, s, r, dr, ca, ns, rest, i, N, rfl, _⟩ := h
    rfl
  · obtain ⟨p, S, s, r, dr, ca, ns, rest, i, N, rfl, B, kk⟩ := h
    refine ⟨_, (pss_cons (ps_set (i := 2) sc_answer_fall.nd rfl (Or.inl rfl) (pe_meth0 (pv 1) T.c_Reader T.m_Reader_read_number (ok_Reader_read_number T) (hr.mono (by decide)) T.b_Reader_read_number .nil pass0))
      (pss_cons (ps_if (pt_not (pt_val (pe_meth (pv 0) T.c_Net T.m_Net_has_process (ok_Net_has_process T) (hr.mono (by decide)) T.b_Net_has_process .nil pass0 (pa_cons (pv 2) pa_nil)))) (pss_one (ps_ret (pe_lst (pa_cons (pe_un un_neg pe_int) pa_nil)))) pss_nil)
      (pss_cons (ps_set (i := 3) sc_answer_fall.nd rfl (Or.inl rfl) (pe_meth (pv 0) T.c_Net T.m_Net_process (ok_Net_process T) (hr.mono (by decide)) T.b_Net_process .nil pass0 (pa_cons (pv 2) pa_nil)))
      (pss_cons (ps_if (pt_val (pe_fld (pv 3) rfl)) (pss_one (ps_ret (pe_lst (pa_cons (pe_un un_neg pe_int) pa_nil)))) pss_nil)
      (pss_cons (ps_set (i := 4) sc_answer_fall.nd rfl (Or.inl rfl) (pe_fld (pv 3) rfl))
      (pss_cons (ps_expr (pe_meth0 (pv 3) T.c_Process T.m_Process_fall (ok_Process_fall T) (hr.mono (by decide)) T.b_Process_fall .nil pass0))
      (pss_one (ps_ret (pe_lst (pa_cons (pv 4) pa_nil)))))))))), ?_⟩
    have hd : ns.drop i = (p : Int) :: rest := B.args
    obtain ⟨g1, g2, _⟩ := drop_get hd
    refine ⟨_, rfl, r, dr, _, rfl, B.rd, rfl, r, dr, ca, i, ns, _, rfl, B.rd, B.seq.seq, g1, ?_⟩
    obtain ⟨hH, _, _⟩ := B.rdOk (i + 1)
    have hS := B.shape
    obtain ⟨dn, en⟩ := hS.net
    have gn := hH.at_ _ _ en
    refine ⟨_, rfl, _, dn, _, rfl, gn, rfl, _, rfl, S, s, p, rfl, hH, hS, _, rfl, ?_⟩
    rw [isProc_dec]
    refine ite2 (fun h1 => ?_) (fun h1 => ?_)
    · have h1' : Hs07.isProc s p = false := by simpa using h1
      exact ⟨_, rfl, (by show 1 ≤ sizeLine; decide), fun l hl => kk _ _ l (B.same (ans := [-1]) rfl (by rw [step_fall, if_pos h1']) hl)⟩
    have h1' : Hs07.isProc s p = true := by simpa using h1
    have n1 : ∀ X Y : Hs07.St × List Int, (if Hs07.isProc s p = false then X else Y) = Y := fun X Y => if_neg (by rw [h1']; decide)
    obtain ⟨q, rfl, hq⟩ := isProc_is h1'
    obtain ⟨dp, ep⟩ := hS.proc _ _ (proc_of hq)
    have gp := hH.at_ _ _ ep
    refine ⟨_, rfl, _, dn, _, rfl, gn, rfl, _, rfl, S, s, q, rfl, hH, hS.sk, hq, ?_⟩
    refine ⟨_, rfl, _, T.cProcess, dp, _, _, rfl, gp, T.c_Process, T.n_Process_down, rfl, _, rfl, ite2 (fun h2 => ?_) (fun h2 => ?_)⟩
    · exact ⟨_, rfl, (by show 1 ≤ sizeLine; decide), fun l hl => kk _ _ l (B.same (ans := [-6]) rfl (by rw [step_fall, n1, Nat.add_sub_cancel, if_pos h2]) hl)⟩
    refine ⟨_, rfl, _, T.cProcess, dp, _, _, rfl, gp, T.c_Process, T.n_Process_purse, rfl, ?_⟩
    refine ⟨_, rfl, _, dp, _, rfl, gp, rfl, _, dp, _, _, rfl, gp, ?_⟩
    have g := Go.setProc hH hS ep ⟨0, 0, true⟩ dp
    refine ⟨_, rfl, (by show 1 ≤ sizeLine; decide), fun l hl => ?_⟩
    exact kk _ _ l (B.done (ans := [((Hs07.proc s q).purse : Int)]) rfl g.hold g.fr g.shape ((B.bd.setProc _ _).mono (by omega)) (by rw [g.ad]) (by rw [step_fall, n1, Nat.add_sub_cancel, if_neg h2]; rfl) hl)
end
end Cp

set_option Elab.async false
set_option linter.all false
set_option maxRecDepth 100000
set_option maxHeartbeats 2000000
namespace Cp
open PySem PySem.Spec PyProof.Rows L2
theorem drop_map {S : Sto} (l : List Hs07.Pic) (k : Nat) : dropK (l.map fun x => ((Sum.inl (x.number : Int) : Key), V.ref (S.ad (.pic x.number)))) (Sum.inl (k : Int)) = (l.filter fun x => x.number != k).map fun x => ((Sum.inl (x.number : Int) : Key), V.ref (S.ad (.pic x.number))) := by
  unfold dropK
  rw [List.filter_map]
  congr 1
  apply List.filter_congr
  intro x _
  show decide ((Sum.inl (x.number : Int) : Key) ≠ Sum.inl (k : Int)) = (x.number != k)
  by_cases h : x.number = k
  · subst h; simp
  · have h1 : ¬ (x.number : Int) = (k : Int) := fun z => h (by omega)
    have h2 : (x.number != k) = true := by simpa using h
    rw [h2]
    exact decide_eq_true fun z => h1 (Sum.inl.inj z)
theorem drop_len : ∀ {l : List Hs07.Pic} {x : Hs07.Pic}, (l.map (·.number)).Nodup → x ∈ l → (l.filter fun y => y.number != x.number).length + 1 = l.length
  | [], x, _, hx => by cases hx
  | a :: r, x, nd, hx => by
    rw [List.map_cons, List.nodup_cons] at nd
    by_cases h : a.number = x.number
    · have e : r.filter (fun y => y.number != x.number) = r := by
        rw [List.filter_eq_self]
        intro y hy
        have : y.number ≠ x.number := fun z => nd.1 (List.mem_map.mpr ⟨y, hy, z.trans h.symm⟩)
        simpa using this
      rw [List.filter_cons_of_neg (by simp [h]), e]
      rfl
    · have hx' : x ∈ r := by
        rcases List.mem_cons.mp hx with z | z
        · exact absurd (congrArg (·.number) z.symm) h
        · exact z
      have ih := drop_len nd.2 hx'
      rw [List.filter_cons_of_pos (by simp [h]), List.length_cons, List.length_cons, ih]
section
variable {K : PySem.W.Frag} {mg : Str → Option Value} {T : Env K mg} {S S' : Sto} {s : Hs07.St}
theorem Shape.keep (h : Shape T S s) (f : Hs07.Pic → Bool) : Shape T (S.put .pdict (.dK ((s.pics.filter f).map fun x => ((Sum.inl (x.number : Int) : Key), V.ref (S.ad (.pic x.number)))))) { s with pics := s.pics.filter f } := by
  refine ⟨by simpa using h.net, by simpa using h.plist, by simpa using h.proc, fun j hj => ?_, by simpa using h.clist, by simpa using h.chan, ?_, by simp, fun x hx => ?_, ⟨h.wf.ends, h.wf.on, fun x hx => h.wf.pics x (List.mem_filter.mp hx).1, ?_, h.wf.np, h.wf.nc, ?_⟩⟩
  · show (S.put _ _).ob (.leav j) = some (.lst ((Hs07.outs s j).map fun (c : Nat) => .int ((c : Int) + 1)))
    simpa using h.leav j hj
  · intro c l hl
    obtain ⟨as, q, r⟩ := h.wait c l hl
    exact ⟨as, by simpa using q, Paired.mapP r fun a it z => z.of fun a o e => by simpa using e⟩
  · exact (h.pic x (List.mem_filter.mp hx).1).of (fun r hr => rfl) (fun a o e => by simpa using e) (by simp) (by simp) (by simp) (by simp) (by simp)
  · exact List.Nodup.sublist (List.Sublist.map _ List.filter_sublist) h.wf.nd
  · exact Nat.le_trans (List.length_filter_le _ _) h.wf.nk
end
theorem Bd.keep {N : Nat} {s : Hs07.St} (h : Bd N s) (f : Hs07.Pic → Bool) : Bd N { s with pics := s.pics.filter f } := ⟨h.on, fun x hx => h.came x (List.mem_filter.mp hx).1⟩
section
variable {P : Program} {w : World} {K : PySem.W.Frag} {mg : Str → Option Value} {base : Heap} (T : Env K mg)
def spNet_drop_picture : Sp := fun vs H Q _ => ∃ (S : Sto) (s : Hs07.St) (j : Nat) (x : Hs07.Pic), vs = [.ref (S.ad .net), .int x.number] ∧ Hold H S ∧ Shape T S s ∧ s.pics[j]? = some x ∧
  ∀ H' S', Go T H S H' S' { s with pics := s.pics.filter fun y => y.number != x.number } → Q .non H'
theorem ok_Net_drop_picture : FnOk P w K mg base CX0 1 T.f_Net_drop_picture T.d_Net_drop_picture ["self", "k"] (spNet_drop_picture T) := by
  refine T.F_Net_drop_picture.ok sc_Net_drop_picture (fun vs H Q E h => ?_) (fun cdv A outer s H vs Q E hr h => ?_)
  · obtain ⟨S, s, j, x, rfl, _⟩ := h
    rfl
  · obtain ⟨S, s, j, x, rfl, hH, hS, hx, k⟩ := h
    have hu := hu_of hr
    obtain ⟨dn, en⟩ := hS.net
    refine ⟨_, (pss_one (ps_expr (pe_dpop1 (pe_fld (pv 0) rfl) (pv 1) ⟨rfl, rfl, rfl, rfl⟩))), ?_⟩
    have gd := hH.at_ _ _ hS.pdict
    have hv : valV (s.pics.map fun x => ((Sum.inl (x.number : Int) : Key), V.ref (S.ad (.pic x.number)))) (Sum.inl (x.number : Int)) = some (.ref (S.ad (.pic x.number))) := by
      rw [valV_pics S.ad x.number s.pics, find_of hS.wf.nd hx]
      rfl
    refine ⟨_, rfl, _, T.cNet, dn, _, _, rfl, hH.at_ _ _ en, T.c_Net, T.n_Net_pictures, rfl, _, rfl, .inl ⟨_, .inl gd⟩, _, rfl, _, Sum.inl (x.number : Int), _, gd, rfl, hv, ?_⟩
    rw [drop_map]
    exact k _ _ ⟨hH.write hS.pdict _, Fr.write hS.pdict _, hS.keep _, rfl, Im.put (by simp)⟩
def spA_drop : Sp := fun vs H Q E => ∃ k : Nat, spCall T (.drop k) vs H Q E
theorem ok_answer_drop : FnOk P w K mg base CX0 12 T.f_answer_drop T.d_answer_drop ["net", "reader"] (spA_drop T) := by
  refine T.F_answer_drop.ok sc_answer_drop (fun vs H Q E h => ?_) (fun cdv A outer s H vs Q E hr h => ?_)
  · obtain ⟨k, S, s, r, dr, ca, ns, rest, i, N, rfl, _⟩ := h
    rfl
  · obtain ⟨k, S, s, r, dr, ca, ns, rest, i, N, rfl, B, kk⟩ := h
    have hu := hu_of hr
    refine ⟨_, (pss_cons (ps_set (i := 2) sc_answer_drop.nd rfl (Or.inl rfl) (pe_meth0 (pv 1) T.c_Reader T.m_Reader_read_number (ok_Reader_read_number T) (hr.mono (by decide)) T.b_Reader_read_number .nil pass0))
      (pss_cons (ps_if (pt_not (pt_val (pe_meth (pv 0) T.c_Net T.m_Net_has_picture (ok_Net_has_picture T) (hr.mono (by decide)) T.b_Net_has_picture .nil pass0 (pa_cons (pv 2) pa_nil)))) (pss_one (ps_ret (pe_lst (pa_cons (pe_un un_neg pe_int) pa_nil)))) pss_nil)
      (pss_cons (ps_expr (pe_meth (pv 0) T.c_Net T.m_Net_drop_picture (ok_Net_drop_picture T) (hr.mono (by decide)) T.b_Net_drop_picture .nil pass0 (pa_cons (pv 2) pa_nil)))
      (pss_one (ps_ret (pe_lst (pa_cons (pe_callB call_lenD rfl T.n_len PySem.boot_len (pa_cons (pe_fld (pv 0) rfl) pa_nil)) pa_nil))))))), ?_⟩
    have hd : ns.drop i = (k : Int) :: rest := B.args
    obtain ⟨g1, g2, _⟩ := drop_get hd
    refine ⟨_, rfl, r, dr, _, rfl, B.rd, rfl, r, dr, ca, i, ns, _, rfl, B.rd, B.seq.seq, g1, ?_⟩
    obtain ⟨hH, _, _⟩ := B.rdOk (i + 1)
    have hS := B.shape
    obtain ⟨dn, en⟩ := hS.net
    have gn := hH.at_ _ _ en
    refine ⟨_, rfl, _, dn, _, rfl, gn, rfl, _, rfl, S, s, k, rfl, hH, hS, _, rfl, ite2 (fun h1 => ?_) (fun h1 => ?_)⟩
    · have h1' : Hs07.picOf s k = none := by simpa using h1
      exact ⟨_, rfl, (by show 1 ≤ sizeLine; decide), fun l hl => kk _ _ l (B.same (ans := [-1]) rfl (by rw [step_drop, h1']) hl)⟩
    obtain ⟨x, hx⟩ : ∃ x, Hs07.picOf s k = some x := by
      cases q : Hs07.picOf s k with
      | none => rw [q] at h1; exact absurd rfl h1
      | some x => exact ⟨x, rfl⟩
    obtain ⟨rfl, j, hj⟩ := picOf_ix hx
    refine ⟨_, rfl, _, dn, _, rfl, gn, rfl, _, rfl, S, s, j, x, rfl, hH, hS, hj, fun H' S' g => ?_⟩
    obtain ⟨dn', en'⟩ := g.shape.net
    rw [← g.ad]
    refine ⟨_, rfl, _, T.cNet, dn', _, _, rfl, g.hold.at_ _ _ en', T.c_Net, T.n_Net_pictures, rfl, _, _, rfl, g.hold.at_ _ _ g.shape.pdict, (by show 1 ≤ sizeLine; decide), fun l hl => ?_⟩
    have hlen := drop_len hS.wf.nd (List.mem_of_getElem? hj)
    have hst : Hs07.step s (.drop x.number) = ({ s with pics := s.pics.filter fun y => y.number != x.number }, [(((s.pics.filter fun y => y.number != x.number).length : Nat) : Int)]) := by
      rw [step_drop, hx, show s.pics.length - 1 = (s.pics.filter fun y => y.number != x.number).length by omega]
      rfl
    rw [List.length_map]
    exact kk _ _ l (B.done rfl g.hold g.fr g.shape ((B.bd.keep _).mono (by omega)) (by rw [g.ad]) hst hl)
abbrev procT (x : Hs07.Proc) : List Nat := [x.purse, x.memory, if x.down = true then 1 else 0]
def spA_shows : Sp := fun vs H Q E => spCall T .shows vs H Q E
theorem ok_answer_shows : FnOk P w K mg base CX0 12 T.f_answer_shows T.d_answer_shows ["net", "reader"] (spA_shows T) := by
  refine T.F_answer_shows.ok sc_answer_shows (fun vs H Q E h => ?_) (fun cdv A outer s H vs Q E hr h => ?_)
  · obtain ⟨S, s, r, dr, ca, ns, rest, i, N, rfl, _⟩ := h
    rfl
  · obtain ⟨S, s, r, dr, ca, ns, rest, i, N, rfl, B, kk⟩ := h
    refine ⟨_, (pss_cons (ps_set (i := 2) sc_answer_shows.nd rfl (Or.inl rfl) (pe_lst pa_nil))
      (pss_cons (ps_for PassesOwn.never rfl (pi_list (pe_fld (pv 0) rfl)) (pg_name (i := 3) sc_answer_shows.nd rfl (Or.inl rfl)) (pss_one (ps_expr (pe_bm PySem.F.plainAttrs_list PySem.F.slot_list_extend PySem.F.type_list_extend mt_extend (pv 2) (pa_cons (pe_lst (pa_cons (pe_fld (pv 3) rfl) (pa_cons (pe_fld (pv 3) rfl) (pa_cons (pe_ifExp (pt_val (pe_fld (pv 3) rfl)) pe_int pe_int) pa_nil)))) pa_nil)))))
      (pss_one (ps_ret (pv 2))))), ?_⟩
    have hS := B.shape
    have hH0 := B.hold
    have hrd : rdAt T H r dr ca i = H := by
      funext b
      by_cases hb : b = r
      · subst hb
        show upd _ _ _ _ = _
        rw [upd_same]; exact B.rd.symm
      · exact upd_ne hb
    obtain ⟨dn, en⟩ := hS.net
    have line : 1000 < sizeLine := by decide
    have hnp := hS.wf.np
    have flen : ∀ l : List Hs07.Proc, (l.flatMap procT).length = 3 * l.length := by
      intro l
      induction l with
      | nil => rfl
      | cons a t ih => rw [List.flatMap_cons, List.length_append, ih, List.length_cons]; simp; omega
    refine ⟨Nat.zero_le _, fun l hl => ?_⟩
    have s0 : Same H (upd H l (.lst [])) := fun b o e => by rw [upd_ne (ne_of_none e hl)]; exact e
    refine ⟨_, rfl, _, T.cNet, dn, _, _, rfl, s0 _ _ (hH0.at_ _ _ en), T.c_Net, T.n_Net_processes, rfl, _, rfl, ⟨_, SqL.of (s0 _ _ (hH0.at_ _ _ hS.plist))⟩, for_list (K := K) (a := S.ad .plist) (xs := (List.range s.procs.length).map fun j => V.ref (S.ad (.proc j)))
      (fun u σ H' => ∃ v : Option V, σ = [some (.ref (S.ad .net)), some (.ref r), some (.ref l), v] ∧ Same H H' ∧ H' l = some (.lst (vi ((s.procs.take u).flatMap procT)))) ⟨none, rfl, s0, upd_same⟩ ?_ ?_ ?_⟩
    · rintro u σ H' hu ⟨v, rfl, sm, hl'⟩
      exact SqL.of (sm _ _ (hH0.at_ _ _ hS.plist))
    · rintro u y σ H' hy ⟨v, rfl, sm, hl'⟩
      obtain ⟨c, hc, rfl⟩ := map_get hy
      have hci : c = u ∧ u < s.procs.length := by
        rw [List.getElem?_eq_some_iff] at hc
        obtain ⟨h1, h2⟩ := hc
        simp at h1 h2
        exact ⟨h2.symm, h1⟩
      obtain ⟨rfl, hu⟩ := hci
      have ex := proc_of hu
      obtain ⟨dp, ep⟩ := hS.proc _ _ ex
      have gp := sm _ _ (hH0.at_ _ _ ep)
      have hsn := flat_snoc procT ex
      have hle := flen (s.procs.take c)
      rw [List.length_take] at hle
      generalize Hs07.proc s c = y at *
      have fin : ∀ q : Addr, H' q = none → ∀ b : Nat, b = (if y.down = true then 1 else 0) → ∃ (l' b' : Addr) (xs zs : List V), V.ref l = .ref l' ∧ [V.ref q] = [V.ref b'] ∧ (upd H' q (.lst [.int (y.purse : Nat), .int (y.memory : Nat), .int (b : Nat)])) l' = some (.lst xs) ∧ (upd H' q (.lst [.int (y.purse : Nat), .int (y.memory : Nat), .int (b : Nat)])) b' = some (.lst zs) ∧ xs.length + zs.length ≤ sizeLine ∧
          ∃ v : Option V, [some (.ref (S.ad .net)), some (.ref r), some (.ref l), some (V.ref (S.ad (.proc c)))] = [some (.ref (S.ad .net)), some (.ref r), some (.ref l), v] ∧ Same H (upd (upd H' q (.lst [.int (y.purse : Nat), .int (y.memory : Nat), .int (b : Nat)])) l' (.lst (xs ++ zs))) ∧ (upd (upd H' q (.lst [.int (y.purse : Nat), .int (y.memory : Nat), .int (b : Nat)])) l' (.lst (xs ++ zs))) l = some (.lst (vi ((s.procs.take (c + 1)).flatMap procT))) := fun q hq b hb => by
        have lq : l ≠ q := ne_of_none hl' hq
        refine ⟨l, q, _, _, rfl, rfl, (by rw [upd_ne lq]; exact hl'), upd_same, ?_, _, rfl, fun b o e => ?_, ?_⟩
        · rw [vi_len]
          simp only [List.length_cons, List.length_nil]
          omega
        · rw [upd_ne (ne_of_none e hl), upd_ne (ne_of_none (sm b o e) hq)]; exact sm b o e
        · rw [upd_same, hsn, vi_app, hb]
          rfl
      refine ⟨_, rfl, .inl ⟨rfl, _, SqL.of hl'⟩, _, rfl, _, T.cProcess, dp, _, _, rfl, gp, T.c_Process, T.n_Process_purse, rfl, _, rfl, _, T.cProcess, dp, _, _, rfl, gp, T.c_Process, T.n_Process_memory, rfl, _, rfl, _, T.cProcess, dp, _, _, rfl, gp, T.c_Process, T.n_Process_down, rfl, _, rfl, ite2 (fun h2 => ?_) (fun h2 => ?_)⟩
      · exact ⟨(by show 3 ≤ sizeLine; decide), fun q hq => fin q hq 1 (by rw [if_pos h2])⟩
      · exact ⟨(by show 3 ≤ sizeLine; decide), fun q hq => fin q hq 0 (by rw [if_neg h2])⟩
    · rintro σ H' ⟨v, rfl, sm, hl'⟩
      rw [List.length_map, List.length_range, List.take_length] at hl'
      refine ⟨_, rfl, kk _ _ l (B.fin (j := i) (H' := H') (S' := S) (s' := s) (ans := Hs07.ints (s.procs.flatMap procT)) rfl (Hold.same hH0 sm) ?_ hS (B.bd.mono (by omega)) rfl (step_shows s) (by rw [vi_ints]; exact hl') (hH0.notOwn hl) (by rw [hrd]; exact hl))⟩
      rw [hrd]
      exact Fr.same sm
def sptell_waiting : Sp := fun vs H Q _ => ∃ (S : Sto) (a : Addr) (it : Hs07.Item), vs = [.ref a] ∧ Hold H S ∧ ItemAt T S a it ∧ ∀ l, H l = none → Q (.ref l) (upd H l (.lst (vi (Hs07.itemTold it))))
theorem ok_tell_waiting : FnOk P w K mg base CX0 1 T.f_tell_waiting T.d_tell_waiting ["thing"] (sptell_waiting T) := by
  refine T.F_tell_waiting.ok sc_tell_waiting (fun vs H Q E h => ?_) (fun cdv A outer s H vs Q E hr h => ?_)
  · obtain ⟨S, a, it, rfl, _⟩ := h
    rfl
  · obtain ⟨S, a, it, rfl, hH, ia, k⟩ := h
    refine ⟨_, (pss_cons (ps_if (pt_val (pe_callB call_isinst rfl T.n_isinstance boot_isinstance (pa_cons (pv 0) (pa_cons (pe_gref rfl T.g_Mark) pa_nil)))) (pss_one (ps_ret (pe_lst (pa_cons (pe_gint rfl T.g_MARK) (pa_cons (pe_fld (pv 0) rfl) pa_nil))))) pss_nil)
      (pss_one (ps_ret (pe_lst (pa_cons (pe_gint rfl T.g_MESSAGE) (pa_cons (pe_fld (pv 0) rfl) (pa_cons (pe_fld (pv 0) rfl) (pa_cons (pe_fld (pv 0) rfl) pa_nil)))))))), ?_⟩
    cases it with
    | msg m =>
      obtain ⟨da, ea⟩ := ia
      have ga := hH.at_ _ _ ea
      rw [hH.imm] at ga
      refine ⟨_, rfl, _, _, _, _, rfl, TyMsg T hH ea, T.ik_Message_Mark, _, rfl, iteF ?_⟩
      exact ⟨_, rfl, _, T.cMessage, da, _, _, rfl, ga, T.c_Message, T.n_Message_coins, rfl, _, rfl, _, T.cMessage, da, _, _, rfl, ga, T.c_Message, T.n_Message_memory, rfl, _, rfl, _, T.cMessage, da, _, _, rfl, ga, T.c_Message, T.n_Message_hops, rfl, (by show 4 ≤ sizeLine; decide), fun l hl => k l hl⟩
    | mark i =>
      obtain ⟨da, ea⟩ := ia
      have ga := hH.at_ _ _ ea
      rw [hH.imm] at ga
      refine ⟨_, rfl, _, _, _, _, rfl, TyMark T hH ea, T.ik_Mark_Mark, _, rfl, iteT ?_⟩
      exact ⟨_, rfl, _, T.cMark, da, _, _, rfl, ga, T.c_Mark, T.n_Mark_picture_number, rfl, (by show 2 ≤ sizeLine; decide), fun l hl => k l hl⟩
def spA_channel : Sp := fun vs H Q E => ∃ c : Nat, spCall T (.channel c) vs H Q E
theorem ok_answer_channel : FnOk P w K mg base CX0 12 T.f_answer_channel T.d_answer_channel ["net", "reader"] (spA_channel T) := by
  refine T.F_answer_channel.ok sc_answer_channel (fun vs H Q E h => ?_) (fun cdv A outer s H vs Q E hr h => ?_)
  · obtain ⟨k, S, s, r, dr, ca, ns, rest, i, N, rfl, _⟩ := h
    rfl
  · obtain ⟨c, S, s, r, dr, ca, ns, rest, i, N, rfl, B, kk⟩ := h
    refine ⟨_, (pss_cons (ps_set (i := 2) sc_answer_channel.nd rfl (Or.inl rfl) (pe_meth0 (pv 1) T.c_Reader T.m_Reader_read_number (ok_Reader_read_number T) (hr.mono (by decide)) T.b_Reader_read_number .nil pass0))
      (pss_cons (ps_if (pt_not (pt_val (pe_meth (pv 0) T.c_Net T.m_Net_has_channel (ok_Net_has_channel T) (hr.mono (by decide)) T.b_Net_has_channel .nil pass0 (pa_cons (pv 2) pa_nil)))) (pss_one (ps_ret (pe_lst (pa_cons (pe_un un_neg pe_int) pa_nil)))) pss_nil)
      (pss_cons (ps_set (i := 3) sc_answer_channel.nd rfl (Or.inl rfl) (pe_fld (pe_meth (pv 0) T.c_Net T.m_Net_channel (ok_Net_channel T) (hr.mono (by decide)) T.b_Net_channel .nil pass0 (pa_cons (pv 2) pa_nil)) rfl))
      (pss_cons (ps_set (i := 4) sc_answer_channel.nd rfl (Or.inl rfl) (pe_lst (pa_cons (pe_callB call_len_seq rfl T.n_len PySem.boot_len (pa_cons (pv 3) pa_nil)) pa_nil)))
      (pss_cons (ps_for PassesOwn.never rfl (pi_list (pv 3)) (pg_name (i := 5) sc_answer_channel.nd rfl (Or.inl rfl)) (pss_one (ps_expr (pe_bm PySem.F.plainAttrs_list PySem.F.slot_list_extend PySem.F.type_list_extend mt_extend (pv 4) (pa_cons (pe_call (ok_tell_waiting T) (hr.mono (by decide)) rfl T.g_tell_waiting T.F_tell_waiting.kp T.b_tell_waiting .nil pass0 (pa_cons (pv 5) pa_nil)) pa_nil)))))
      (pss_one (ps_ret (pv 4)))))))), ?_⟩
    have hd : ns.drop i = (c : Int) :: rest := B.args
    obtain ⟨g1, g2, _⟩ := drop_get hd
    refine ⟨_, rfl, r, dr, _, rfl, B.rd, rfl, r, dr, ca, i, ns, _, rfl, B.rd, B.seq.seq, g1, ?_⟩
    obtain ⟨hH, _, _⟩ := B.rdOk (i + 1)
    have hS := B.shape
    have line : 2000000 < sizeLine := by decide
    obtain ⟨dn, en⟩ := hS.net
    have gn := hH.at_ _ _ en
    refine ⟨_, rfl, _, dn, _, rfl, gn, rfl, _, rfl, S, s, c, rfl, hH, hS, _, rfl, ?_⟩
    rw [isChan_dec]
    refine ite2 (fun h1 => ?_) (fun h1 => ?_)
    · have h1' : Hs07.isChan s c = false := by simpa using h1
      exact ⟨_, rfl, (by show 1 ≤ sizeLine; decide), fun l hl => kk _ _ l (B.same (ans := [-1]) rfl (by rw [step_channel, if_pos h1']) hl)⟩
    have h1' : Hs07.isChan s c = true := by simpa using h1
    obtain ⟨q, rfl, hq⟩ := isChan_is h1'
    have hst : Hs07.step s (.channel (q + 1)) = (s, Hs07.ints ((Hs07.items s q).length :: (Hs07.items s q).flatMap Hs07.itemTold)) := by
      rw [step_channel, if_neg (by rw [h1']; decide), Nat.add_sub_cancel]
    have hf := B.few
    rw [hst] at hf
    have ex : s.chans[q]? = some s.chans[q] := List.getElem?_eq_getElem hq
    obtain ⟨dc, ec⟩ := hS.chan q _ ex
    have hon : q < s.on.length := by rw [hS.wf.on]; exact hq
    obtain ⟨as, ew, hw⟩ := hS.wait q _ (items_get hon)
    have gw := hH.at_ _ _ ew
    generalize Hs07.items s q = its at *
    have hf' : (its.flatMap Hs07.itemTold).length < 1000000 := by
      have : (Hs07.ints (its.length :: its.flatMap Hs07.itemTold)).length = (its.flatMap Hs07.itemTold).length + 1 := by unfold Hs07.ints; rw [List.length_map, List.length_cons]
      rw [this] at hf
      omega
    refine ⟨_, rfl, _, dn, _, rfl, gn, rfl, _, rfl, S, s, q, rfl, hH, hS.sk, hq, _, T.cChannel, dc, _, _, rfl, hH.at_ _ _ ec, T.c_Channel, T.n_Channel_waiting, rfl, ?_⟩
    refine ⟨_, rfl, _, _, rfl, .inl (SqL.of gw), (by show 1 ≤ sizeLine; decide), fun l hl => ?_⟩
    rw [List.length_map, Paired.length hw]
    have s0 : Same (rdAt T H r dr ca (i + 1)) (upd (rdAt T H r dr ca (i + 1)) l (.lst [.int (its.length : Nat)])) := fun b o e => by rw [upd_ne (ne_of_none e hl)]; exact e
    refine ⟨_, rfl, _, rfl, ⟨_, SqL.of (s0 _ _ gw)⟩, for_list (K := K) (a := S.ad (.wait q)) (xs := as.map V.ref)
      (fun u σ H' => ∃ v : Option V, σ = [some (.ref (S.ad .net)), some (.ref r), some (.int ((q : Int) + 1)), some (.ref (S.ad (.wait q))), some (.ref l), v] ∧ Same (rdAt T H r dr ca (i + 1)) H' ∧ H' l = some (.lst (vi (its.length :: (its.take u).flatMap Hs07.itemTold)))) ⟨none, rfl, s0, upd_same⟩ ?_ ?_ ?_⟩
    · rintro u σ H' hu ⟨v, rfl, sm, hl'⟩
      exact SqL.of (sm _ _ gw)
    · rintro u y σ H' hy ⟨v, rfl, sm, hl'⟩
      obtain ⟨a, ha, rfl⟩ := map_get hy
      have hj : u < its.length := by
        rw [← Paired.length hw]
        exact (List.getElem?_eq_some_iff.mp ha).1
      have exm : its[u]? = some its[u] := List.getElem?_eq_getElem hj
      obtain ⟨a', ha', ia⟩ := Cp.Paired.get hw exm
      rw [ha] at ha'
      cases ha'
      have hpre := flat_take Hs07.itemTold its (u + 1)
      have hsn := flat_snoc Hs07.itemTold exm
      rw [hsn, List.length_append] at hpre
      generalize its[u] = it at *
      have hH' := Hold.same hH sm
      refine ⟨_, rfl, .inl ⟨rfl, _, SqL.of hl'⟩, _, rfl, S, a, it, rfl, hH', ia, fun p hp => ?_⟩
      have lp : l ≠ p := ne_of_none hl' hp
      refine ⟨_, _, _, _, rfl, rfl, (by rw [upd_ne lp]; exact hl'), upd_same, ?_, ?_⟩
      · rw [vi_len, vi_len]
        simp only [List.length_cons]
        omega
      · refine ⟨_, rfl, fun b o e => ?_, ?_⟩
        · rw [upd_ne (ne_of_none e hl), upd_ne (ne_of_none (sm b o e) hp)]; exact sm b o e
        · rw [upd_same, hsn, ← List.cons_append, vi_app]
    · rintro σ H' ⟨v, rfl, sm, hl'⟩
      rw [List.length_map, Paired.length hw, List.take_length] at hl'
      exact ⟨_, rfl, kk _ _ l (B.fin rfl (Hold.same hH sm) (Fr.same sm) hS (B.bd.mono (by omega)) rfl hst (by rw [vi_ints]; exact hl') (hH.notOwn hl) hl)⟩
end
end Cp

set_option Elab.async false
set_option linter.all false
set_option maxRecDepth 100000
set_option maxHeartbeats 2000000
namespace Cp
open PySem PySem.Spec PyProof.Rows L2
theorem lc_vals {d : Addr} {o : Obj} {kvs : List (Key × V)} {g : TG} {tt : TT} {te : TE} {vs : List Nat} {σ : L2.St} {H1 : Hp} {D : Addr} {Qd : Hp → Prop} (Pv : Nat → Hp → Prop) (h0 : Pv 0 (upd H1 D (.lst []))) (hl : ∀ i H, i ≤ kvs.length → Pv i H → H d = some (.frz o (.dK kvs)))
    (hs : ∀ i k x H, kvs[i]? = some (k, x) → Pv i H → g x (wipe σ vs) H fun σ2 H2 => wipe σ2 vs = wipe σ vs ∧ tt σ2 H2 fun b H3 =>
      if b = true then te σ2 H3 fun y H4 => ∃ acc, H4 D = some (.lst acc) ∧ acc.length < sizeLine ∧ Pv (i + 1) (upd H4 D (.lst (acc ++ [y]))) else Pv (i + 1) H3) (hd : ∀ H, Pv kvs.length H → Qd H) :
    ∃ W : Nat → Nat → Hp → Prop, (∃ m, W 0 m (upd H1 D (.lst []))) ∧ ∀ i m H, W i m H →
      ((Itd d o kvs).stop i H ∧ Qd H) ∨ ((Itd d o kvs).go i H ∧ ∃ Nx : Hp → Prop, (∀ H', Nx H' → ∃ m', m' < m ∧ W (i + 1) m' H') ∧ ∀ x H', (Itd d o kvs).yld i H x H' → g x (wipe σ vs) H' fun σ2 H2 => wipe σ2 vs = wipe σ vs ∧ tt σ2 H2 fun b H3 =>
        if b = true then te σ2 H3 fun y H4 => ∃ acc, H4 D = some (.lst acc) ∧ acc.length < sizeLine ∧ Nx (upd H4 D (.lst (acc ++ [y]))) else Nx H3) := by
  refine ⟨fun i m H => m = kvs.length - i ∧ i ≤ kvs.length ∧ Pv i H, ⟨kvs.length, by simp, Nat.zero_le _, h0⟩, fun i m H ⟨hm, hi, p⟩ => ?_⟩
  have q := hl i H hi p
  by_cases hlt : i < kvs.length
  · refine .inr ⟨⟨q, hlt⟩, Pv (i + 1), fun H' p' => ⟨kvs.length - (i + 1), by omega, rfl, hlt, p'⟩, fun x H' ⟨e, k, hk⟩ => ?_⟩
    rw [e]
    exact hs i k x H hk p
  · have e : i = kvs.length := by omega
    exact .inl ⟨⟨q, by omega⟩, hd H (e ▸ p)⟩
theorem lc_keys {d : Addr} {o : Obj} {kvs : List (Key × V)} {g : TG} {tt : TT} {te : TE} {vs : List Nat} {σ : L2.St} {H1 : Hp} {D : Addr} {Qd : Hp → Prop} (Pv : Nat → Hp → Prop) (h0 : Pv 0 (upd H1 D (.lst []))) (hl : ∀ i H, i ≤ kvs.length → Pv i H → H d = some (.frz o (.dK kvs)))
    (hs : ∀ i k x H, kvs[i]? = some (k, x) → Pv i H → g (kV k) (wipe σ vs) H fun σ2 H2 => wipe σ2 vs = wipe σ vs ∧ tt σ2 H2 fun b H3 =>
      if b = true then te σ2 H3 fun y H4 => ∃ acc, H4 D = some (.lst acc) ∧ acc.length < sizeLine ∧ Pv (i + 1) (upd H4 D (.lst (acc ++ [y]))) else Pv (i + 1) H3) (hd : ∀ H, Pv kvs.length H → Qd H) :
    ∃ W : Nat → Nat → Hp → Prop, (∃ m, W 0 m (upd H1 D (.lst []))) ∧ ∀ i m H, W i m H →
      ((Itk d o kvs).stop i H ∧ Qd H) ∨ ((Itk d o kvs).go i H ∧ ∃ Nx : Hp → Prop, (∀ H', Nx H' → ∃ m', m' < m ∧ W (i + 1) m' H') ∧ ∀ x H', (Itk d o kvs).yld i H x H' → g x (wipe σ vs) H' fun σ2 H2 => wipe σ2 vs = wipe σ vs ∧ tt σ2 H2 fun b H3 =>
        if b = true then te σ2 H3 fun y H4 => ∃ acc, H4 D = some (.lst acc) ∧ acc.length < sizeLine ∧ Nx (upd H4 D (.lst (acc ++ [y]))) else Nx H3) := by
  refine ⟨fun i m H => m = kvs.length - i ∧ i ≤ kvs.length ∧ Pv i H, ⟨kvs.length, by simp, Nat.zero_le _, h0⟩, fun i m H ⟨hm, hi, p⟩ => ?_⟩
  have q := hl i H hi p
  by_cases hlt : i < kvs.length
  · refine .inr ⟨⟨q, hlt⟩, Pv (i + 1), fun H' p' => ⟨kvs.length - (i + 1), by omega, rfl, hlt, p'⟩, fun x H' ⟨e, k, v, hk, ex⟩ => ?_⟩
    rw [e, ex]
    exact hs i k v H hk p
  · have e : i = kvs.length := by omega
    exact .inl ⟨⟨q, by omega⟩, hd H (e ▸ p)⟩
theorem pe_fldB {X : Cx} (K : PySem.W.Frag) {e : Expr} {f : Str} {pos : Pos} {ta : TE} (he : PE X e ta) (hb : attributeBase e f X.env (eval e X.env) = eval e X.env) (hK : X.K = K := by rfl) : PE X (.Attribute e f pos) (tFld K ta f) := by
  subst hK
  exact pe_fld he hb
theorem sum_is (l : List Nat) : Hs07.sum l = l.sum := by
  have h : ∀ (l : List Nat) (n : Nat), l.foldl (fun a b => a + b) n = n + l.sum := by
    intro l
    induction l with
    | nil => intro n; rfl
    | cons a r ih => intro n; rw [List.foldl_cons, ih, List.sum_cons]; omega
  unfold Hs07.sum
  rw [h]
  omega
theorem ints_sum (l : List Nat) : (Hs07.ints l).sum = ((l.sum : Nat) : Int) := by
  unfold Hs07.ints
  induction l with
  | nil => rfl
  | cons a r ih => rw [List.map_cons, List.sum_cons, List.sum_cons, ih]; omega
def coinsL : Hs07.Item → List Nat
  | .msg m => [m.coins]
  | .mark _ => []
theorem coinsOn_is (l : List Hs07.Item) : Hs07.coinsOn l = (l.flatMap coinsL).sum := by
  have h : ∀ (l : List Hs07.Item) (n : Nat), l.foldl (fun n i => match i with | .msg m => n + m.coins | .mark _ => n) n = n + (l.flatMap coinsL).sum := by
    intro l
    induction l with
    | nil => intro n; rfl
    | cons a r ih =>
      intro n
      rw [List.foldl_cons, ih, List.flatMap_cons, List.sum_append]
      cases a with
      | msg m => simp [coinsL]; omega
      | mark k => simp [coinsL]
  unfold Hs07.coinsOn
  have := h l 0
  rw [Nat.zero_add] at this
  exact this
theorem coinsL_len (l : List Hs07.Item) : (l.flatMap coinsL).length ≤ l.length := by
  induction l with
  | nil => exact Nat.le_refl _
  | cons a r ih =>
    rw [List.flatMap_cons, List.length_append, List.length_cons]
    have : (coinsL a).length ≤ 1 := by cases a <;> simp [coinsL]
    omega
theorem map_snoc {α β : Type} (f : α → β) {l : List α} {i : Nat} {x : α} (h : l[i]? = some x) : (l.take (i + 1)).map f = (l.take i).map f ++ [f x] := by
  rw [take_snoc' h, List.map_append]
  rfl
theorem filt_take {α β : Type} (f : α → Bool) (g : α → β) {l : List α} {i : Nat} {x : α} (h : l[i]? = some x) : ((l.take (i + 1)).filter f).map g = ((l.take i).filter f).map g ++ (if f x = true then [g x] else []) := by
  rw [take_snoc' h, List.filter_append, List.map_append]
  congr 1
  by_cases e : f x = true
  · simp [e]
  · simp [e]
theorem nxS {G' : Hp} {p : Addr} {o : HO} (h : G' p = none) : Same G' (upd G' p o) := fun b u e => by rw [upd_ne (ne_of_none e h)]; exact e
section
variable {P : Program} {w : World} {K : PySem.W.Frag} {mg : Str → Option Value} {base : Heap} (T : Env K mg)
def spcoins_among : Sp := fun vs H Q _ => ∃ (S : Sto) (l : Addr) (as : List Addr) (its : List Hs07.Item), vs = [.ref l] ∧ Hold H S ∧ SqL K H l (as.map V.ref) ∧ Paired (ItemAt T S) as its ∧ its.length < sizeLine ∧ ∀ H', Same H H' → Q (.int ((its.flatMap coinsL).sum : Nat)) H'
theorem ok_coins_among : FnOk P w K mg base CX0 1 T.f_coins_among T.d_coins_among ["waiting"] (spcoins_among T) := by
  refine T.F_coins_among.ok sc_coins_among (fun vs H Q E h => ?_) (fun cdv A outer s H vs Q E hr h => ?_)
  · obtain ⟨S, l, as, its, rfl, _⟩ := h
    rfl
  · obtain ⟨S, l, as, its, rfl, hH, hs, hw, hlen, k⟩ := h
    refine ⟨_, (pss_one (ps_ret (pe_callB (cr_sum rfl) rfl T.n_sum boot_sum (pa_cons (pe_lc rfl sc_coins_among.nd (pi_list (pv 0)) (blkOk_by (own := [("thing", 1)]) (by kernel_rfl!)) (fun _ _ _ _ _ => pg_name (i := 1) sc_coins_among.nd rfl (Or.inl rfl)) (fun _ _ _ _ _ => pts_one (pt_val (pe_callB (show CallR _ (.builtin "isinstance") (rIsi K) from call_isinst) rfl T.n_isinstance boot_isinstance (pa_cons (pv 1) (pa_cons (pe_gref rfl T.g_Message) pa_nil))))) (fun _ _ _ _ _ => pe_fldB K (pv 1) rfl)) pa_nil)))), ?_⟩
    refine ⟨_, rfl, _, rfl, ⟨_, hs⟩, fun D hD => ?_⟩
    refine lc_list (K := K) (a := l) (xs := as.map V.ref) (fun u H' => Same H H' ∧ H' D = some (.lst (vi ((its.take u).flatMap coinsL)))) ⟨nxS hD, upd_same⟩ (fun u H' _ ⟨sm, _⟩ => sq_frame hs fun o e => sm _ _ e) ?_ ?_
    · rintro u y H' hy ⟨sm, hD'⟩
      obtain ⟨a, ha, rfl⟩ := map_get hy
      have hj : u < its.length := by
        rw [← Paired.length hw]
        exact (List.getElem?_eq_some_iff.mp ha).1
      have exm : its[u]? = some its[u] := List.getElem?_eq_getElem hj
      obtain ⟨a', ha', ia⟩ := Cp.Paired.get hw exm
      rw [ha] at ha'
      cases ha'
      have hsn := flat_snoc coinsL exm
      generalize its[u] = it at *
      have hH' := Hold.same hH sm
      refine ⟨rfl, ?_⟩
      cases it with
      | msg m =>
        obtain ⟨da, ea⟩ := ia
        have ga := hH'.at_ _ _ ea
        rw [hH'.imm] at ga
        refine ⟨_, rfl, _, _, _, _, rfl, TyMsg T hH' ea, T.ik_Message_Message, _, rfl, iteT ?_⟩
        refine ⟨_, rfl, _, T.cMessage, da, _, _, rfl, ga, T.c_Message, T.n_Message_coins, rfl, _, hD', ?_, fun b o e => by rw [upd_ne (ne_of_none e hD)]; exact sm b o e, ?_⟩
        · rw [vi_len]
          have := coinsL_len (its.take u)
          rw [List.length_take] at this
          omega
        · rw [upd_same, hsn, vi_app]
          rfl
      | mark i =>
        obtain ⟨da, ea⟩ := ia
        refine ⟨_, rfl, _, _, _, _, rfl, TyMark T hH' ea, T.ik_Mark_Message, _, rfl, iteF ?_⟩
        refine ⟨sm, ?_⟩
        rw [hD', hsn]
        simp [coinsL]
    · rintro H' ⟨sm, hD'⟩
      rw [List.length_map, Paired.length hw, List.take_length, ← vi_ints] at hD'
      refine ⟨D, _, rfl, SqL.of hD', ?_⟩
      rw [ints_sum]
      exact k H' sm
def spNet_coins_in_purses : Sp := fun vs H Q _ => ∃ (S : Sto) (s : Hs07.St), vs = [.ref (S.ad .net)] ∧ Hold H S ∧ Shape T S s ∧ ∀ H', Same H H' → Q (.int (Hs07.inPurses s : Nat)) H'
theorem ok_Net_coins_in_purses : FnOk P w K mg base CX0 1 T.f_Net_coins_in_purses T.d_Net_coins_in_purses ["self"] (spNet_coins_in_purses T) := by
  refine T.F_Net_coins_in_purses.ok sc_Net_coins_in_purses (fun vs H Q E h => ?_) (fun cdv A outer s H vs Q E hr h => ?_)
  · obtain ⟨S, s, rfl, _⟩ := h
    rfl
  · obtain ⟨S, s, rfl, hH, hS, k⟩ := h
    obtain ⟨dn, en⟩ := hS.net
    have gpl := hH.at_ _ _ hS.plist
    have hnp := hS.wf.np
    have line : 100 < sizeLine := by decide
    refine ⟨_, (pss_one (ps_ret (pe_callB (cr_sum rfl) rfl T.n_sum boot_sum (pa_cons (pe_lc rfl sc_Net_coins_in_purses.nd (pi_list (pe_fld (pv 0) rfl)) (blkOk_by (own := [("process", 1)]) (by kernel_rfl!)) (fun _ _ _ _ _ => pg_name (i := 1) sc_Net_coins_in_purses.nd rfl (Or.inl rfl)) (fun _ _ _ _ _ => pts_nil) (fun _ _ _ _ _ => pe_fldB K (pv 1) rfl)) pa_nil)))), ?_⟩
    refine ⟨_, rfl, _, T.cNet, dn, _, _, rfl, hH.at_ _ _ en, T.c_Net, T.n_Net_processes, rfl, _, rfl, ⟨_, SqL.of gpl⟩, fun D hD => ?_⟩
    refine lc_list (K := K) (a := S.ad .plist) (xs := (List.range s.procs.length).map fun j => V.ref (S.ad (.proc j))) (fun u H' => Same H H' ∧ H' D = some (.lst (vi ((s.procs.take u).map (·.purse))))) ⟨nxS hD, upd_same⟩ (fun u H' _ ⟨sm, _⟩ => SqL.of (sm _ _ gpl)) ?_ ?_
    · rintro u y H' hy ⟨sm, hD'⟩
      obtain ⟨c, hc, rfl⟩ := map_get hy
      have hci : c = u ∧ u < s.procs.length := by
        rw [List.getElem?_eq_some_iff] at hc
        obtain ⟨h1, h2⟩ := hc
        simp at h1 h2
        exact ⟨h2.symm, h1⟩
      obtain ⟨rfl, hu⟩ := hci
      have ex := proc_of hu
      obtain ⟨dp, ep⟩ := hS.proc _ _ ex
      have hsn := map_snoc (·.purse) ex
      generalize Hs07.proc s c = y at *
      refine ⟨rfl, yes_of ?_⟩
      rw [if_pos rfl]
      refine ⟨_, rfl, _, T.cProcess, dp, _, _, rfl, sm _ _ (hH.at_ _ _ ep), T.c_Process, T.n_Process_purse, rfl, _, hD', ?_, fun b o e => by rw [upd_ne (ne_of_none e hD)]; exact sm b o e, ?_⟩
      · rw [vi_len, List.length_map, List.length_take]
        omega
      · rw [upd_same, hsn, vi_app]
        rfl
    · rintro H' ⟨sm, hD'⟩
      rw [List.length_map, List.length_range, List.take_length, ← vi_ints] at hD'
      refine ⟨D, _, rfl, SqL.of hD', ?_⟩
      rw [ints_sum]
      have z := k H' sm
      unfold Hs07.inPurses at z
      rw [sum_is] at z
      exact z
def spNet_coins_on_channels : Sp := fun vs H Q _ => ∃ (S : Sto) (s : Hs07.St) (N : Nat), vs = [.ref (S.ad .net)] ∧ Hold H S ∧ Shape T S s ∧ Bd N s ∧ N < sizeLine ∧ ∀ H', Same H H' → Q (.int (Hs07.onChannels s : Nat)) H'
theorem ok_Net_coins_on_channels : FnOk P w K mg base CX0 2 T.f_Net_coins_on_channels T.d_Net_coins_on_channels ["self"] (spNet_coins_on_channels T) := by
  refine T.F_Net_coins_on_channels.ok sc_Net_coins_on_channels (fun vs H Q E h => ?_) (fun cdv A outer s H vs Q E hr h => ?_)
  · obtain ⟨S, s, N, rfl, _⟩ := h
    rfl
  · obtain ⟨S, s, N, rfl, hH, hS, hB, hN, k⟩ := h
    obtain ⟨dn, en⟩ := hS.net
    have gcl := hH.at_ _ _ hS.clist
    have hnc := hS.wf.nc
    have line : 100 < sizeLine := by decide
    refine ⟨_, (pss_one (ps_ret (pe_callB (cr_sum rfl) rfl T.n_sum boot_sum (pa_cons (pe_lc rfl sc_Net_coins_on_channels.nd (pi_list (pe_fld (pv 0) rfl)) (blkOk_by (own := [("channel", 1)]) (by kernel_rfl!)) (fun _ _ _ _ _ => pg_name (i := 1) sc_Net_coins_on_channels.nd rfl (Or.inl rfl)) (fun _ _ _ _ _ => pts_nil) (fun _ _ _ _ _ => pe_call (ok_coins_among T) (hr.mono (by decide)) rfl T.g_coins_among T.F_coins_among.kp T.b_coins_among .nil pass0 (pa_cons (pe_fldB K (pv 1) rfl) pa_nil))) pa_nil)))), ?_⟩
    refine ⟨_, rfl, _, T.cNet, dn, _, _, rfl, hH.at_ _ _ en, T.c_Net, T.n_Net_channels, rfl, _, rfl, ⟨_, SqL.of gcl⟩, fun D hD => ?_⟩
    refine lc_list (K := K) (a := S.ad .clist) (xs := (List.range s.chans.length).map fun j => V.ref (S.ad (.chan j))) (fun u H' => Same H H' ∧ H' D = some (.lst (vi ((s.on.take u).map fun l => (l.flatMap coinsL).sum)))) ⟨nxS hD, upd_same⟩ (fun u H' _ ⟨sm, _⟩ => SqL.of (sm _ _ gcl)) ?_ ?_
    · rintro u y H' hy ⟨sm, hD'⟩
      obtain ⟨c, hc, rfl⟩ := map_get hy
      have hci : c = u ∧ u < s.chans.length := by
        rw [List.getElem?_eq_some_iff] at hc
        obtain ⟨h1, h2⟩ := hc
        simp at h1 h2
        exact ⟨h2.symm, h1⟩
      obtain ⟨rfl, hu⟩ := hci
      have exc : s.chans[c]? = some s.chans[c] := List.getElem?_eq_getElem hu
      obtain ⟨dc, ec⟩ := hS.chan c _ exc
      have hon : c < s.on.length := by rw [hS.wf.on]; exact hu
      have ex := items_get hon
      obtain ⟨as, ew, hw⟩ := hS.wait c _ ex
      have hle := hB.items c
      have hsn := map_snoc (fun l : List Hs07.Item => (l.flatMap coinsL).sum) ex
      generalize Hs07.items s c = its at *
      have hH' := Hold.same hH sm
      refine ⟨rfl, yes_of ?_⟩
      rw [if_pos rfl]
      refine ⟨_, rfl, _, T.cChannel, dc, _, _, rfl, hH'.at_ _ _ ec, T.c_Channel, T.n_Channel_waiting, rfl, S, _, as, its, rfl, hH', SqL.of (hH'.at_ _ _ ew), hw, by omega, fun H2 sm2 => ?_⟩
      refine ⟨_, sm2 _ _ hD', ?_, fun b o e => by rw [upd_ne (ne_of_none e hD)]; exact sm2 _ _ (sm b o e), ?_⟩
      · rw [vi_len, List.length_map, List.length_take]
        omega
      · rw [upd_same, hsn, vi_app]
        rfl
    · rintro H' ⟨sm, hD'⟩
      rw [List.length_map, List.length_range, ← hS.wf.on, List.take_length, ← vi_ints] at hD'
      refine ⟨D, _, rfl, SqL.of hD', ?_⟩
      rw [ints_sum]
      have z := k H' sm
      unfold Hs07.onChannels at z
      rw [sum_is, show s.on.map Hs07.coinsOn = s.on.map fun l => (l.flatMap coinsL).sum from List.map_congr_left fun l _ => coinsOn_is l] at z
      exact z
variable {T} in
theorem Ahead.still {H : Hp} {S : Sto} {s : Hs07.St} {r dr ca : Addr} {ns rest : List Int} {i N : Nat} {x : Hs07.Call} (B : Ahead T H S s r dr ca ns rest i N x) : rdAt T H r dr ca i = H := by
  funext b
  by_cases hb : b = r
  · subst hb
    show upd _ _ _ _ = _
    rw [upd_same]; exact B.rd.symm
  · exact upd_ne hb
def spA_total : Sp := fun vs H Q E => spCall T .total vs H Q E
theorem ok_answer_total : FnOk P w K mg base CX0 12 T.f_answer_total T.d_answer_total ["net", "reader"] (spA_total T) := by
  refine T.F_answer_total.ok sc_answer_total (fun vs H Q E h => ?_) (fun cdv A outer s H vs Q E hr h => ?_)
  · obtain ⟨S, s, r, dr, ca, ns, rest, i, N, rfl, _⟩ := h
    rfl
  · obtain ⟨S, s, r, dr, ca, ns, rest, i, N, rfl, B, kk⟩ := h
    refine ⟨_, (pss_one (ps_ret (pe_lst (pa_cons (pe_meth0 (pv 0) T.c_Net T.m_Net_coins_in_purses (ok_Net_coins_in_purses T) (hr.mono (by decide)) T.b_Net_coins_in_purses .nil pass0) (pa_cons (pe_meth0 (pv 0) T.c_Net T.m_Net_coins_on_channels (ok_Net_coins_on_channels T) (hr.mono (by decide)) T.b_Net_coins_on_channels .nil pass0) pa_nil))))), ?_⟩
    have hS := B.shape
    have hH := B.hold
    have hrd := B.still
    have hbig := B.big
    have line : 1000000 < sizeLine := by decide
    obtain ⟨dn, en⟩ := hS.net
    refine ⟨_, rfl, _, dn, _, rfl, hH.at_ _ _ en, rfl, S, s, rfl, hH, hS, fun H1 s1 => ?_⟩
    have hH1 := Hold.same hH s1
    refine ⟨_, rfl, _, dn, _, rfl, hH1.at_ _ _ en, rfl, S, s, N, rfl, hH1, hS, B.bd, by omega, fun H2 s2 => ?_⟩
    refine ⟨(by show 2 ≤ sizeLine; decide), fun l hl => ?_⟩
    refine kk _ _ l (B.done (j := i) (H' := H2) (S' := S) (s' := s) (ans := [((Hs07.inPurses s : Nat) : Int), ((Hs07.onChannels s : Nat) : Int)]) rfl (Hold.same hH1 s2) ?_ hS (B.bd.mono (by omega)) rfl (step_total s) hl)
    rw [hrd]
    exact Fr.same (s1.trans s2)
def spNet_whole_pictures : Sp := fun vs H Q _ => ∃ (S : Sto) (s : Hs07.St), vs = [.ref (S.ad .net)] ∧ Hold H S ∧ Shape T S s ∧ ∀ H' l, Same H H' → H l = none → H' l = some (.lst (vi ((s.pics.filter Hs07.isWhole).map (·.number)))) → Q (.ref l) H'
theorem ok_Net_whole_pictures : FnOk P w K mg base CX0 2 T.f_Net_whole_pictures T.d_Net_whole_pictures ["self"] (spNet_whole_pictures T) := by
  refine T.F_Net_whole_pictures.ok sc_Net_whole_pictures (fun vs H Q E h => ?_) (fun cdv A outer s H vs Q E hr h => ?_)
  · obtain ⟨S, s, rfl, _⟩ := h
    rfl
  · obtain ⟨S, s, rfl, hH, hS, k⟩ := h
    have hu := hu_of hr
    have hnk := hS.wf.nk
    have line : 100 < sizeLine := by decide
    refine ⟨_, (pss_one (ps_ret (pe_lock (pe_lc rfl sc_Net_whole_pictures.nd (pi_keys (pe_fld (pv 0) rfl)) (blkOk_by (own := [("k", 1)]) (by kernel_rfl!)) (fun _ _ _ _ _ => pg_name (i := 1) sc_Net_whole_pictures.nd rfl (Or.inl rfl)) (fun _ _ _ _ _ => pts_one (pt_val (pe_meth0 (pe_dget hu (pe_fldB K (pv 0) rfl) (pv 1) (fun _ _ => rfl)) T.c_Picture T.m_Picture_is_whole (ok_Picture_is_whole T) (hr.mono (by decide)) T.b_Picture_is_whole .nil pass0))) (fun _ _ _ _ _ => pv 1))))), ?_⟩
    have epd := hS.pdict
    have hval : ∀ x ∈ s.pics, valV (s.pics.map fun x => ((Sum.inl (x.number : Int) : Key), V.ref (S.ad (.pic x.number)))) (Sum.inl (x.number : Int)) = some (.ref (S.ad (.pic x.number))) := fun x hx => by
      obtain ⟨j, hj⟩ := List.mem_iff_getElem?.mp hx
      rw [valV_pics S.ad x.number s.pics, find_of hS.wf.nd hj]
      rfl
    obtain ⟨kvs, ekv⟩ : ∃ kvs, (s.pics.map fun x => ((Sum.inl (x.number : Int) : Key), V.ref (S.ad (.pic x.number)))) = kvs := ⟨_, rfl⟩
    have lkv : kvs.length = s.pics.length := by rw [← ekv, List.length_map]
    rw [ekv] at epd hval
    have gpd := hH.at_ _ _ epd
    refine ⟨_, _, gpd, trivial, fun od => ?_⟩
    have L0 := Lk.start hH hS epd od
    obtain ⟨dn, en⟩ := hS.net
    have en' : (S.put .pdict (.frz od (.dK kvs))).ob .net = some (.ins T.cNet dn (netF (S.ad .plist) (S.ad .clist) (S.ad .pdict) s.last s.deeds)) := by simpa using en
    have gn := L0.hold.at_ .net _ en'
    refine ⟨_, rfl, _, T.cNet, dn, _, _, rfl, gn, T.c_Net, T.n_Net_pictures, rfl, _, od, rfl, .inl ⟨kvs, L0.at_, fun D hD => ?_⟩⟩
    refine lc_keys (kvs := kvs) (fun u H' => Same (upd H (S.ad .pdict) (.frz od (.dK kvs))) H' ∧ H' D = some (.lst (vi (((s.pics.take u).filter Hs07.isWhole).map (·.number))))) ⟨nxS hD, upd_same⟩ (fun u H' _ ⟨sm, _⟩ => sm _ _ L0.at_) ?_ ?_
    · rintro u k' y H' hy ⟨sm, hD'⟩
      obtain ⟨x, hx, e1⟩ : ∃ x, s.pics[u]? = some x ∧ Sum.inl (x.number : Int) = k' := by
        rw [← ekv] at hy
        obtain ⟨x, hx, e⟩ := map_get hy
        exact ⟨x, hx, congrArg Prod.fst e⟩
      subst e1
      have hmem := List.mem_of_getElem? hx
      have hw := hS.wf.pics x hmem
      have hP := L0.pic hmem
      obtain ⟨dq, eq⟩ := hP.pic
      have hH' := Hold.same L0.hold sm
      refine ⟨rfl, ?_⟩
      refine ⟨_, rfl, _, T.cNet, dn, _, _, rfl, hH'.at_ .net _ en', T.c_Net, T.n_Net_pictures, rfl, _, rfl, _, _, rfl, .inl ⟨kvs, Sum.inl (x.number : Int), .inr ⟨od, sm _ _ L0.at_⟩, rfl, (hval x hmem).symm⟩, _, dq, _, rfl, hH'.at_ (.pic x.number) _ eq, rfl, S.put .pdict (.frz od (.dK kvs)), x, rfl, hH', hP, by rw [hw.2.1, hw.2.2.1], _, rfl, ite2 (fun h2 => ?_) (fun h2 => ?_)⟩
      · refine ⟨_, rfl, _, hD', ?_, fun b o e => by rw [upd_ne (ne_of_none e hD)]; exact sm b o e, ?_⟩
        · rw [vi_len, List.length_map]
          have := List.length_filter_le Hs07.isWhole (s.pics.take u)
          rw [List.length_take] at this
          omega
        · rw [upd_same, filt_take Hs07.isWhole (·.number) hx, if_pos h2, vi_app]
          rfl
      · refine ⟨sm, ?_⟩
        rw [hD', filt_take Hs07.isWhole (·.number) hx, if_neg h2, List.append_nil]
    · rintro H' ⟨sm, hD'⟩
      refine ⟨sm _ _ L0.at_, ?_⟩
      rw [lkv, List.take_length] at hD'
      have hDn : D ≠ S.ad .pdict := fun z => by rw [z, L0.at_] at hD; cases hD
      refine k _ D (fun b o e => ?_) ?_ ?_
      · by_cases hb : b = S.ad .pdict
        · subst hb
          rw [upd_same, ← e, gpd]
        · rw [upd_ne hb]
          exact sm b o (by rw [upd_ne hb]; exact e)
      · rw [upd_ne hDn] at hD
        exact hD
      · rw [upd_ne hDn]
        exact hD'
theorem foldl_max {l : List Hs07.Pic} : ∀ n : Nat, n ≤ l.foldl (fun n x => max n x.number) n ∧ (∀ x ∈ l, x.number ≤ l.foldl (fun n x => max n x.number) n) ∧ (l.foldl (fun n x => max n x.number) n = n ∨ ∃ x ∈ l, l.foldl (fun n x => max n x.number) n = x.number) := by
  induction l with
  | nil => intro n; exact ⟨Nat.le_refl _, (fun x hx => nomatch hx), .inl rfl⟩
  | cons a r ih =>
    intro n
    rw [List.foldl_cons]
    obtain ⟨h1, h2, h3⟩ := ih (max n a.number)
    refine ⟨by omega, fun x hx => ?_, ?_⟩
    · rcases List.mem_cons.mp hx with e | e
      · subst e; omega
      · exact h2 x e
    · rcases h3 with e | ⟨x, hx, e⟩
      · rw [e]
        by_cases hn : n ≤ a.number
        · exact .inr ⟨a, List.mem_cons_self .., by omega⟩
        · exact .inl (by omega)
      · exact .inr ⟨x, List.mem_cons_of_mem _ hx, e⟩
theorem newest_is {l : List Hs07.Pic} {m : Int} (h : Hs07.ints (l.map (·.number)) = [] ∧ m = 0 ∨ m ∈ Hs07.ints (l.map (·.number)) ∧ ∀ b ∈ Hs07.ints (l.map (·.number)), b ≤ m) : m = ((l.foldl (fun n x => max n x.number) 0 : Nat) : Int) := by
  obtain ⟨h1, h2, h3⟩ := foldl_max (l := l) 0
  have mem : ∀ x ∈ l, (x.number : Int) ∈ Hs07.ints (l.map (·.number)) := fun x hx => List.mem_map.mpr ⟨x.number, List.mem_map.mpr ⟨x, hx, rfl⟩, rfl⟩
  rcases h with ⟨e, rfl⟩ | ⟨hm, hb⟩
  · have : l = [] := by
      cases l with
      | nil => rfl
      | cons a r => have := mem a (List.mem_cons_self ..); rw [e] at this; cases this
    rw [this]
    rfl
  · obtain ⟨n, hn, rfl⟩ := List.mem_map.mp hm
    obtain ⟨x, hx, rfl⟩ := List.mem_map.mp hn
    have g1 := h2 x hx
    rcases h3 with e | ⟨y, hy, e⟩
    · omega
    · have g2 := hb _ (mem y hy)
      omega
def spA_newest : Sp := fun vs H Q E => spCall T .newest vs H Q E
theorem ok_answer_newest : FnOk P w K mg base CX0 12 T.f_answer_newest T.d_answer_newest ["net", "reader"] (spA_newest T) := by
  refine T.F_answer_newest.ok sc_answer_newest (fun vs H Q E h => ?_) (fun cdv A outer s H vs Q E hr h => ?_)
  · obtain ⟨S, s, r, dr, ca, ns, rest, i, N, rfl, _⟩ := h
    rfl
  · obtain ⟨S, s, r, dr, ca, ns, rest, i, N, rfl, B, kk⟩ := h
    refine ⟨_, (pss_one (ps_ret (pe_lst (pa_cons (pe_maxD rfl rfl T.n_max (pa_cons (pe_meth0 (pv 0) T.c_Net T.m_Net_whole_pictures (ok_Net_whole_pictures T) (hr.mono (by decide)) T.b_Net_whole_pictures .nil pass0) pa_nil) (pk_cons pe_int pk_nil)) pa_nil)))), ?_⟩
    have hS := B.shape
    have hH := B.hold
    have hrd := B.still
    obtain ⟨dn, en⟩ := hS.net
    refine ⟨_, rfl, _, dn, _, rfl, hH.at_ _ _ en, rfl, S, s, rfl, hH, hS, fun H1 l1 s1 n1 out => ?_⟩
    rw [← vi_ints] at out
    refine ⟨l1, _, 0, rfl, rfl, SqL.of out, fun m hm => ?_⟩
    refine ⟨(by show 1 ≤ sizeLine; decide), fun l hl => ?_⟩
    refine kk _ _ l (B.done (j := i) (H' := H1) (S' := S) (s' := s) (ans := [m]) rfl (Hold.same hH s1) ?_ hS (B.bd.mono (by omega)) rfl ?_ hl)
    · rw [hrd]
      exact Fr.same s1
    · rw [step_newest, newest_is hm]
      rfl
end
end Cp

set_option Elab.async false
set_option linter.all false
set_option maxRecDepth 100000
set_option maxHeartbeats 2000000
namespace Cp
open PySem PySem.Spec PyProof.Rows L2
def mixl {α : Type} (a b : List α) (i : Nat) : List α := a.take i ++ b.drop i
theorem mixl_zero {α : Type} {a b : List α} : mixl a b 0 = b := rfl
theorem mixl_all {α : Type} {a b : List α} (h : a.length = b.length) : mixl a b a.length = a := by
  unfold mixl
  rw [List.take_length, h, List.drop_length, List.append_nil]
theorem mixl_len {α : Type} {a b : List α} (h : a.length = b.length) (i : Nat) : (mixl a b i).length = b.length := by
  unfold mixl
  rw [List.length_append, List.length_take, List.length_drop]
  omega
theorem mixl_set {α : Type} {a b : List α} {i : Nat} {x : α} (h : a.length = b.length) (hx : a[i]? = some x) : (mixl a b i).set i x = mixl a b (i + 1) := by
  have hi := (List.getElem?_eq_some_iff.mp hx).1
  unfold mixl
  rw [List.set_append_right _ _ (by simp; omega)]
  have e : i - (a.take i).length = 0 := by simp; omega
  rw [e, List.drop_eq_getElem_cons (show i < b.length by omega), List.set_cons_zero, List.take_add_one, hx]
  simp
def mov : Ro → Bool
  | .wait _ => true
  | .pdict => true
  | _ => false
section
variable {K : PySem.W.Frag} {mg : Str → Option Value} {T : Env K mg} {S S' : Sto} {s : Hs07.St}
variable (T) in
structure Mv (H : Hp) (S : Sto) (H' : Hp) (S' : Sto) (s' : Hs07.St) : Prop where
  hold : Hold H' S'
  fr : Fr H S H' S'
  shape : Shape T S' s'
  ad : ∀ r, mov r = false → S'.ad r = S.ad r
  im : Im S S'
theorem Go.mv {H H' : Hp} {s' : Hs07.St} (g : Go T H S H' S' s') : Mv T H S H' S' s' := ⟨g.hold, g.fr, g.shape, fun r _ => by rw [g.ad], g.im⟩
theorem Mv.trans {H H1 H2 : Hp} {S S1 S2 : Sto} {s1 s2 : Hs07.St} (a : Mv T H S H1 S1 s1) (b : Mv T H1 S1 H2 S2 s2) : Mv T H S H2 S2 s2 := ⟨b.hold, a.fr.trans b.fr, b.shape, fun r hr => (b.ad r hr).trans (a.ad r hr), a.im.trans b.im⟩
theorem PicAt.of2 {x : Hs07.Pic} (P' : PicAt T S x) (ad : ∀ r, isPic x.number r = true → S'.ad r = S.ad r) (f : ∀ r, isPic x.number r = true → S'.ob r = S.ob r) (im : ∀ a o, S.ob (.imm a) = some o → S'.ob (.imm a) = some o) : PicAt T S' x := by
  refine ⟨?_, ?_, ?_, ?_, fun c l hl => ?_⟩
  · rw [f _ (by simp [isPic]), ad (.recs _) (by simp [isPic]), ad (.shut _) (by simp [isPic]), ad (.caught _) (by simp [isPic])]; exact P'.pic
  · obtain ⟨kvs, q, r⟩ := P'.recs
    exact ⟨kvs, by rw [f _ (by simp [isPic])]; exact q, r.of im⟩
  · rw [f _ (by simp [isPic])]; exact P'.shut
  · rw [f _ (by simp [isPic]), P'.caught]
    refine congrArg (fun z => some (HO.lst z)) (List.map_congr_left fun c _ => ?_)
    rw [ad (.cl _ _) (by simp [isPic])]
  · obtain ⟨as, q, r⟩ := P'.cl c l hl
    exact ⟨as, by rw [f _ (by simp [isPic])]; exact q, Paired.mapP r fun a it ⟨dx, z⟩ => ⟨dx, im _ _ z⟩⟩
theorem Shape.relay (h : Shape T S s) {c : Nat} {x : Nat × Nat} (hx : s.chans[c]? = some x) {as : List Addr} {l : List Hs07.Item} (r : Paired (ItemAt T S) as l) (a dc : Addr) :
    Shape T ((S.lay (.wait c) a (.lst (as.map V.ref))).put (.chan c) (.ins T.cChannel dc (chanF x a))) { s with on := s.on.set c l } := by
  have im : ∀ a' o, S.ob (.imm a') = some o → ((S.lay (.wait c) a (.lst (as.map V.ref))).put (.chan c) (.ins T.cChannel dc (chanF x a))).ob (.imm a') = some o := fun a' o e => by simpa using e
  refine ⟨by simpa using h.net, by simpa using h.plist, fun i p hp => by simpa using h.proc i p hp, fun j hj => ?_, by simpa using h.clist, fun d y hy => ?_, fun d l' hl => ?_, by simpa using h.pdict, fun y hy => ?_, h.wf.setOn c l⟩
  · show ((S.lay _ _ _).put _ _).ob (.leav j) = some (.lst ((Hs07.outs s j).map fun (c : Nat) => .int ((c : Int) + 1)))
    simpa using h.leav j hj
  · by_cases e : d = c
    · subst e
      have e2 : x = y := Option.some.inj (hx.symm.trans hy)
      subst e2
      exact ⟨dc, by simp⟩
    · obtain ⟨d', z⟩ := h.chan d y hy
      exact ⟨d', by simpa [e] using z⟩
  · rcases set_get (show (s.on.set c l)[d]? = some l' from hl) with ⟨e, e2⟩ | ⟨e, e2⟩
    · subst e e2
      exact ⟨as, by simp, Paired.mapP r fun a it z => z.of im⟩
    · obtain ⟨as', q, r'⟩ := h.wait d l' e2
      exact ⟨as', by simpa [Ne.symm e] using q, Paired.mapP r' fun a it z => z.of im⟩
  · refine (h.pic y hy).of2 (fun r hr => ?_) (fun r hr => ?_) im
    · have : r ≠ .wait c := fun z => by subst z; cases hr
      simp [this]
    · have h1 : r ≠ .wait c := fun z => by subst z; cases hr
      have h2 : r ≠ .chan c := fun z => by subst z; cases hr
      simp [h1, h2]
theorem Shape.relayD (h : Shape T S s) (f : Hs07.Pic → Bool) (a dn : Addr) :
    Shape T ((S.lay .pdict a (.dK ((s.pics.filter f).map fun x => ((Sum.inl (x.number : Int) : Key), V.ref (S.ad (.pic x.number)))))).put .net (.ins T.cNet dn (netF (S.ad .plist) (S.ad .clist) a s.last s.deeds))) { s with pics := s.pics.filter f } := by
  have im : ∀ a' o, S.ob (.imm a') = some o → ((S.lay .pdict a (.dK ((s.pics.filter f).map fun x => ((Sum.inl (x.number : Int) : Key), V.ref (S.ad (.pic x.number)))))).put .net (.ins T.cNet dn (netF (S.ad .plist) (S.ad .clist) a s.last s.deeds))).ob (.imm a') = some o := fun a' o e => by simpa using e
  refine ⟨⟨dn, by simp⟩, by simpa using h.plist, fun i p hp => by simpa using h.proc i p hp, fun j hj => ?_, by simpa using h.clist, fun d y hy => by simpa using h.chan d y hy, fun d l' hl => ?_, by simp, fun y hy => ?_, ⟨h.wf.ends, h.wf.on, fun x hx => h.wf.pics x (List.mem_filter.mp hx).1, ?_, h.wf.np, h.wf.nc, ?_⟩⟩
  · show ((S.lay _ _ _).put _ _).ob (.leav j) = some (.lst ((Hs07.outs s j).map fun (c : Nat) => .int ((c : Int) + 1)))
    simpa using h.leav j hj
  · obtain ⟨as', q, r'⟩ := h.wait d l' hl
    exact ⟨as', by simpa using q, Paired.mapP r' fun a it z => z.of im⟩
  · refine (h.pic y (List.mem_filter.mp hy).1).of2 (fun r hr => ?_) (fun r hr => ?_) im
    · have : r ≠ .pdict := fun z => by subst z; cases hr
      simp [this]
    · have h1 : r ≠ .pdict := fun z => by subst z; cases hr
      have h2 : r ≠ .net := fun z => by subst z; cases hr
      simp [h1, h2]
  · exact List.Nodup.sublist (List.Sublist.map _ List.filter_sublist) h.wf.nd
  · exact Nat.le_trans (List.length_filter_le _ _) h.wf.nk
end
section
variable {P : Program} {w : World} {K : PySem.W.Frag} {mg : Str → Option Value} {base : Heap} (T : Env K mg)
theorem msg_items {S : Sto} {as : List Addr} {l : List Hs07.Msg} (h : Paired (MsgAt T S) as l) : Paired (ItemAt T S) as (l.map Hs07.Item.msg) := by
  induction h with
  | nil => exact .nil
  | cons r t ih => exact .cons r ih
theorem msg_coins (l : List Hs07.Msg) : (l.map Hs07.Item.msg).flatMap coinsL = l.map (·.coins) := by
  induction l with
  | nil => rfl
  | cons a r ih => rw [List.map_cons, List.flatMap_cons, ih]; rfl
def spPicture_all_coins : Sp := fun vs H Q _ => ∃ (S : Sto) (x : Hs07.Pic) (N : Nat), vs = [.ref (S.ad (.pic x.number))] ∧ Hold H S ∧ PicAt T S x ∧ x.has.length ≤ 8 ∧ x.came.length ≤ 16 ∧ (∀ l ∈ x.came, l.length ≤ N) ∧ N < sizeLine ∧ ∀ H', Same H H' → Q (.int (Hs07.coinsOf x : Nat)) H'
theorem ok_Picture_all_coins : FnOk P w K mg base CX0 2 T.f_Picture_all_coins T.d_Picture_all_coins ["self"] (spPicture_all_coins T) := by
  refine T.F_Picture_all_coins.ok sc_Picture_all_coins (fun vs H Q E h => ?_) (fun cdv A outer s H vs Q E hr h => ?_)
  · obtain ⟨S, x, N, rfl, _⟩ := h
    rfl
  · obtain ⟨S, x, N, rfl, hH, hP, h8, h16, hB, hN, k⟩ := h
    obtain ⟨dq, eq⟩ := hP.pic
    obtain ⟨kr, er, hR⟩ := hP.recs
    have line : 100 < sizeLine := by decide
    refine ⟨_, (pss_cons (ps_set (i := 1) sc_Picture_all_coins.nd rfl (Or.inl rfl) (pe_callB (cr_sum rfl) rfl T.n_sum boot_sum (pa_cons (pe_lock (pe_lc rfl sc_Picture_all_coins.nd (pi_values (pe_fld (pv 0) rfl)) (blkOk_by (own := [("record", 2)]) (by kernel_rfl!)) (fun _ _ _ _ _ => pg_name (i := 2) sc_Picture_all_coins.nd rfl (Or.inl rfl)) (fun _ _ _ _ _ => pts_nil) (fun _ _ _ _ _ => pe_ix (show IxR _ (rIxT K) from ix_tup) (pv 2) pe_int (fun _ _ => rfl)))) pa_nil)))
      (pss_one (ps_ret (pe_op op_add (pv 1) (pe_callB (cr_sum rfl) rfl T.n_sum boot_sum (pa_cons (pe_lc rfl sc_Picture_all_coins.nd (pi_list (pe_fld (pv 0) rfl)) (blkOk_by (own := [("messages", 3)]) (by kernel_rfl!)) (fun _ _ _ _ _ => pg_name (i := 3) sc_Picture_all_coins.nd rfl (Or.inl rfl)) (fun _ _ _ _ _ => pts_nil) (fun _ _ _ _ _ => pe_call (ok_coins_among T) (hr.mono (by decide)) rfl T.g_coins_among T.F_coins_among.kp T.b_coins_among .nil pass0 (pa_cons (pv 3) pa_nil))) pa_nil)))))), ?_⟩
    have gr := hH.at_ _ _ er
    have gq := hH.at_ _ _ eq
    obtain ⟨ls, hpr, hsum⟩ := hR.sum
    have hkl : kr.length ≤ 8 := by
      have := hR.len
      have := List.countP_le_length (p := Option.isSome) (l := x.has)
      omega
    refine ⟨_, _, gr, trivial, fun od => ?_⟩
    have sm0 : ∀ b o, H b = some o → b ≠ S.ad (.recs x.number) → upd H (S.ad (.recs x.number)) (.frz od (.dK kr)) b = some o := fun b o e n => by rw [upd_ne n]; exact e
    have qr : S.ad (.pic x.number) ≠ S.ad (.recs x.number) := ne_of gq gr (by intro z; cases z)
    refine ⟨_, rfl, _, T.cPicture, dq, _, _, rfl, sm0 _ _ gq qr, T.c_Picture, T.n_Picture_records, rfl, _, od, kr, rfl, upd_same, fun D hD => ?_⟩
    have hDr : D ≠ S.ad (.recs x.number) := fun z => by rw [z, upd_same] at hD; cases hD
    refine lc_vals (kvs := kr) (fun u H' => Same (upd H (S.ad (.recs x.number)) (.frz od (.dK kr))) H' ∧ H' D = some (.lst (vi (ls.take u)))) ⟨nxS hD, upd_same⟩ (fun u H' _ ⟨sm, _⟩ => sm _ _ upd_same) ?_ ?_
    · rintro u k' y H' hy ⟨sm, hD'⟩
      have hu : u < ls.length := by
        rw [← Paired.length hpr]
        exact (List.getElem?_eq_some_iff.mp hy).1
      have exl : ls[u]? = some ls[u] := List.getElem?_eq_getElem hu
      obtain ⟨kv, hkv, t, b, e1, e2⟩ := Cp.Paired.get hpr exl
      rw [hy] at hkv
      have ekv := Option.some.inj hkv
      have ey : y = .ref t := by rw [← ekv] at e1; exact e1
      subst ey
      have gt := hH.at_ _ _ e2
      rw [hH.imm] at gt
      have tr : t ≠ S.ad (.recs x.number) := ne_of gt gr (by intro z; cases z)
      have gt' := sm _ _ (sm0 _ _ gt tr)
      refine ⟨rfl, yes_of ?_⟩
      rw [if_pos rfl]
      refine ⟨_, rfl, _, _, _, _, rfl, rfl, .inl (.inl gt'), at_of (j := 0) rfl rfl, _, hD', ?_, fun b o e => by rw [upd_ne (ne_of_none e hD)]; exact sm b o e, ?_⟩
      · rw [vi_len, List.length_take, ← Paired.length hpr]
        omega
      · rw [upd_same, take_snoc' exl, vi_app]
        rfl
    · rintro H' ⟨sm, hD'⟩
      refine ⟨sm _ _ upd_same, ?_⟩
      rw [Paired.length hpr, List.take_length, ← vi_ints] at hD'
      have s1 : Same H (upd H' (S.ad (.recs x.number)) (.dK kr)) := fun b o e => by
        by_cases hb : b = S.ad (.recs x.number)
        · subst hb
          rw [upd_same, ← e, gr]
        · rw [upd_ne hb]
          exact sm b o (sm0 b o e hb)
      refine ⟨D, _, rfl, SqL.of (by rw [upd_ne hDr]; exact hD'), ?_⟩
      rw [ints_sum, hsum]
      generalize upd H' (S.ad (.recs x.number)) (.dK kr) = H1 at *
      have hH1 := Hold.same hH s1
      have gc := hH1.at_ _ _ hP.caught
      refine ⟨_, rfl, _, rfl, _, T.cPicture, dq, _, _, rfl, hH1.at_ _ _ eq, T.c_Picture, T.n_Picture_caught, rfl, _, rfl, ⟨_, SqL.of gc⟩, fun D2 hD2 => ?_⟩
      refine lc_list (K := K) (a := S.ad (.caught x.number)) (xs := (List.range x.came.length).map fun c => V.ref (S.ad (.cl x.number c))) (fun u H' => Same H1 H' ∧ H' D2 = some (.lst (vi ((x.came.take u).map fun l => (l.map (·.coins)).sum)))) ⟨nxS hD2, upd_same⟩ (fun u H' _ ⟨sm, _⟩ => SqL.of (sm _ _ gc)) ?_ ?_
      · rintro u y H2 hy ⟨sm2, hD2'⟩
        obtain ⟨c, hc, rfl⟩ := map_get hy
        have hci : c = u ∧ u < x.came.length := by
          rw [List.getElem?_eq_some_iff] at hc
          obtain ⟨h1, h2⟩ := hc
          simp at h1 h2
          exact ⟨h2.symm, h1⟩
        obtain ⟨rfl, hu⟩ := hci
        have ex : x.came[c]? = some x.came[c] := List.getElem?_eq_getElem hu
        obtain ⟨as, ew, hw⟩ := hP.cl c _ ex
        have hle := hB _ (List.mem_of_getElem? ex)
        have hsn := map_snoc (fun l : List Hs07.Msg => (l.map (·.coins)).sum) ex
        generalize x.came[c] = ms at *
        have hH2 := Hold.same hH1 sm2
        refine ⟨rfl, yes_of ?_⟩
        rw [if_pos rfl]
        refine ⟨_, rfl, S, _, as, ms.map Hs07.Item.msg, rfl, hH2, SqL.of (hH2.at_ _ _ ew), msg_items T hw, by rw [List.length_map]; omega, fun H3 sm3 => ?_⟩
        rw [msg_coins]
        refine ⟨_, sm3 _ _ hD2', ?_, fun b o e => by rw [upd_ne (ne_of_none e hD2)]; exact sm3 _ _ (sm2 b o e), ?_⟩
        · rw [vi_len, List.length_map, List.length_take]
          omega
        · rw [upd_same, hsn, vi_app]
          rfl
      · rintro H2 ⟨sm2, hD2'⟩
        rw [List.length_map, List.length_range, List.take_length, ← vi_ints] at hD2'
        refine ⟨D2, _, rfl, SqL.of hD2', ?_⟩
        rw [ints_sum]
        refine ⟨_, _, rfl, rfl, ?_⟩
        have z := k H2 (s1.trans sm2)
        unfold Hs07.coinsOf at z
        rw [sum_is, sum_is, show (x.came.map fun l => Hs07.sum (l.map Hs07.Msg.coins)) = x.came.map fun l => (l.map (·.coins)).sum from List.map_congr_left fun l _ => sum_is _] at z
        exact z
end
end Cp

set_option Elab.async false
set_option linter.all false
set_option maxRecDepth 100000
set_option maxHeartbeats 2000000
namespace Cp
open PySem PySem.Spec PyProof.Rows L2
section
variable {P : Program} {w : World} {K : PySem.W.Frag} {mg : Str → Option Value} {base : Heap} (T : Env K mg)
def spNet_keep_whole : Sp := fun vs H Q _ => ∃ (S : Sto) (s : Hs07.St), vs = [.ref (S.ad .net)] ∧ Hold H S ∧ Shape T S s ∧ ∀ H' S', Mv T H S H' S' { s with pics := s.pics.filter Hs07.isWhole } → Q .non H'
theorem ok_Net_keep_whole_pictures : FnOk P w K mg base CX0 3 T.f_Net_keep_whole_pictures T.d_Net_keep_whole_pictures ["self"] (spNet_keep_whole T) := by
  refine T.F_Net_keep_whole_pictures.ok sc_Net_keep_whole_pictures (fun vs H Q E h => ?_) (fun cdv A outer s H vs Q E hr h => ?_)
  · obtain ⟨S, s, rfl, _⟩ := h
    rfl
  · obtain ⟨S, s, rfl, hH, hS, k⟩ := h
    have hu := hu_of hr
    have hnk := hS.wf.nk
    have line : 100 < sizeLine := by decide
    obtain ⟨dn, en⟩ := hS.net
    refine ⟨_, (pss_cons (ps_set (i := 1) sc_Net_keep_whole_pictures.nd rfl (Or.inl rfl) pe_dnewK)
      (pss_cons (ps_for PassesOwn.never rfl (pi_list (pe_meth0 (pv 0) T.c_Net T.m_Net_whole_pictures (ok_Net_whole_pictures T) (hr.mono (by decide)) T.b_Net_whole_pictures .nil pass0)) (pg_name (i := 2) sc_Net_keep_whole_pictures.nd rfl (Or.inl rfl)) (pss_one (ps_dput hu (pv 1) (pv 2) (pe_dget hu (pe_fld (pv 0) rfl) (pv 2) (fun _ _ => rfl)) rfl)))
      (pss_one (ps_fld (pv 0) (pv 1) rfl)))), ?_⟩
    intro D hD
    have s0 : Same H (upd H D (.dK [])) := nxS hD
    have hH0 := Hold.same hH s0
    refine ⟨_, rfl, _, dn, _, rfl, hH0.at_ _ _ en, rfl, S, s, rfl, hH0, hS, fun H1 l s1 nl hl => ?_⟩
    have s01 := s0.trans s1
    have hD1 : H1 D = some (.dK []) := s1 _ _ upd_same
    have Dl : D ≠ l := ne_of_none upd_same nl
    have hfl := List.length_filter_le Hs07.isWhole s.pics
    have hsub : ∀ x ∈ s.pics.filter Hs07.isWhole, x ∈ s.pics := fun x hx => (List.mem_filter.mp hx).1
    have hndf : ((s.pics.filter Hs07.isWhole).map (·.number)).Nodup := List.Nodup.sublist (List.Sublist.map _ List.filter_sublist) hS.wf.nd
    generalize hW : s.pics.filter Hs07.isWhole = W at *
    refine ⟨_, rfl, ⟨_, SqL.of hl⟩, for_list (K := K) (a := l) (xs := vi (W.map (·.number))) (fun u σ H' => ∃ v : Option V, σ = [some (.ref (S.ad .net)), some (.ref D), v] ∧ Same H H' ∧ H' l = some (.lst (vi (W.map (·.number)))) ∧ H' D = some (.dK ((W.take u).map fun x => ((Sum.inl (x.number : Int) : Key), V.ref (S.ad (.pic x.number))))))
      ⟨none, rfl, s01, hl, hD1⟩ ?_ ?_ ?_⟩
    · rintro u σ H' hu' ⟨v, rfl, sm, hl', hD'⟩
      exact SqL.of hl'
    · rintro u y σ H' hy ⟨v, rfl, sm, hl', hD'⟩
      obtain ⟨n, hn, rfl⟩ := map_get hy
      obtain ⟨x, hx, rfl⟩ := map_get hn
      have hu' := (List.getElem?_eq_some_iff.mp hx).1
      obtain ⟨j, hj⟩ := List.mem_iff_getElem?.mp (hsub x (List.mem_of_getElem? hx))
      have hH' := Hold.same hH sm
      have hno : valV ((W.take u).map fun x => ((Sum.inl (x.number : Int) : Key), V.ref (S.ad (.pic x.number)))) (Sum.inl (x.number : Int)) = none := by
        rw [valV_pics S.ad x.number (W.take u)]
        have : (W.take u).find? (fun y => y.number == x.number) = none := List.find?_eq_none.mpr fun y hy => by
          obtain ⟨i, hi⟩ := List.mem_iff_getElem?.mp hy
          rw [List.getElem?_take] at hi
          by_cases hiu : i < u
          · rw [if_pos hiu] at hi
            intro z
            have := nd_num hndf hi hx (by simpa using z)
            omega
          · rw [if_neg hiu] at hi
            cases hi
        rw [this]
        rfl
      refine ⟨_, rfl, _, T.cNet, dn, _, _, rfl, hH'.at_ _ _ en, T.c_Net, T.n_Net_pictures, rfl, _, rfl, _, _, rfl, hS.dget hH' hj, _, rfl, _, rfl, _, _, rfl, DPut.k (k := Sum.inl (x.number : Int)) hD' (by rw [List.length_map, List.length_take]; omega), ?_⟩
      rw [putK_new _ hno]
      refine ⟨_, rfl, fun b o e => by rw [upd_ne (ne_of_none e hD)]; exact sm b o e, by rw [upd_ne Dl.symm]; exact hl', ?_⟩
      rw [upd_same, map_snoc (fun x : Hs07.Pic => ((Sum.inl (x.number : Int) : Key), V.ref (S.ad (.pic x.number)))) hx]
    · rintro σ H' ⟨v, rfl, sm, hl', hD'⟩
      rw [vi_len, List.length_map, List.take_length] at hD'
      have hH' := Hold.same hH sm
      refine ⟨_, rfl, _, rfl, _, T.cNet, dn, _, rfl, hH'.at_ _ _ en, T.c_Net, T.n_Net_pictures, lt1000 rfl, ?_⟩
      have nD : ¬ Own S D := hH.notOwn hD
      have a1 := hH'.adopt (r := .pdict) hD' nD (fun b e => by cases e)
      have en1 : (S.lay .pdict D (.dK (W.map fun x => ((Sum.inl (x.number : Int) : Key), V.ref (S.ad (.pic x.number)))))).ob .net = some (.ins T.cNet dn (netF (S.ad .plist) (S.ad .clist) (S.ad .pdict) s.last s.deeds)) := by simpa using en
      have a2 := a1.write en1 (.ins T.cNet dn (netF (S.ad .plist) (S.ad .clist) D s.last s.deeds))
      have f1 : Fr H S H' (S.lay .pdict D (.dK (W.map fun x => ((Sum.inl (x.number : Int) : Key), V.ref (S.ad (.pic x.number)))))) := fun b o e no => ⟨sm b o e, not_own_lay no (ne_of_none e hD)⟩
      have f2 : Fr H' (S.lay .pdict D (.dK (W.map fun x => ((Sum.inl (x.number : Int) : Key), V.ref (S.ad (.pic x.number)))))) _ _ := Fr.write en1 (.ins T.cNet dn (netF (S.ad .plist) (S.ad .clist) D s.last s.deeds))
      have sh := hS.relayD Hs07.isWhole D dn
      rw [hW] at sh
      have ean : (S.lay .pdict D (.dK (W.map fun x => ((Sum.inl (x.number : Int) : Key), V.ref (S.ad (.pic x.number)))))).ad .net = S.ad .net := by simp
      rw [ean] at a2 f2
      refine k _ _ ⟨a2, f1.trans f2, sh, fun r hr => ?_, (Im.lay (by simp)).trans (Im.put (by simp))⟩
      have : r ≠ .pdict := fun z => by subst z; cases hr
      simp [this]
def riseOf (y : Option (Nat × Nat)) : Hs07.Proc := ⟨(y.getD (0, 0)).1, (y.getD (0, 0)).2, false⟩
def spNet_go_back : Sp := fun vs H Q _ => ∃ (S : Sto) (s : Hs07.St) (j N : Nat) (x : Hs07.Pic), vs = [.ref (S.ad .net), .int x.number] ∧ Hold H S ∧ Shape T S s ∧ s.pics[j]? = some x ∧ Hs07.isWhole x = true ∧ Bd N s ∧ N < sizeLine ∧
  ∀ H' S', Mv T H S H' S' (Hs07.asNet s x) → Q .non H'
theorem ok_Net_go_back : FnOk P w K mg base CX0 4 T.f_Net_go_back T.d_Net_go_back ["self", "k"] (spNet_go_back T) := by
  refine T.F_Net_go_back.ok sc_Net_go_back (fun vs H Q E h => ?_) (fun cdv A outer s H vs Q E hr h => ?_)
  · obtain ⟨S, s, j, N, x, rfl, _⟩ := h
    rfl
  · obtain ⟨S, s, j, N, x, rfl, hH, hS, hx, hwh, hB, hN, k⟩ := h
    have hu := hu_of hr
    have hnp := hS.wf.np
    have hnc := hS.wf.nc
    have line : 100 < sizeLine := by decide
    obtain ⟨dn, en⟩ := hS.net
    have hmem := List.mem_of_getElem? hx
    have hw := hS.wf.pics x hmem
    have hP := hS.pic x hmem
    have hall : ∀ y ∈ x.has, ∃ a b, y = some (a, b) := fun y hy => by
      unfold Hs07.isWhole at hwh
      rw [Bool.and_eq_true] at hwh
      have := List.all_eq_true.mp hwh.1 y hy
      cases y with
      | none => cases this
      | some p => exact ⟨p.1, p.2, rfl⟩
    refine ⟨_, (pss_cons (ps_set (i := 2) sc_Net_go_back.nd rfl (Or.inl rfl) (pe_dget hu (pe_fld (pv 0) rfl) (pv 1) (fun _ _ => rfl)))
      (pss_cons (ps_for PassesOwn.never rfl (pi_range2 rfl T.n_range (pa_cons pe_int (pa_cons (pe_op op_add (pe_callB call_len_seq rfl T.n_len PySem.boot_len (pa_cons (pe_fld (pv 0) rfl) pa_nil)) pe_int) pa_nil))) (pg_name (i := 3) sc_Net_go_back.nd rfl (Or.inl rfl)) (pss_cons (ps_set (i := 4) sc_Net_go_back.nd rfl (Or.inl rfl) (pe_dget hu (pe_fld (pv 2) rfl) (pv 3) (fun _ _ => rfl)))
      (pss_one (ps_expr (pe_meth (pe_meth (pv 0) T.c_Net T.m_Net_process (ok_Net_process T) (hr.mono (by decide)) T.b_Net_process .nil pass0 (pa_cons (pv 3) pa_nil)) T.c_Process T.m_Process_rise (ok_Process_rise T) (hr.mono (by decide)) T.b_Process_rise .nil pass0 (pa_cons (pe_ix ix_tup (pv 4) pe_int (fun _ _ => rfl)) (pa_cons (pe_ix ix_tup (pv 4) pe_int (fun _ _ => rfl)) pa_nil)))))))
      (pss_cons (ps_for PassesOwn.never rfl (pi_range2 rfl T.n_range (pa_cons pe_int (pa_cons (pe_op op_add (pe_callB call_len_seq rfl T.n_len PySem.boot_len (pa_cons (pe_fld (pv 0) rfl) pa_nil)) pe_int) pa_nil))) (pg_name (i := 5) sc_Net_go_back.nd rfl (Or.inl rfl)) (pss_cons (ps_set (i := 6) sc_Net_go_back.nd rfl (Or.inl rfl) (pe_meth (pv 0) T.c_Net T.m_Net_channel (ok_Net_channel T) (hr.mono (by decide)) T.b_Net_channel .nil pass0 (pa_cons (pv 5) pa_nil)))
      (pss_one (ps_fld (pv 6) (pe_callTy call_list_of rfl T.n_list boot_list (pa_cons (pe_ix ix_list (pe_fld (pv 2) rfl) (pe_op op_sub (pv 5) pe_int) (fun _ _ => rfl)) pa_nil)) rfl))))
      (pss_cons (ps_expr (pe_meth0 (pv 0) T.c_Net T.m_Net_keep_whole_pictures (ok_Net_keep_whole_pictures T) (hr.mono (by decide)) T.b_Net_keep_whole_pictures .nil pass0))
      (pss_one (ps_fld (pv 0) (pe_fld (pv 2) rfl) rfl)))))), ?_⟩
    refine ⟨_, rfl, _, T.cNet, dn, _, _, rfl, hH.at_ _ _ en, T.c_Net, T.n_Net_pictures, rfl, _, rfl, _, _, rfl, hS.dget hH hx, ?_⟩
    refine ⟨_, rfl, _, T.cNet, dn, _, _, rfl, hH.at_ _ _ en, T.c_Net, T.n_Net_processes, rfl, _, _, rfl, .inl (SqL.of (hH.at_ _ _ hS.plist)), _, _, rfl, rfl, _, _, rfl, ⟨by decide, by decide, by rw [List.length_map, List.length_range]; omega, by rw [List.length_map, List.length_range]; omega⟩, ?_⟩
    rw [List.length_map, List.length_range, show (((s.procs.length : Nat) : Int) + 1 - 1).toNat = s.procs.length by omega]
    have l1 : (x.has.map riseOf).length = s.procs.length := by rw [List.length_map, hw.1]
    have l2 : (x.came.map fun l => l.map Hs07.Item.msg).length = s.on.length := by rw [List.length_map, hw.2.1, hS.wf.on]
    refine for_range (lo := 1) (n := s.procs.length) (fun i σ H' => ∃ (v3 v4 : Option V) (S' : Sto), σ = [some (.ref (S.ad .net)), some (.int x.number), some (.ref (S.ad (.pic x.number))), v3, v4, none, none] ∧ Go T H S H' S' { s with procs := mixl (x.has.map riseOf) s.procs i }) ⟨none, none, S, rfl, Go.refl hH hS⟩ ?_ ?_
    · rintro i σ H' hi ⟨v3, v4, S', rfl, g⟩
      have hix : i < x.has.length := by rw [hw.1]; exact hi
      have ex : x.has[i]? = some x.has[i] := List.getElem?_eq_getElem hix
      obtain ⟨a, b, eab⟩ := hall _ (List.mem_of_getElem? ex)
      rw [eab] at ex
      have hPg := g.shape.pic x hmem
      obtain ⟨dq, eq⟩ := hPg.pic
      obtain ⟨kr, er, hR⟩ := hPg.recs
      obtain ⟨t, e2, e3⟩ : ∃ t, valV kr (.inl ((i : Int) + 1)) = some (.ref t) ∧ S'.ob (.imm t) = some (.tup [.int (a : Nat), .int (b : Nat)]) := by
        rcases hR.val i _ ex with z | ⟨a', b', t, z1, z2, z3⟩
        · cases z.1
        · cases z1
          exact ⟨t, z2, z3⟩
      have gt := g.hold.at_ _ _ e3
      rw [g.hold.imm] at gt
      obtain ⟨dn', en'⟩ := g.shape.net
      have hil : i < ({ s with procs := mixl (x.has.map riseOf) s.procs i } : Hs07.St).procs.length := by
        show i < (mixl _ _ _).length
        rw [mixl_len l1]; exact hi
      obtain ⟨dp, ep⟩ := g.shape.proc _ _ (proc_of hil)
      rw [show (1 : Int) + ((i : Nat) : Int) = ((i : Nat) : Int) + 1 by omega, ← g.ad]
      refine ⟨_, rfl, _, T.cPicture, dq, _, _, rfl, g.hold.at_ _ _ eq, T.c_Picture, T.n_Picture_records, rfl, _, rfl, _, _, rfl, dget_of (k := Sum.inl ((i : Int) + 1)) (g.hold.at_ _ _ er) e2, ?_⟩
      refine ⟨_, rfl, _, dn', _, rfl, g.hold.at_ _ _ en', rfl, _, rfl, S', _, i, rfl, g.hold, g.shape.sk, hil, _, dp, _, rfl, g.hold.at_ _ _ ep, rfl, _, rfl, _, _, _, _, rfl, rfl, .inl (.inl gt), at_of (j := 0) rfl rfl, _, rfl, _, _, _, _, rfl, rfl, .inl (.inl gt), at_of (j := 1) rfl rfl, ?_⟩
      refine ⟨_, dp, _, _, a, b, rfl, g.hold.at_ _ _ ep, ?_⟩
      have g2 := Go.setProc g.hold g.shape ep ⟨a, b, false⟩ dp
      have es : Hs07.setProc { s with procs := mixl (x.has.map riseOf) s.procs i } i ⟨a, b, false⟩ = { s with procs := mixl (x.has.map riseOf) s.procs (i + 1) } := by
        unfold Hs07.setProc
        rw [← mixl_set (x := (⟨a, b, false⟩ : Hs07.Proc)) l1 (by rw [List.getElem?_map, ex]; rfl)]
      rw [es] at g2
      exact ⟨_, _, _, rfl, g.trans g2⟩
    rintro σ H1 ⟨v3, v4, S1, rfl, g1⟩
    have e1 : mixl (x.has.map riseOf) s.procs s.procs.length = x.has.map riseOf := by rw [← l1]; exact mixl_all l1
    rw [e1] at g1
    obtain ⟨dn1, en1⟩ := g1.shape.net
    have egcl : S1.ob .clist = some (.lst ((List.range s.chans.length).map fun i => .ref (S1.ad (.chan i)))) := g1.shape.clist
    rw [← g1.ad]
    refine ⟨_, rfl, _, T.cNet, dn1, _, _, rfl, g1.hold.at_ _ _ en1, T.c_Net, T.n_Net_channels, rfl, _, _, rfl, .inl (SqL.of (g1.hold.at_ _ _ egcl)), _, _, rfl, rfl, _, _, rfl, ⟨by decide, by decide, by rw [List.length_map, List.length_range]; omega, by rw [List.length_map, List.length_range]; omega⟩, ?_⟩
    rw [List.length_map, List.length_range, show (((s.chans.length : Nat) : Int) + 1 - 1).toNat = s.chans.length by omega]
    refine for_range (lo := 1) (n := s.chans.length) (fun i σ H' => ∃ (v5 v6 : Option V) (S' : Sto), σ = [some (.ref (S1.ad .net)), some (.int x.number), some (.ref (S1.ad (.pic x.number))), v3, v4, v5, v6] ∧ Mv T H1 S1 H' S' { s with procs := x.has.map riseOf, on := mixl (x.came.map fun l => l.map Hs07.Item.msg) s.on i }) ⟨none, none, S1, rfl, (Go.refl g1.hold g1.shape).mv⟩ ?_ ?_
    · rintro i σ H' hi ⟨v5, v6, S', rfl, g⟩
      have hPg := g.shape.pic x hmem
      obtain ⟨dq, eq⟩ := hPg.pic
      obtain ⟨dn', en'⟩ := g.shape.net
      have exc : s.chans[i]? = some s.chans[i] := List.getElem?_eq_getElem hi
      obtain ⟨dc, ec⟩ := g.shape.chan i _ exc
      have hic : i < x.came.length := by rw [hw.2.1]; exact hi
      have exm : x.came[i]? = some x.came[i] := List.getElem?_eq_getElem hic
      obtain ⟨as, ecl, hcl⟩ := hPg.cl i _ exm
      rw [show (1 : Int) + ((i : Nat) : Int) = ((i : Nat) : Int) + 1 by omega, ← g.ad .net rfl, ← g.ad (.pic x.number) rfl]
      refine ⟨_, rfl, _, dn', _, rfl, g.hold.at_ _ _ en', rfl, _, rfl, S', _, i, rfl, g.hold, g.shape.sk, hi, ?_⟩
      refine ⟨_, rfl, _, T.cPicture, dq, _, _, rfl, g.hold.at_ _ _ eq, T.c_Picture, T.n_Picture_caught, rfl, _, rfl, _, _, rfl, rfl, _, _, _, _, rfl, rfl, SqL.of (g.hold.at_ _ _ hPg.caught), at_of (j := i) (by omega) (get_range _ hic), _, _, rfl, .inl (SqL.of (g.hold.at_ _ _ ecl)), fun a na => ?_⟩
      have h2 := g.hold.lay (r := .wait i) na (.lst (as.map V.ref)) (fun b e => by cases e)
      have f2 : Fr H' S' _ _ := Fr.lay (r := .wait i) na (.lst (as.map V.ref))
      have ec2 : (S'.lay (.wait i) a (.lst (as.map V.ref))).ob (.chan i) = some (.ins T.cChannel dc (chanF s.chans[i] (S'.ad (.wait i)))) := by simpa using ec
      have adc : (S'.lay (.wait i) a (.lst (as.map V.ref))).ad (.chan i) = S'.ad (.chan i) := by simp
      have gc2 := h2.at_ _ _ ec2
      rw [adc] at gc2
      refine ⟨_, rfl, _, T.cChannel, dc, _, rfl, gc2, T.c_Channel, T.n_Channel_waiting, lt1000 rfl, ?_⟩
      have h3 := h2.write ec2 (.ins T.cChannel dc (chanF s.chans[i] a))
      have f3 : Fr _ (S'.lay (.wait i) a (.lst (as.map V.ref))) _ _ := Fr.write (H := upd H' a (.lst (as.map V.ref))) ec2 (.ins T.cChannel dc (chanF s.chans[i] a))
      rw [adc] at h3 f3
      have sh := g.shape.relay exc (msg_items T hcl) a dc
      refine ⟨_, _, _, rfl, g.trans ⟨h3, f2.trans f3, ?_, fun r hr => ?_, (Im.lay (by simp)).trans (Im.put (by simp))⟩⟩
      · rw [← mixl_set l2 (x := x.came[i].map Hs07.Item.msg) (by rw [List.getElem?_map, exm]; rfl)]
        exact sh
      · have : r ≠ .wait i := fun z => by subst z; cases hr
        simp [this]
    rintro σ H2 ⟨v5, v6, S2, rfl, g2⟩
    have e2 : mixl (x.came.map fun l => l.map Hs07.Item.msg) s.on s.chans.length = x.came.map fun l => l.map Hs07.Item.msg := by rw [← hS.wf.on, ← l2]; exact mixl_all l2
    rw [e2] at g2
    have g12 := g1.mv.trans g2
    obtain ⟨dn2, en2⟩ := g2.shape.net
    rw [← g2.ad .net rfl, ← g2.ad (.pic x.number) rfl]
    refine ⟨_, rfl, _, dn2, _, rfl, g2.hold.at_ _ _ en2, rfl, S2, _, rfl, g2.hold, g2.shape, fun H3 S3 g3 => ?_⟩
    have g13 := g12.trans g3
    have hmem3 : x ∈ s.pics.filter Hs07.isWhole := List.mem_filter.mpr ⟨hmem, hwh⟩
    obtain ⟨dq3, eq3⟩ := (g3.shape.pic x hmem3).pic
    obtain ⟨dn3, en3⟩ := g3.shape.net
    rw [← g3.ad .net rfl, ← g3.ad (.pic x.number) rfl]
    refine ⟨_, rfl, _, T.cPicture, dq3, _, _, rfl, g3.hold.at_ _ _ eq3, T.c_Picture, T.n_Picture_deeds_before, rfl, _, rfl, _, T.cNet, dn3, _, rfl, g3.hold.at_ _ _ en3, T.c_Net, T.n_Net_deeds, lt1000 rfl, ?_⟩
    have g4 : Go T H3 S3 _ _ _ := ⟨g3.hold.write en3 _, Fr.write en3 _, g3.shape.setDeeds dn3 x.before, rfl, Im.put (by simp)⟩
    exact k _ _ (g13.trans g4.mv)
def spA_back : Sp := fun vs H Q E => ∃ k : Nat, spCall T (.back k) vs H Q E
theorem ok_answer_back : FnOk P w K mg base CX0 12 T.f_answer_back T.d_answer_back ["net", "reader"] (spA_back T) := by
  refine T.F_answer_back.ok sc_answer_back (fun vs H Q E h => ?_) (fun cdv A outer s H vs Q E hr h => ?_)
  · obtain ⟨k, S, s, r, dr, ca, ns, rest, i, N, rfl, _⟩ := h
    rfl
  · obtain ⟨k, S, s, r, dr, ca, ns, rest, i, N, rfl, B, kk⟩ := h
    have hu := hu_of hr
    refine ⟨_, (pss_cons (ps_set (i := 2) sc_answer_back.nd rfl (Or.inl rfl) (pe_meth0 (pv 1) T.c_Reader T.m_Reader_read_number (ok_Reader_read_number T) (hr.mono (by decide)) T.b_Reader_read_number .nil pass0))
      (pss_cons (ps_if (pt_not (pt_val (pe_meth (pv 0) T.c_Net T.m_Net_has_picture (ok_Net_has_picture T) (hr.mono (by decide)) T.b_Net_has_picture .nil pass0 (pa_cons (pv 2) pa_nil)))) (pss_one (ps_ret (pe_lst (pa_cons (pe_un un_neg pe_int) pa_nil)))) pss_nil)
      (pss_cons (ps_set (i := 3) sc_answer_back.nd rfl (Or.inl rfl) (pe_dget hu (pe_fld (pv 0) rfl) (pv 2) (fun _ _ => rfl)))
      (pss_cons (ps_if (pt_not (pt_val (pe_meth0 (pv 3) T.c_Picture T.m_Picture_is_whole (ok_Picture_is_whole T) (hr.mono (by decide)) T.b_Picture_is_whole .nil pass0))) (pss_one (ps_ret (pe_lst (pa_cons (pe_un un_neg pe_int) pa_nil)))) pss_nil)
      (pss_cons (ps_expr (pe_meth (pv 0) T.c_Net T.m_Net_go_back (ok_Net_go_back T) (hr.mono (by decide)) T.b_Net_go_back .nil pass0 (pa_cons (pv 2) pa_nil)))
      (pss_one (ps_ret (pe_lst (pa_cons (pe_meth0 (pv 3) T.c_Picture T.m_Picture_all_coins (ok_Picture_all_coins T) (hr.mono (by decide)) T.b_Picture_all_coins .nil pass0) pa_nil))))))))), ?_⟩
    have hd : ns.drop i = (k : Int) :: rest := B.args
    obtain ⟨g1, g2, _⟩ := drop_get hd
    refine ⟨_, rfl, r, dr, _, rfl, B.rd, rfl, r, dr, ca, i, ns, _, rfl, B.rd, B.seq.seq, g1, ?_⟩
    obtain ⟨hH, _, _⟩ := B.rdOk (i + 1)
    have hS := B.shape
    have hbig := B.big
    have line : 1000000 < sizeLine := by decide
    obtain ⟨dn, en⟩ := hS.net
    have gn := hH.at_ _ _ en
    refine ⟨_, rfl, _, dn, _, rfl, gn, rfl, _, rfl, S, s, k, rfl, hH, hS, _, rfl, ite2 (fun h1 => ?_) (fun h1 => ?_)⟩
    · have h1' : Hs07.picOf s k = none := by simpa using h1
      exact ⟨_, rfl, (by show 1 ≤ sizeLine; decide), fun l hl => kk _ _ l (B.same (ans := [-1]) rfl (by rw [step_back, h1']) hl)⟩
    obtain ⟨x, hx⟩ : ∃ x, Hs07.picOf s k = some x := by
      cases q : Hs07.picOf s k with
      | none => rw [q] at h1; exact absurd rfl h1
      | some x => exact ⟨x, rfl⟩
    obtain ⟨rfl, j, hj⟩ := picOf_ix hx
    have hmem := List.mem_of_getElem? hj
    have hP := hS.pic x hmem
    have hw := hS.wf.pics x hmem
    obtain ⟨dq, eq⟩ := hP.pic
    refine ⟨_, rfl, _, T.cNet, dn, _, _, rfl, gn, T.c_Net, T.n_Net_pictures, rfl, _, rfl, _, _, rfl, hS.dget hH hj, ?_⟩
    refine ⟨_, rfl, _, dq, _, rfl, hH.at_ _ _ eq, rfl, S, x, rfl, hH, hP, by rw [hw.2.1, hw.2.2.1], _, rfl, ite2 (fun h2 => ?_) (fun h2 => ?_)⟩
    · have h2' : Hs07.isWhole x = false := by simpa using h2
      exact ⟨_, rfl, (by show 1 ≤ sizeLine; decide), fun l hl => kk _ _ l (B.same (ans := [-8]) rfl (by rw [step_back, hx]; simp only [h2', if_true]) hl)⟩
    have h2' : Hs07.isWhole x = true := by simpa using h2
    refine ⟨_, rfl, _, dn, _, rfl, gn, rfl, _, rfl, S, s, j, N, x, rfl, hH, hS, hj, h2', B.bd, by omega, fun H1 S1 g => ?_⟩
    have hmem1 : x ∈ (Hs07.asNet s x).pics := List.mem_filter.mpr ⟨hmem, h2'⟩
    have hP1 := g.shape.pic x hmem1
    obtain ⟨dq1, eq1⟩ := hP1.pic
    rw [← g.ad (.pic x.number) rfl]
    refine ⟨_, rfl, _, dq1, _, rfl, g.hold.at_ _ _ eq1, rfl, S1, x, N, rfl, g.hold, hP1, by rw [hw.1]; exact hS.wf.np, by rw [hw.2.1]; exact hS.wf.nc, B.bd.came x hmem, by omega, fun H2 s2 => ?_⟩
    refine ⟨(by show 1 ≤ sizeLine; decide), fun l hl => ?_⟩
    have hst : Hs07.step s (.back x.number) = (Hs07.asNet s x, [((Hs07.coinsOf x : Nat) : Int)]) := by
      rw [step_back, hx]
      simp only [h2']
      rw [if_neg (by decide)]
      rfl
    have hb : Bd N (Hs07.asNet s x) := ⟨fun l hl => by
      obtain ⟨m, hm, rfl⟩ := List.mem_map.mp hl
      rw [List.length_map]
      exact B.bd.came x hmem m hm, fun y hy => B.bd.came y (List.mem_filter.mp hy).1⟩
    exact kk _ _ l (B.done rfl (Hold.same g.hold s2) (g.fr.trans (Fr.same s2)) g.shape (hb.mono (by omega)) (g.ad .net rfl) hst hl)
end
end Cp

set_option Elab.async false
set_option linter.all false
set_option maxRecDepth 100000
set_option maxHeartbeats 2000000
namespace Cp
open PySem PySem.Spec PyProof.Rows L2
section
variable {P : Program} {w : World} {K : PySem.W.Frag} {mg : Str → Option Value} {base : Heap} (T : Env K mg)
theorem all_calls (x : Hs07.Call) : ∃ (f : Addr) (fd : FuncData) (ps : List Str), ([.ref T.f_answer_net, .ref T.f_answer_put, .ref T.f_answer_take, .ref T.f_answer_turns, .ref T.f_answer_cut, .ref T.f_answer_join, .ref T.f_answer_picture, .ref T.f_answer_lacks, .ref T.f_answer_count, .ref T.f_answer_fall, .ref T.f_answer_back, .ref T.f_answer_drop, .ref T.f_answer_shows, .ref T.f_answer_channel, .ref T.f_answer_total, .ref T.f_answer_newest] : List V)[numOf x]? = some (.ref f) ∧
    FnOk P w K mg base CX0 12 f fd ps (spCall T x) ∧ Binds K fd ps [] ∧ PySem.W.keepIn K (.ref f) = true := by
  cases x with
  | net a b => exact ⟨_, _, _, rfl, (ok_answer_net T).imp fun _ _ _ _ h => ⟨a, b, h⟩, T.b_answer_net, T.F_answer_net.kp⟩
  | take c => exact ⟨_, _, _, rfl, (ok_answer_take T).imp fun _ _ _ _ h => ⟨c, h⟩, T.b_answer_take, T.F_answer_take.kp⟩
  | turns c => exact ⟨_, _, _, rfl, (ok_answer_turns T).imp fun _ _ _ _ h => ⟨c, h⟩, T.b_answer_turns, T.F_answer_turns.kp⟩
  | cut c => exact ⟨_, _, _, rfl, (ok_answer_cut T).imp fun _ _ _ _ h => ⟨c, h⟩, T.b_answer_cut, T.F_answer_cut.kp⟩
  | join c d => exact ⟨_, _, _, rfl, (ok_answer_join T).imp fun _ _ _ _ h => ⟨c, d, h⟩, T.b_answer_join, T.F_answer_join.kp⟩
  | picture c => exact ⟨_, _, _, rfl, (ok_answer_picture T).imp fun _ _ _ _ h => ⟨c, h⟩, T.b_answer_picture, T.F_answer_picture.kp⟩
  | lacks c => exact ⟨_, _, _, rfl, (ok_answer_lacks T).imp fun _ _ _ _ h => ⟨c, h⟩, T.b_answer_lacks, T.F_answer_lacks.kp⟩
  | put c d e => exact ⟨_, _, _, rfl, (ok_answer_put T).imp fun _ _ _ _ h => ⟨c, d, e, h⟩, T.b_answer_put, T.F_answer_put.kp⟩
  | count c => exact ⟨_, _, _, rfl, (ok_answer_count T).imp fun _ _ _ _ h => ⟨c, h⟩, T.b_answer_count, T.F_answer_count.kp⟩
  | fall c => exact ⟨_, _, _, rfl, (ok_answer_fall T).imp fun _ _ _ _ h => ⟨c, h⟩, T.b_answer_fall, T.F_answer_fall.kp⟩
  | back c => exact ⟨_, _, _, rfl, (ok_answer_back T).imp fun _ _ _ _ h => ⟨c, h⟩, T.b_answer_back, T.F_answer_back.kp⟩
  | drop c => exact ⟨_, _, _, rfl, (ok_answer_drop T).imp fun _ _ _ _ h => ⟨c, h⟩, T.b_answer_drop, T.F_answer_drop.kp⟩
  | shows => exact ⟨_, _, _, rfl, ok_answer_shows T, T.b_answer_shows, T.F_answer_shows.kp⟩
  | channel c => exact ⟨_, _, _, rfl, (ok_answer_channel T).imp fun _ _ _ _ h => ⟨c, h⟩, T.b_answer_channel, T.F_answer_channel.kp⟩
  | total => exact ⟨_, _, _, rfl, ok_answer_total T, T.b_answer_total, T.F_answer_total.kp⟩
  | newest => exact ⟨_, _, _, rfl, ok_answer_newest T, T.b_answer_newest, T.F_answer_newest.kp⟩
theorem binds_any {x qual : Str} {st : Stmt} {f : Addr} {fd : FuncData} {ps : List Str} (F : Fun K x qual st f fd)
    (h : ∀ (kV doc pm : Value) (an : Option Addr) (cdv ct : Value) (us : List Value), us.length = ps.length → bindArgs (PySem.W.fnOf x qual (defArgs st) (defBody st) (defScope st) .none kV doc pm an cdv ct) ⟨us, []⟩ = pure (ps.zip us)) (s : Shared) (us : List Value) (hl : us.length = ps.length) : BindsTo s fd ⟨us, []⟩ (ps.zip us) := by
  obtain ⟨oc, od, kV, doc, pm, an, cdv, ct, osl, rfl, lk, hcd⟩ := F.ex
  exact .of_eq (h kV doc pm an cdv ct us hl)
end
end Cp

namespace PySem.W.Fast
theorem tw14498900003949852832 : True := trivial
theorem tw16361981465136627915 : True := trivial
theorem tw11235773148009374815 : True := trivial
theorem tw2622954377902875350 : True := trivial
theorem tw11074346566527131922 : True := trivial
theorem tw12678201382548876902 : True := trivial
theorem tw7105855972626143139 : True := trivial
theorem tw3888733111657894236 : True := trivial
theorem tw4460058840499244605 : True := trivial
theorem tw9175542238259133691 : True := trivial
theorem tw949538156374851800 : True := trivial
theorem tw10045901103387708393 : True := trivial
theorem tw14014333606451908779 : True := trivial
theorem tw17831690112439242830 : True := trivial
theorem tw9935234912132878623 : True := trivial
theorem tw13423679856971787846 : True := trivial
theorem tw18020698795725793604 : True := trivial
theorem tw7435567471734262319 : True := trivial
theorem tw8842981106901240107 : True := trivial
theorem tw1279789497309150945 : True := trivial
theorem tw7070946923823553004 : True := trivial
theorem tw14808270130367576386 : True := trivial
theorem tw15113435718622823788 : True := trivial
theorem tw16620687148020566099 : True := trivial
theorem tw2196279393381638807 : True := trivial
theorem tw5768240030179076233 : True := trivial
theorem tw15707360408012581290 : True := trivial
theorem tw5900059747335680278 : True := trivial
theorem tw15629737253659895761 : True := trivial
theorem tw851544709967841045 : True := trivial
theorem tw1095648171940498578 : True := trivial
theorem tw12903186383539716588 : True := trivial
theorem tw12786096885022671487 : True := trivial
theorem tw1515218515656564915 : True := trivial
theorem tw13597139477234093471 : True := trivial
theorem tw10777176296956265461 : True := trivial
theorem tw8459432270910353302 : True := trivial
theorem tw18154861056391569034 : True := trivial
theorem tw2812823573850822600 : True := trivial
theorem tw688093041584211671 : True := trivial
theorem tw1858919883455034236 : True := trivial
theorem tw18182550613647560858 : True := trivial
theorem tw2254045513170571174 : True := trivial
theorem tw1499892937850781809 : True := trivial
theorem tw3447800177504499232 : True := trivial
theorem tw944945438996388061 : True := trivial
theorem tw5029976068957130667 : True := trivial
theorem tw11002584595387943816 : True := trivial
theorem tw7884640052992521798 : True := trivial
theorem tw12175331962646821810 : True := trivial
theorem tw16150499108655184487 : True := trivial
theorem tw4944962614377400962 : True := trivial
theorem tw13004856402446986149 : True := trivial
theorem tw4365868867103897056 : True := trivial
theorem tw18149894389541055997 : True := trivial
theorem tw17302998514803360429 : True := trivial
theorem tw12797114210826703917 : True := trivial
theorem tw12434848542810971233 : True := trivial
theorem tw16616623186617231571 : True := trivial
theorem tw152005780167539421 : True := trivial
theorem tw14078359063514533637 : True := trivial
theorem tw360702915134857254 : True := trivial
theorem tw4046604985269327923 : True := trivial
theorem tw3491221058890798901 : True := trivial
theorem tw13497552721199472049 : True := trivial
theorem tw14501981747541351782 : True := trivial
theorem tw7176104816202563280 : True := trivial
theorem tw17790762597920577520 : True := trivial
theorem tw18187488724836882770 : True := trivial
theorem tw13127998341435909092 : True := trivial
theorem tw15380028737292715444 : True := trivial
theorem tw718302915611983395 : True := trivial
theorem tw4173519040906743430 : True := trivial
theorem tw16666494884145378703 : True := trivial
theorem tw10744281583158005718 : True := trivial
theorem tw15712935967258528445 : True := trivial
theorem tw5191449649542079417 : True := trivial
theorem tw13991930479204865800 : True := trivial
theorem tw304740809245612075 : True := trivial
theorem tw2207302691057978302 : True := trivial
theorem tw10845878329370921954 : True := trivial
theorem tw6517646486911471600 : True := trivial
theorem tw430155355609331701 : True := trivial
theorem tw10429634096750042266 : True := trivial
theorem tw14719799488685123908 : True := trivial
theorem tw7406571877907657318 : True := trivial
theorem tw16360898407745646548 : True := trivial
theorem tw14756322134872929419 : True := trivial
theorem tw7177475376574769 : True := trivial
theorem tw18183653157731570912 : True := trivial
theorem tw960067809303419102 : True := trivial
theorem tw8373642544172335291 : True := trivial
theorem tw3274247265011864794 : True := trivial
theorem tw10722195204735083547 : True := trivial
theorem tw16258443438975979492 : True := trivial
theorem tw617618586586845998 : True := trivial
theorem tw10175565668410362526 : True := trivial
theorem tw10081621282352050916 : True := trivial
theorem tw8956068170014391519 : True := trivial
theorem tw16300426731410546467 : True := trivial
theorem tw10110301659869531527 : True := trivial
theorem tw11709228636377543647 : True := trivial
theorem tw16926607753770255064 : True := trivial
theorem tw3097469644472044156 : True := trivial
theorem tw15333055338927368805 : True := trivial
theorem tw6214876761980648131 : True := trivial
theorem tw15950806092679282047 : True := trivial
theorem tw7701298620501538989 : True := trivial
theorem tw5834158738687708940 : True := trivial
theorem tw1161963637757210038 : True := trivial
theorem tw4834835650773641747 : True := trivial
theorem tw15812532194456312708 : True := trivial
theorem tw7950200382106169826 : True := trivial
theorem tw2902210596415081894 : True := trivial
theorem tw4874792490903856988 : True := trivial
theorem tw3194946422851442253 : True := trivial
theorem tw7415301295574838821 : True := trivial
theorem tw466066505361341963 : True := trivial
theorem tw17655216252351357288 : True := trivial
theorem tw2085374143661398301 : True := trivial
theorem tw6317646541973661115 : True := trivial
theorem tw14584740762795647222 : True := trivial
theorem tw14091255767509933741 : True := trivial
theorem tw9609240529406973533 : True := trivial
theorem tw17940306946758853568 : True := trivial
theorem tw13402314406716516910 : True := trivial
theorem tw12736311607526631394 : True := trivial
theorem tw3715065386734567140 : True := trivial
theorem tw3097620700129788905 : True := trivial
theorem tw17682136131793912639 : True := trivial
theorem tw6535384354377487074 : True := trivial
theorem tw1651607904666073806 : True := trivial
theorem tw8316131318247683092 : True := trivial
theorem tw18182556943964821199 : True := trivial
theorem tw7095755834611210375 : True := trivial
theorem tw16035190245920508800 : True := trivial
theorem tw6221811458963281188 : True := trivial
theorem tw5871543575577545860 : True := trivial
theorem tw12916035405388301458 : True := trivial
theorem tw10344114474445549657 : True := trivial
theorem tw10124575352766189305 : True := trivial
theorem tw2346378240860623215 : True := trivial
theorem tw10949838856469892058 : True := trivial
theorem tw7385322354413764818 : True := trivial
theorem tw14524041454272718818 : True := trivial
theorem tw17869917295995075747 : True := trivial
theorem tw15175109521740291101 : True := trivial
theorem tw8665040133872221668 : True := trivial
theorem tw3711633125893412692 : True := trivial
theorem tw17058301660101157569 : True := trivial
end PySem.W.Fast

set_option Elab.async false
set_option maxRecDepth 100000
open PySem PySem.W PyProof.Rows
set_option maxHeartbeats 0 in
theorem PySem.Challenge.cw_coinpictures_s01_answers_holds : PySem.Challenge.rw_coinpictures_s01_answers.Holds := by
  w_on; k_headS; (case hw => exact ⟨[.list [.int 12]], by decide +kernel, by decide +kernel⟩)
  k_fillS
  refine L2.walk_specK (r := PySem.Challenge.rw_coinpictures_s01_answers) (k := 14) (CX := L2.CX0) (ps := ["calls"]) (sp := fun K => Cp.spAnswers (K := K)) (by decide +kernel) rfl rfl ⟨rfl, by decide, by decide⟩ (fun w h Y => PySem.W.kIn_of Y) ?F ?S (fun _ _ _ _ z => z)
  case F =>
    intro w mg fa h Y KX G hmg
    refine' (Cp.env_of KX G ?zj2 ?zj3 ?zj4 ?zj5 ?zj6 ?zj7 ?zj8 ?zj9 ?zja ?zjb ?zjc ?zjd ?zje ?zjf ?zjg ?zjh ?zji ?zjj ?zjk ?zjl ?zjm ?zjn ?zjo ?zjp ?zjq ?zjr ?zjs ?zjt ?zju ?zjv ?zjw ?zjx ?zjy ?zjz ?zk0 ?zk1 ?zk2 ?zk3 ?zk4 ?zk5 ?zk6 ?zk7 ?zk8 ?zk9 ?zka ?zkb ?zkc ?zkd ?zke ?zkf ?zkg ?zkh ?zki ?zkj ?zkk ?zkl ?zkm ?zkn ?zko ?zkp ?zkq ?zkr ?zks ?zkt ?zku ?zkv ?zkw ?zkx ?zky ?zkz ?zl0 ?zl1 ?zl2 ?zl3 ?zl4 ?zl5 ?zl6 ?zl7 ?zl8 ?zl9 ?zla ?zlb ?zlc ?zld ?zle ?zlf ?zlg ?zlh ?zli ?zlj ?zlk ?zll ?zlm ?zln ?zlo ?zlp ?zlq ?zlr ?zls ?zlt ?zlu ?zlv ?zlw ?zlx ?zly ?zlz ?zm0 ?zm1 ?zm2 ?zm3 ?zm4 ?zm5 ?zm6 ?zm7 ?zm8 ?zm9 ?zma ?zmb ?zmc ?zmd ?zme ?zmf ?zmg ?zmh ?zmi ?zmj ?zmk ?zml ?zmm ?zmn ?zmo ?zmp ?zmq ?zmr ?zms ?zmt ?zmu ?zmv ?zmw ?zmx ?zmy ?zmz ?zn0 ?zn1 ?zn2 ?zn3 ?zn4 ?zn5 ?zn6 ?zn7 ?zn8 ?zn9 ?zna ?znb ?znc ?znd ?zne ?znf ?zng ?znh ?zni ?znj ?znk ?znl ?znm ?znn ?zno ?znp ?znq ?znr ?zns ?znt ?znu ?znv ?znw ?znx ?zny ?znz ?zo0 ?zo1 ?zo2 ?zo3 ?zo4 ?zo5 ?zo6 ?zo7 ?zo8 ?zo9 ?zoa ?zob ?zoc ?zod ?zoe ?zof ?zog ?zoh ?zoi ?zoj ?zok ?zol ?zom ?zon ?zoo ?zop ?zoq ?zor ?zos ?zot ?zou ?zov ?zow ?zox ?zoy ?zoz ?zp0 ?zp1 ?zp2 ?zp3 ?zp4 ?zp5 ?zp6 ?zp7 ?zp8 ?zp9 ?zpa ?zpb ?zpc ?zpd ?zpe ?zpf ?zpg ?zph ?zpi ?zpj ?zpk ?zpl ?zpm ?zpn ?zpo ?zpp ?zpq ?zpr ?zps ?zpt ?zpu ?zpv ?zpw ?zpx ?zpy ?zpz ?zq0 ?zq1 ?zq2 ?zq3 ?zq4 ?zq5 ?zq6 ?zq7 ?zq8 ?zq9 ?zqa ?zqb ?zqc ?zqd ?zqe ?zqf ?zqg ?zqh ?zqi ?zqj ?zqk ?zql ?zqm ?zqn ?zqo ?zqp ?zqq ?zqr ?zqs ?zqt ?zqu ?zqv ?zqw ?zqx ?zqy ?zqz ?zr0 ?zr1 ?zr2 ?zr3 ?zr4 ?zr5 ?zr6 ?zr7 ?zr8 ?zr9 ?zra ?zrb ?zrc ?zrd ?zre ?zrf ?zrg ?zrh ?zri ?zrj ?zrk ?zrl ?zrm ?zrn ?zro ?zrp ?zrq ?zrr ?zrs ?zrt ?zru ?zrv ?zrw ?zrx ?zry ?zrz ?zs0 ?zs1 ?zs2 ?zs3 ?zs4 ?zs5 ?zs6 ?zs7 ?zs8 ?zs9 ?zsa ?zsb ?zsc ?zsd ?zse ?zsf ?zsg ?zsh ?zsi ?zsj ?zsk ?zsl ?zsm ?zsn ?zso ?zsp ?zsq ?zsr ?zss ?zst ?zsu ?zsv ?zsw ?zsx ?zsy ?zsz ?zt0 ?zt1 ?zt2 ?zt3 ?zt4 ?zt5 ?zt6 ?zt7 ?zt8 ?zt9 ?zta ?ztb ?ztc ?ztd ?zte ?ztf ?ztg ?zth ?zti ?ztj ?ztk ?ztl ?ztm ?ztn ?zto ?ztp ?ztq ?ztr ?zts ?ztt ?ztu ?ztv ?ztw ?ztx ?zty ?ztz ?zu0 ?zu1 ?zu2 ?zu3 ?zu4 ?zu5 ?zu6 ?zu7 ?zu8 ?zu9 ?zua ?zub ?zuc ?zud ?zue ?zuf).elim fun T => ?fin
    (case zj2 => k_is)
    (case zj3 => k_is)
    (case zj4 => k_is)
    (case zj5 => k_is)
    (case zj6 => k_is)
    (case zj7 => k_is)
    (case zj8 => k_is)
    (case zj9 => k_is)
    (case zja => k_is)
    (case zjb => k_is)
    (case zjc => k_is)
    (case zjd => k_is)
    (case zje => k_is)
    (case zjf => k_is)
    (case zjg => k_is)
    (case zjh => k_is)
    (case zji => k_is)
    (case zjj => k_is)
    (case zjk => k_is)
    (case zjl => k_is)
    (case zjm => k_is)
    (case zjn => k_is)
    (case zjo => k_is)
    (case zjp => k_is)
    (case zjq => k_is)
    (case zjr => k_is)
    (case zjs => k_is)
    (case zjt => k_is)
    (case zju => k_is)
    (case zjv => k_is)
    (case zjw => k_is)
    (case zjx => k_is)
    (case zjy => k_is)
    (case zjz => k_is)
    (case zk0 => k_is)
    (case zk1 => k_is)
    (case zk2 => k_is)
    (case zk3 => k_is)
    (case zk4 => k_is)
    (case zk5 => k_is)
    (case zk6 => k_is)
    (case zk7 => k_is)
    (case zk8 => k_is)
    (case zk9 => k_is)
    (case zka => k_is)
    (case zkb => k_is)
    (case zkc => k_is)
    (case zkd => k_is)
    (case zke => k_is)
    (case zkf => k_is)
    (case zkg => k_is)
    (case zkh => k_is)
    (case zki => k_is)
    (case zkj => k_is)
    (case zkk => k_is)
    (case zkl => k_is)
    (case zkm => k_is)
    (case zkn => k_is)
    (case zko => k_is)
    (case zkp => k_is)
    (case zkq => k_is)
    (case zkr => k_is)
    (case zks => k_is)
    (case zkt => k_is)
    (case zku => k_is)
    (case zkv => k_is)
    (case zkw => k_is)
    (case zkx => k_is)
    (case zky => k_is)
    (case zkz => k_is)
    (case zl0 => k_is)
    (case zl1 => k_is)
    (case zl2 => k_is)
    (case zl3 => k_is)
    (case zl4 => k_is)
    (case zl5 => k_is)
    (case zl6 => k_is)
    (case zl7 => k_is)
    (case zl8 => k_is)
    (case zl9 => k_is)
    (case zla => k_is)
    (case zlb => k_is)
    (case zlc => k_is)
    (case zld => k_is)
    (case zle => k_is)
    (case zlf => k_is)
    (case zlg => k_is)
    (case zlh => k_is)
    (case zli => k_is)
    (case zlj => k_is)
    (case zlk => k_is)
    (case zll => k_is)
    (case zlm => k_is)
    (case zln => k_is)
    (case zlo => k_is)
    (case zlp => k_is)
    (case zlq => k_is)
    (case zlr => k_is)
    (case zls => k_is)
    (case zlt => k_is)
    (case zlu => k_is)
    (case zlv => k_is)
    (case zlw => k_is)
    (case zlx => k_is)
    (case zly => k_is)
    (case zlz => k_is)
    (case zm0 => k_is)
    (case zm1 => k_is)
    (case zm2 => k_is)
    (case zm3 => k_is)
    (case zm4 => k_is)
    (case zm5 => k_is)
    (case zm6 => k_is)
    (case zm7 => k_is)
    (case zm8 => k_is)
    (case zm9 => k_is)
    (case zma => k_is)
    (case zmb => k_is)
    (case zmc => k_is)
    (case zmd => k_is)
    (case zme => k_is)
    (case zmf => k_is)
    (case zmg => k_is)
    (case zmh => k_is)
    (case zmi => k_is)
    (case zmj => k_is)
    (case zmk => k_is)
    (case zml => k_is)
    (case zmm => k_is)
    (case zmn => k_is)
    (case zmo => k_is)
    (case zmp => k_is)
    (case zmq => k_is)
    (case zmr => k_is)
    (case zms => k_is)
    (case zmt => k_is)
    (case zmu => k_is)
    (case zmv => k_is)
    (case zmw => k_is)
    (case zmx => k_is)
    (case zmy => k_is)
    (case zmz => k_is)
    (case zn0 => k_is)
    (case zn1 => k_is)
    (case zn2 => k_is)
    (case zn3 => k_is)
    (case zn4 => k_is)
    (case zn5 => k_is)
    (case zn6 => k_is)
    (case zn7 => k_is)
    (case zn8 => k_is)
    (case zn9 => k_is)
    (case zna => k_is)
    (case znb => k_is)
    (case znc => k_is)
    (case znd => k_is)
    (case zne => k_is)
    (case znf => k_is)
    (case zng => k_is)
    (case znh => k_is)
    (case zni => k_is)
    (case znj => k_is)
    (case znk => k_is)
    (case znl => k_is)
    (case znm => k_is)
    (case znn => k_is)
    (case zno => k_is)
    (case znp => k_is)
    (case znq => k_is)
    (case znr => k_is)
    (case zns => k_is)
    (case znt => k_is)
    (case znu => k_is)
    (case znv => k_is)
    (case znw => k_is)
    (case znx => k_is)
    (case zny => k_is)
    (case znz => k_is)
    (case zo0 => k_is)
    (case zo1 => k_is)
    (case zo2 => k_is)
    (case zo3 => k_is)
    (case zo4 => k_is)
    (case zo5 => k_is)
    (case zo6 => k_is)
    (case zo7 => k_is)
    (case zo8 => k_is)
    (case zo9 => k_is)
    (case zoa => k_is)
    (case zob => k_is)
    (case zoc => k_is)
    (case zod => k_is)
    (case zoe => k_is)
    (case zof => k_is)
    (case zog => k_is)
    (case zoh => k_is)
    (case zoi => k_is)
    (case zoj => k_is)
    (case zok => k_is)
    (case zol => k_is)
    (case zom => k_is)
    (case zon => k_is)
    (case zoo => k_is)
    (case zop => k_is)
    (case zoq => k_is)
    (case zor => k_is)
    (case zos => k_is)
    (case zot => k_is)
    (case zou => k_is)
    (case zov => k_is)
    (case zow => k_is)
    (case zox => k_is)
    (case zoy => k_is)
    (case zoz => k_is)
    (case zp0 => k_is)
    (case zp1 => k_is)
    (case zp2 => k_is)
    (case zp3 => k_is)
    (case zp4 => k_is)
    (case zp5 => k_is)
    (case zp6 => k_is)
    (case zp7 => k_is)
    (case zp8 => k_is)
    (case zp9 => k_is)
    (case zpa => k_is)
    (case zpb => k_is)
    (case zpc => k_is)
    (case zpd => k_is)
    (case zpe => k_is)
    (case zpf => k_is)
    (case zpg => k_is)
    (case zph => k_is)
    (case zpi => k_is)
    (case zpj => k_is)
    (case zpk => k_is)
    (case zpl => k_is)
    (case zpm => k_is)
    (case zpn => k_is)
    (case zpo => k_is)
    (case zpp => k_is)
    (case zpq => k_is)
    (case zpr => k_is)
    (case zps => k_is)
    (case zpt => k_is)
    (case zpu => k_is)
    (case zpv => k_is)
    (case zpw => k_is)
    (case zpx => k_is)
    (case zpy => k_is)
    (case zpz => k_is)
    (case zq0 => k_is)
    (case zq1 => k_is)
    (case zq2 => k_is)
    (case zq3 => k_is)
    (case zq4 => k_is)
    (case zq5 => k_is)
    (case zq6 => k_is)
    (case zq7 => k_is)
    (case zq8 => k_is)
    (case zq9 => k_is)
    (case zqa => k_is)
    (case zqb => k_is)
    (case zqc => k_is)
    (case zqd => k_is)
    (case zqe => k_is)
    (case zqf => k_is)
    (case zqg => k_is)
    (case zqh => k_is)
    (case zqi => k_is)
    (case zqj => k_is)
    (case zqk => k_is)
    (case zql => k_is)
    (case zqm => k_is)
    (case zqn => k_is)
    (case zqo => k_is)
    (case zqp => k_is)
    (case zqq => k_is)
    (case zqr => k_is)
    (case zqs => k_is)
    (case zqt => k_is)
    (case zqu => k_is)
    (case zqv => k_is)
    (case zqw => k_is)
    (case zqx => k_is)
    (case zqy => k_is)
    (case zqz => k_is)
    (case zr0 => k_is)
    (case zr1 => k_is)
    (case zr2 => k_is)
    (case zr3 => k_is)
    (case zr4 => k_is)
    (case zr5 => k_is)
    (case zr6 => k_is)
    (case zr7 => k_is)
    (case zr8 => k_is)
    (case zr9 => k_is)
    (case zra => k_is)
    (case zrb => k_is)
    (case zrc => k_is)
    (case zrd => k_is)
    (case zre => k_is)
    (case zrf => k_is)
    (case zrg => k_is)
    (case zrh => k_is)
    (case zri => k_is)
    (case zrj => k_is)
    (case zrk => k_is)
    (case zrl => k_is)
    (case zrm => k_is)
    (case zrn => k_is)
    (case zro => k_is)
    (case zrp => k_is)
    (case zrq => k_is)
    (case zrr => k_is)
    (case zrs => k_is)
    (case zrt => k_is)
    (case zru => k_is)
    (case zrv => k_is)
    (case zrw => k_is)
    (case zrx => k_is)
    (case zry => k_is)
    (case zrz => k_is)
    (case zs0 => k_is)
    (case zs1 => k_is)
    (case zs2 => k_is)
    (case zs3 => k_is)
    (case zs4 => k_is)
    (case zs5 => k_is)
    (case zs6 => k_is)
    (case zs7 => k_is)
    (case zs8 => k_is)
    (case zs9 => k_is)
    (case zsa => k_is)
    (case zsb => k_is)
    (case zsc => k_is)
    (case zsd => k_is)
    (case zse => k_is)
    (case zsf => k_is)
    (case zsg => k_is)
    (case zsh => k_is)
    (case zsi => k_is)
    (case zsj => k_is)
    (case zsk => k_is)
    (case zsl => k_is)
    (case zsm => k_is)
    (case zsn => k_is)
    (case zso => k_is)
    (case zsp => k_is)
    (case zsq => k_is)
    (case zsr => k_is)
    (case zss => k_is)
    (case zst => k_is)
    (case zsu => k_is)
    (case zsv => k_is)
    (case zsw => k_is)
    (case zsx => k_is)
    (case zsy => k_is)
    (case zsz => k_is)
    (case zt0 => k_is)
    (case zt1 => k_is)
    (case zt2 => k_is)
    (case zt3 => k_is)
    (case zt4 => k_is)
    (case zt5 => k_is)
    (case zt6 => k_is)
    (case zt7 => k_is)
    (case zt8 => k_is)
    (case zt9 => k_is)
    (case zta => k_is)
    (case ztb => k_is)
    (case ztc => k_is)
    (case ztd => k_is)
    (case zte => k_is)
    (case ztf => k_is)
    (case ztg => k_is)
    (case zth => k_is)
    (case zti => k_is)
    (case ztj => k_is)
    (case ztk => k_is)
    (case ztl => k_is)
    (case ztm => k_is)
    (case ztn => k_is)
    (case zto => k_is)
    (case ztp => k_is)
    (case ztq => k_is)
    (case ztr => k_is)
    (case zts => k_is)
    (case ztt => k_is)
    (case ztu => k_is)
    (case ztv => k_is)
    (case ztw => k_is)
    (case ztx => k_is)
    (case zty => k_is)
    (case ztz => k_is)
    (case zu0 => k_is)
    (case zu1 => k_is)
    (case zu2 => k_is)
    (case zu3 => k_is)
    (case zu4 => k_is)
    (case zu5 => k_is)
    (case zu6 => k_is)
    (case zu7 => k_is)
    (case zu8 => kernel_rfl!)
    (case zu9 => kernel_rfl!)
    (case zua => k_is)
    (case zub => k_is)
    (case zuc => kernel_rfl!)
    (case zud => kernel_rfl!)
    (case zue => k_is)
    (case zuf => k_is)
    case fin =>
      have e := hmg.symm.trans T.g_answers
      cases e
      exact ⟨T.d_answers, Cp.binds_any T.F_answers fun _ _ _ _ _ _ us hl => match us, hl with | [_], _ => rfl, fun base _ _ => Cp.ok_answers T _ T.s_CALLS (Cp.all_calls T)⟩
  case S =>
    intro K H xs a hO hwi hask hx
    cases hx with
    | cons h1 h2 =>
      cases h2
      cases h1 with
      | lst hs ha =>
        have e := L2.ints_dw a.1 _ ha
        subst e
        have q : ((Codec.inLen 0 30000 a.1 && a.1.all (Codec.inInt 0 4294967295)) && true) = true := hwi
        rw [Bool.and_eq_true, Bool.and_eq_true] at q
        exact ⟨_, a.1, rfl, hs, (Codec.inNat_iff.mp q.1.1).2, hask, fun H' p hp => .lst (L2.SqL.of hp) (L2.dw_ints _)⟩

