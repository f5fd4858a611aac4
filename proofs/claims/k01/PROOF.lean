import PyProof.Rows.All
import Wide.All
import OpenK.AllK
import Wide.FinOn
import Lean
import PyProof.EqAt
import PyProof.EqKinds
import PyProof.TupleCall
import PyProof.NeData
import PyProof.StrLawsChain
import KE.KSortTup
import KE.KRevSl
import KE.KMinKey
import PyProof.P3In
import KE.KRevIter
import KE.KDictSum
import PyProof.StrCalls6
import PyProof.ToksMono
import PyProof.ReprRoads
import PyProof.StrOps2
import PySem.Challenge.RW_loggather_k01_words_and_lines
set_option Elab.async false
set_option linter.all false
set_option maxRecDepth 100000
namespace L2
open PySem PySem.Spec PyProof.Rows
abbrev Key := Sum Int Str
def keyIs : Key → Value → Bool
  | .inl k, v => Value.isInt k v
  | .inr x, v => Value.isStrOf x v
def keyH (w : World) : Key → Int
  | .inl k => hashInt k
  | .inr x => hashStr w x
theorem keyIs_shape : ∀ {k : Key} {v : Value}, keyIs k v = true → (∃ i t, k = Sum.inl i ∧ v = Value.int i t) ∨ (∃ x t, k = Sum.inr x ∧ v = Value.str x t)
  | .inl i, v, h => by
    obtain ⟨t, e⟩ := Value.isInt_shape (k := i) (v := v) h
    exact .inl ⟨i, t, rfl, e⟩
  | .inr x, v, h => by
    obtain ⟨t, e⟩ := Value.isStrOf_shape (x := x) (v := v) h
    exact .inr ⟨x, t, rfl, e⟩
theorem key_ll (a b : Int) : decide ((Sum.inl a : Key) = Sum.inl b) = (a == b) := by
  by_cases e : a = b
  · subst e; simp
  · have h : ¬ (Sum.inl a : Key) = Sum.inl b := fun q => e (Sum.inl.inj q)
    rw [decide_eq_false h]
    exact (beq_eq_false_iff_ne.mpr e).symm
theorem key_rr (a b : Str) : decide ((Sum.inr a : Key) = Sum.inr b) = decide (a = b) := by
  by_cases e : a = b
  · subst e; simp
  · have h : ¬ (Sum.inr a : Key) = Sum.inr b := fun q => e (Sum.inr.inj q)
    rw [decide_eq_false h, decide_eq_false e]
theorem key_lr (a : Int) (b : Str) : decide ((Sum.inl a : Key) = Sum.inr b) = false := decide_eq_false (fun q => nomatch q)
theorem key_rl (a : Str) (b : Int) : decide ((Sum.inr a : Key) = Sum.inl b) = false := decide_eq_false (fun q => nomatch q)
def mixKind (prog : Program) (w : World) : PySem.KeyKind prog w Key where
  is := keyIs
  hash := keyH w
  inj := fun v a b ha hb => by
    rcases keyIs_shape ha with ⟨i, t, rfl, rfl⟩ | ⟨x, t, rfl, rfl⟩
    · rcases keyIs_shape hb with ⟨j, u, rfl, e⟩ | ⟨y, u, rfl, e⟩
      · injection e with e1 _; rw [e1]
      · exact nomatch e
    · rcases keyIs_shape hb with ⟨j, u, rfl, e⟩ | ⟨y, u, rfl, e⟩
      · exact nomatch e
      · injection e with e1 _; rw [e1]
  byValue := fun k v h => by
    rcases keyIs_shape h with ⟨i, t, rfl, rfl⟩ | ⟨x, t, rfl, rfl⟩ <;> rfl
  pyHash := fun hv h => by
    rcases keyIs_shape hv with ⟨i, t, rfl, rfl⟩ | ⟨x, t, rfl, rfl⟩
    · exact wpAny_pyHash_int h
    · exact wpAny_pyHash_str h
  eqBool := fun hu hv h => by
    rcases keyIs_shape hu with ⟨i, t, rfl, rfl⟩ | ⟨x, t, rfl, rfl⟩
    · rcases keyIs_shape hv with ⟨j, u, rfl, rfl⟩ | ⟨y, u, rfl, rfl⟩
      · rw [key_ll] at h; exact wpAny_eqBool_int h
      · rw [key_lr] at h; exact SeqAt.EqAt.int_str i t y u _ _ _ _ h
    · rcases keyIs_shape hv with ⟨j, u, rfl, rfl⟩ | ⟨y, u, rfl, rfl⟩
      · rw [key_rl] at h; exact SeqAt.EqAt.str_int x t j u _ _ _ _ h
      · rw [key_rr] at h; exact wpAny_eqBool_str h
  «strs» := fun k x t v h => by
    rcases keyIs_shape h with ⟨i, u, rfl, e⟩ | ⟨y, u, rfl, e⟩
    · exact nomatch e
    · injection e with e1 _
      subst e1
      cases v <;> rfl
end L2
namespace L2
open PySem PySem.Spec PyProof.Rows
inductive V where
  | non | bl (b : Bool) | int (i : Int) | str (x : Str) | byt (b : Array UInt8) | flt (b : UInt64) | ref (a : Addr) | ty (n : String)
  deriving DecidableEq
def RelV : V → Value → Prop
  | .non, u => u = Value.none
  | .bl b, u => u = Value.bool b
  | .int i, u => ∃ t, u = Value.int i t
  | .str x, u => ∃ t, u = Value.str x t
  | .byt b, u => ∃ t, u = Value.bytes b t
  | .flt b, u => ∃ t, u = Value.float b t
  | .ref a, u => u = Value.ref a
  | .ty n, u => u = Value.type n
abbrev Vals : List V → List Value → Prop := Paired RelV
theorem Vals.length {xs : List V} {us : List Value} (r : Vals xs us) : xs.length = us.length := Paired.length r
theorem Vals.get : ∀ {xs : List V} {us : List Value} {i : Nat} {x : V}, Vals xs us → xs[i]? = some x → ∃ u, us[i]? = some u ∧ RelV x u
  | _, _, _, _, .nil, e => by simp at e
  | _, _, 0, _, .cons r _, e => by simp at e; subst e; exact ⟨_, rfl, r⟩
  | _, _, i + 1, x, .cons _ t, e => by
    obtain ⟨u, h1, h2⟩ := Vals.get (i := i) (x := x) t (by simpa using e)
    exact ⟨u, by simpa using h1, h2⟩
theorem Vals.set {x : V} {u : Value} (r : RelV x u) : ∀ {xs : List V} {us : List Value} (i : Nat), Vals xs us → Vals (xs.set i x) (us.set i u)
  | _, _, _, .nil => .nil
  | _, _, 0, .cons _ t => .cons r t
  | _, _, i + 1, .cons q t => .cons q (Vals.set r i t)
theorem Vals.append : ∀ {xs ys : List V} {us ws : List Value}, Vals xs us → Vals ys ws → Vals (xs ++ ys) (us ++ ws)
  | _, _, _, _, .nil, s => s
  | _, _, _, _, .cons r t, s => .cons r (Vals.append t s)
theorem Vals.take : ∀ {xs : List V} {us : List Value} (n : Nat), Vals xs us → Vals (xs.take n) (us.take n)
  | _, _, 0, _ => .nil
  | _, _, _ + 1, .nil => .nil
  | _, _, n + 1, .cons r t => .cons r (Vals.take n t)
theorem Vals.drop : ∀ {xs : List V} {us : List Value} (n : Nat), Vals xs us → Vals (xs.drop n) (us.drop n)
  | _, _, 0, r => r
  | _, _, _ + 1, .nil => .nil
  | _, _, n + 1, .cons _ t => Vals.drop n t
theorem Vals.none_of : ∀ {xs : List V} {us : List Value} {i : Nat}, Vals xs us → xs[i]? = none → us[i]? = none := fun {xs us i} r e => by
  have h1 := r.length
  have h2 : xs.length ≤ i := List.getElem?_eq_none_iff.mp e
  exact List.getElem?_eq_none_iff.mpr (by lia)
def RelO : Option V → Option Value → Prop
  | some v, some u => RelV v u
  | none, none => True
  | _, _ => False
def KV {κ : Type} : List (κ × V) → List (κ × Value) → Prop := Paired fun (p : κ × V) (q : κ × Value) => p.1 = q.1 ∧ RelV p.2 q.2
def kV : Key → V
  | .inl i => .int i
  | .inr x => .str x
inductive HO where
  | lst (xs : List V)
  | tup (xs : List V)
  | dK (kvs : List (Key × V)) | dT (kvs : List (List Key × V))
  | set (S : Int → Bool) (n : Nat)
  | ins (C dx : Addr) (fs : List (Str × V))
  | own (x : Addr)
  | xd (fs : List (Str × V))
  | met (f x : Addr)
  | rng (lo hi : Int)
  | frz (o : Obj) (u : HO)
  | tbl (ps : Array Value)
  | ext (φ : Heap → Prop)
abbrev Hp := Addr → Option HO
def upd (H : Hp) (a : Addr) (o : HO) : Hp := fun b => if b = a then some o else H b
theorem upd_same {H : Hp} {a : Addr} {o : HO} : upd H a o a = some o := by unfold upd; rw [if_pos rfl]
theorem upd_ne {H : Hp} {a b : Addr} {o : HO} (h : b ≠ a) : upd H a o b = H b := by unfold upd; rw [if_neg h]
theorem ne_of_none {H : Hp} {a b : Addr} {o : HO} (h : H a = some o) (h' : H b = none) : a ≠ b := by
  intro e; subst e; rw [h] at h'; cases h'
section
variable (P : Program) (w : World)
def ObjOk (H : Hp) (h : Heap) (a : Addr) : HO → Prop
  | .lst xs => xs.length ≤ sizeLine ∧ ∃ (its : List Value) (n : Nat), Vals xs its ∧ h.get? a = some { cls := .type "list", data := .seq its.toArray n }
  | .tup xs => xs.length ≤ sizeLine ∧ ∃ its : List Value, Vals xs its ∧ IsTup h a its.toArray
  | .dK kvs => kvs.length ≤ sizeLine ∧ (a == sysModules) = false ∧ ∃ vs, KV kvs vs ∧ h.DictOf (mixKind P w) a vs
  | .dT kvs => kvs.length ≤ sizeLine ∧ (a == sysModules) = false ∧ ∃ xs : List (List Key × Addr × Value),
      Paired (fun (p : List Key × V) (q : List Key × Addr × Value) => p.1 = q.1 ∧ H q.2.1 = some (.tup (p.1.map kV)) ∧ RelV p.2 q.2.2) kvs xs ∧
      ∃ o es ep, h.get? a = some o ∧ o.ExactDict ∧ o.data = .dict es ep ∧ es.toList = xs.map (entryOfKey (tupleKind (mixKind P w))) ∧ (xs.map (·.1)).Nodup
  | .set S n => h.SetOf (intKind P w) a S n
  | .ins C dx fs => H dx = some (.own a) ∧ fs.length ≤ 1000 ∧ dx ≠ a ∧ h.get? a = some (PySem.W.instObj C dx) ∧
      ∃ mA, h.Ns1 dx mA ∧ (∀ f, RelO (fs.lookup f) (mA f)) ∧ PySem.Within mA (fs.map (·.1))
  | .own _ => ∃ o, h.get? a = some o
  | .xd fs => ∃ mA, h.Ns1 a mA ∧ ∀ f, RelO (fs.lookup f) (mA f)
  | .rng lo hi => ∃ t u v, h.get? a = some { cls := .type "range", data := .fields #[.int lo t, .int hi u, .int 1 v] }
  | .frz o u => h.get? a = some o ∧ ObjOk H h a u
  | .tbl ps => h.get? a = some { cls := .none, data := .fields ps }
  | .met f x => h.get? a = some (PySem.W.methodObj (.ref f) (.ref x))
  | .ext φ => φ h ∧ (∃ o, h.get? a = some o) ∧ ∀ h1 h2 : Heap, φ h1 → (∀ o, h1.get? a = some o → h2.get? a = some o) → φ h2
def HOk (H : Hp) (h : Heap) : Prop := ∀ a o, H a = some o → ObjOk P w H h a o
end
section
variable {P : Program} {w : World} {H H' : Hp} {h h' : Heap} {a : Addr} {o : HO}
theorem ObjOk.lt (x : ObjOk P w H h a o) : a < h.objs.size := by
  cases o with
  | lst xs => obtain ⟨_, _, _, _, e⟩ := x; exact Heap.lt_size e
  | tup xs => obtain ⟨_, _, _, p⟩ := x; exact p.lt
  | dK kvs => obtain ⟨_, _, _, _, o, _, _, e, _⟩ := x; exact Heap.lt_size e
  | dT kvs => obtain ⟨_, _, _, _, o, _, _, e, _⟩ := x; exact Heap.lt_size e
  | set S n => obtain ⟨o, _, _, _, e, _⟩ := x; exact Heap.lt_size e
  | ins C dx fs => obtain ⟨_, _, _, e, _⟩ := x; exact Heap.lt_size e
  | own y => obtain ⟨_, e⟩ := x; exact Heap.lt_size e
  | xd fs => obtain ⟨_, ⟨_, _, _, e, _⟩, _⟩ := x; exact Heap.lt_size e
  | rng lo hi => obtain ⟨_, _, _, e⟩ := x; exact Heap.lt_size e
  | frz ob u => obtain ⟨e, _⟩ := x; exact Heap.lt_size e
  | tbl ps => exact Heap.lt_size (show h.get? a = some _ from x)
  | met f y => exact Heap.lt_size (show h.get? a = some _ from x)
  | ext φ => obtain ⟨_, ⟨_, e⟩, _⟩ := x; exact Heap.lt_size e
theorem Paired.mapP {α β : Type} {F G : α → β → Prop} : ∀ {l₁ : List α} {l₂ : List β}, Paired F l₁ l₂ → (∀ a b, F a b → G a b) → Paired G l₁ l₂
  | _, _, .nil, _ => .nil
  | _, _, .cons r t, f => .cons (f _ _ r) (Paired.mapP t f)
theorem ObjOk.stay (x : ObjOk P w H h a o) (k : ∀ b u, (b = a ∨ H b = some (.own a)) → h.get? b = some u → h'.get? b = some u)
    (ho : ∀ b, H b = some (.own a) → H' b = some (.own a)) (ht : ∀ b xs, H b = some (.tup xs) → H' b = some (.tup xs)) : ObjOk P w H' h' a o := by
  induction o with
  | lst xs => obtain ⟨z, its, n, r, e⟩ := x; exact ⟨z, its, n, r, k _ _ (.inl rfl) e⟩
  | tup xs => obtain ⟨z, its, r, ob, e, c⟩ := x; exact ⟨z, its, r, ob, k _ _ (.inl rfl) e, c⟩
  | dK kvs => obtain ⟨z, y, vs, r, ob, es, ep, e, c⟩ := x; exact ⟨z, y, vs, r, ob, es, ep, k _ _ (.inl rfl) e, c⟩
  | dT kvs =>
    obtain ⟨z, y, xs, r, ob, es, ep, e, c⟩ := x
    exact ⟨z, y, xs, Paired.mapP r fun p q z => ⟨z.1, ht _ _ z.2.1, z.2.2⟩, ob, es, ep, k _ _ (.inl rfl) e, c⟩
  | set S n => obtain ⟨ob, es, ep, t, e, c⟩ := x; exact ⟨ob, es, ep, t, k _ _ (.inl rfl) e, c⟩
  | ins C dx fs =>
    obtain ⟨d, z, ne, e, mA, ⟨od, es, ep, e2, c⟩, r⟩ := x
    exact ⟨ho _ d, z, ne, k _ _ (.inl rfl) e, mA, ⟨od, es, ep, k _ _ (.inr d) e2, c⟩, r⟩
  | own y => obtain ⟨ob, e⟩ := x; exact ⟨ob, k _ _ (.inl rfl) e⟩
  | xd fs => obtain ⟨mA, ⟨od, es, ep, e, c⟩, r⟩ := x; exact ⟨mA, ⟨od, es, ep, k _ _ (.inl rfl) e, c⟩, r⟩
  | rng lo hi => obtain ⟨t, u, v, e⟩ := x; exact ⟨t, u, v, k _ _ (.inl rfl) e⟩
  | frz ob u ih => obtain ⟨e, q⟩ := x; exact ⟨k _ _ (.inl rfl) e, ih q⟩
  | tbl ps =>
    have e : h.get? a = some { cls := .none, data := .fields ps } := x
    show h'.get? a = some { cls := .none, data := .fields ps }
    exact k a _ (.inl rfl) e
  | met f y =>
    have e : h.get? a = some (PySem.W.methodObj (.ref f) (.ref y)) := x
    show h'.get? a = some (PySem.W.methodObj (.ref f) (.ref y))
    exact k a _ (.inl rfl) e
  | ext φ => obtain ⟨p, ⟨o, e⟩, st⟩ := x; exact ⟨st _ _ p fun o q => k _ _ (.inl rfl) q, ⟨o, k _ _ (.inl rfl) e⟩, st⟩
theorem HOk.lt (x : HOk P w H h) (e : H a = some o) : a < h.objs.size := (x a o e).lt
theorem HOk.fresh (x : HOk P w H h) (e : h.objs.size ≤ a) : H a = none := by
  cases q : H a with
  | none => rfl
  | some u => exact absurd (Nat.lt_of_lt_of_le (x.lt q) e) (Nat.lt_irrefl _)
theorem HOk.kept (x : HOk P w H h) (k : ∀ b u, h.get? b = some u → h'.get? b = some u) : HOk P w H h' := fun a o e =>
  (x a o e).stay (fun b u _ q => k b u q) (fun _ q => q) fun _ _ q => q
theorem HOk.laid (x : HOk P w H h) (k : ∀ b u, h.get? b = some u → h'.get? b = some u) (hp : h.objs.size ≤ a) (new : ObjOk P w (upd H a o) h' a o) : HOk P w (upd H a o) h' := fun b u e => by
  have hn := x.fresh hp
  by_cases hb : b = a
  · subst hb; rw [upd_same] at e; cases e; exact new
  · rw [upd_ne hb] at e
    exact (x b u e).stay (fun c v _ q => k c v q) (fun c q => by rw [upd_ne (ne_of_none q hn)]; exact q) fun c xs q => by rw [upd_ne (ne_of_none q hn)]; exact q
end
def Rd (H : Hp) (a : Addr) (u : HO) : Prop := H a = some u ∨ ∃ o, H a = some (.frz o u)
theorem Rd.of {H : Hp} {a : Addr} {u : HO} (h : H a = some u) : Rd H a u := .inl h
theorem Rd.ok {P : Program} {w : World} {H : Hp} {h : Heap} {a : Addr} {u : HO} (r : Rd H a u) (x : HOk P w H h) : ObjOk P w H h a u := by
  rcases r with r | ⟨o, r⟩
  · exact x a u r
  · obtain ⟨_, q⟩ := x a _ r
    exact q
def Mut : Option HO → Prop
  | some (.lst _) => True
  | some (.dK _) => True
  | some (.dT _) => True
  | some (.set _ _) => True
  | some (.ins _ _ _) => True
  | some (.ext _) => True
  | _ => False
section
variable {P : Program} {w : World} {H : Hp} {h h' : Heap} {x e : Addr} {o' : HO}
theorem HOk.write (ok : HOk P w H h) (mu : Mut (H x)) (he : e = x ∨ H e = some (.own x)) (k : ∀ b u, b ≠ e → h.get? b = some u → h'.get? b = some u) (heo : ∃ u, h'.get? e = some u)
    (new : ObjOk P w (upd H x o') h' x o') : HOk P w (upd H x o') h' := fun b u q => by
  have nown : ∀ c y, H c = some (.own y) → c ≠ x := fun c y r z => by subst z; rw [r] at mu; exact mu
  have ntup : ∀ c xs, H c = some (.tup xs) → c ≠ x := fun c xs r z => by subst z; rw [r] at mu; exact mu
  by_cases hb : b = x
  · subst hb; rw [upd_same] at q; cases q; exact new
  · rw [upd_ne hb] at q
    by_cases hbe : b = e
    · have q' : H b = some (.own x) := by
        rcases he with z | z
        · exact absurd (hbe.trans z) hb
        · rw [hbe]; exact z
      rw [q] at q'; cases q'
      obtain ⟨v, hv⟩ := heo
      exact ⟨v, by rw [hbe]; exact hv⟩
    · refine (ok b u q).stay (fun c v hc r => k c v ?_ r) (fun c r => by rw [upd_ne (nown c b r)]; exact r) fun c xs r => by rw [upd_ne (ntup c xs r)]; exact r
      rcases hc with rfl | hc
      · exact hbe
      · rintro rfl
        rcases he with z | z
        · exact nown c b hc z
        · rw [hc] at z; cases z; exact hb rfl
end
structure Un (fs ex : List Addr) (H H' : Hp) (h h' : Heap) : Prop where
  keep : ∀ b o, h.get? b = some o → H b = none → b ∉ fs → b ∉ ex → h'.get? b = some o
  slot : ∀ b o, h.get? b = some o → H b = none → b ∈ fs → b ∉ ex → ∃ sl, h'.get? b = some { o with slots := sl }
  free : ∀ b o, h.get? b = some o → H b = none → b ∉ ex → H' b = none
  there : ∀ b o, h.get? b = some o → b ∉ ex → ∃ o', h'.get? b = some o'
  tups : ∀ b xs, H b = some (.tup xs) → H' b = some (.tup xs)
  frzs : ∀ b o u, H b = some (.frz o u) → H' b = some (.frz o u)
  tbls : ∀ b ps, H b = some (.tbl ps) → ∃ more, H' b = some (.tbl (ps ++ more))
section
variable {fs fs' ex ex' : List Addr} {H H1 H2 : Hp} {h h1 h2 h' : Heap} {a x e : Addr} {o : HO}
theorem Un.any (u : Un fs ex H H1 h h1) {b : Addr} {ob : Obj} (q : h.get? b = some ob) (n : H b = none) (hx : b ∉ ex) : ∃ sl, h1.get? b = some { ob with slots := sl } := by
  by_cases hb : b ∈ fs
  · exact u.slot b ob q n hb hx
  · exact ⟨ob.slots, u.keep b ob q n hb hx⟩
theorem Un.trans (a : Un fs ex H H1 h h1) (b : Un fs ex H1 H2 h1 h2) : Un fs ex H H2 h h2 where
  keep := fun c ob q n hc hx => b.keep c ob (a.keep c ob q n hc hx) (a.free c ob q n hx) hc hx
  slot := fun c ob q n hc hx => by
    obtain ⟨sl, e1⟩ := a.slot c ob q n hc hx
    obtain ⟨sl', e2⟩ := b.slot c _ e1 (a.free c ob q n hx) hc hx
    exact ⟨sl', e2⟩
  free := fun c ob q n hx => by
    obtain ⟨o', e1⟩ := a.there c ob q hx
    exact b.free c o' e1 (a.free c ob q n hx) hx
  there := fun c ob q hx => by
    obtain ⟨o', e1⟩ := a.there c ob q hx
    exact b.there c o' e1 hx
  tups := fun c xs q => b.tups c xs (a.tups c xs q)
  frzs := fun c ob xs q => b.frzs c ob xs (a.frzs c ob xs q)
  tbls := fun c ps q => by
    obtain ⟨m1, e1⟩ := a.tbls c ps q
    obtain ⟨m2, e2⟩ := b.tbls c _ e1
    exact ⟨m1 ++ m2, by rw [e2, Array.append_assoc]⟩
theorem Un.kept (k : ∀ b u, h.get? b = some u → h'.get? b = some u) : Un fs ex H H h h' :=
  ⟨fun b ob q _ _ _ => k b ob q, fun b ob q _ _ _ => ⟨ob.slots, k b ob q⟩, fun _ _ _ n _ => n, fun b ob q _ => ⟨ob, k b ob q⟩, fun _ _ q => q, fun _ _ _ q => q, fun _ ps q => ⟨#[], by rw [q]; simp⟩⟩
theorem Un.refl : Un fs ex H H h h := Un.kept fun _ _ q => q
theorem Un.laid (k : ∀ b u, h.get? b = some u → h'.get? b = some u) (hp : h.objs.size ≤ a) (hn : H a = none) : Un fs ex H (upd H a o) h h' where
  keep := fun b u q _ _ _ => k b u q
  slot := fun b u q _ _ _ => ⟨u.slots, k b u q⟩
  free := fun b u q n _ => by rw [upd_ne (Nat.ne_of_lt (Nat.lt_of_lt_of_le (Heap.lt_size q) hp))]; exact n
  there := fun b u q _ => ⟨u, k b u q⟩
  tups := fun b xs q => by rw [upd_ne (ne_of_none q hn)]; exact q
  frzs := fun b u xs q => by rw [upd_ne (ne_of_none q hn)]; exact q
  tbls := fun b ps q => ⟨#[], by rw [upd_ne (ne_of_none q hn), q]; simp⟩
theorem Un.write (mu : Mut (H x)) (he : e = x ∨ H e = some (.own x)) (k : ∀ b u, b ≠ e → h.get? b = some u → h'.get? b = some u) (heo : ∃ u, h'.get? e = some u) : Un fs ex H (upd H x o) h h' := by
  have hx : ∀ b, H b = none → b ≠ x := fun b n z => by subst z; rw [n] at mu; exact mu
  have hb : ∀ b, H b = none → b ≠ e := fun b n z => by
    subst z
    rcases he with r | r
    · exact hx b n r
    · rw [n] at r; cases r
  have hm : ∀ b u, H b = some u → ¬ Mut (some u) → b ≠ x := fun b u q nm z => by subst z; rw [q] at mu; exact nm mu
  refine ⟨fun b u q n _ _ => k b u (hb b n) q, fun b u q n _ _ => ⟨u.slots, k b u (hb b n) q⟩, fun b u q n _ => by rw [upd_ne (hx b n)]; exact n, fun b u q _ => ?_,
    fun b xs q => by rw [upd_ne (hm b _ q fun z => z)]; exact q, fun b u xs q => by rw [upd_ne (hm b _ q fun z => z)]; exact q, fun b ps q => ⟨#[], by rw [upd_ne (hm b _ q fun z => z), q]; simp⟩⟩
  by_cases hbe : b = e
  · subst hbe; exact heo
  · exact ⟨u, k b u hbe q⟩
theorem Un.mono (u : Un fs ex H H1 h h1) (hs : ∀ b ∈ fs, b ∈ fs') (hx : ∀ b ∈ ex, b ∈ ex') : Un fs' ex' H H1 h h1 :=
  ⟨fun b ob q n hb he => u.keep b ob q n (fun z => hb (hs b z)) fun z => he (hx b z), fun _ _ q n _ he => u.any q n fun z => he (hx _ z), fun b ob q n he => u.free b ob q n fun z => he (hx b z), fun b ob q he => u.there b ob q fun z => he (hx b z), u.tups, u.frzs, u.tbls⟩
end
def trk (h : Heap) (H : Hp) : List Addr := (List.range h.objs.size).filter fun a => (H a).isSome
def hidT (h : Heap) (H : Hp) : Heap := PySem.W.hideAll h (trk h H)
theorem hidT_size (h : Heap) (H : Hp) : (hidT h H).objs.size = h.objs.size := PySem.W.hideAll_size _ _
theorem hidT_get {h : Heap} {H : Hp} {b : Addr} {o : Obj} (e : h.get? b = some o) (n : H b = none) : (hidT h H).get? b = some o :=
  PySem.W.hideAll_get _ e fun hm => by
    have q : (H b).isSome = true := (List.mem_filter.mp hm).2
    rw [n] at q; simp at q
theorem of_hidT {h : Heap} {H : Hp} {b : Addr} {o : Obj} (e : (hidT h H).get? b = some o) : h.get? b = some o ∧ H b = none := by
  have e' : h.get? b = some o := PySem.W.of_hideAll (trk h H) e
  refine ⟨e', ?_⟩
  cases q : H b with
  | none => rfl
  | some x =>
    have hm : b ∈ trk h H := List.mem_filter.mpr ⟨List.mem_range.mpr (Heap.lt_size e'), by simp [q]⟩
    have z : (hidT h H).get? b = none := PySem.W.hideAll_none (trk h H) hm
    rw [z] at e; cases e
def allNews (g h : Heap) (L : Addr) : List (Addr × Obj) := (List.range h.objs.size).filterMap fun a => if a = L ∨ (g.get? a).isSome = true then none else (h.get? a).map fun o => (a, o)
def rest (g h : Heap) (L d : Addr) : List (Addr × Obj) := (allNews g h L).filter fun p => decide (p.1 ≠ d)
end L2
namespace L2
open PySem PySem.Spec PyProof.Rows
structure Mod (K : PySem.W.Frag) (mg : Str → Option Value) (base : Heap) : Prop where
  kin : K.In base
  glob : base.Ns mainGlobals mg
  blt : ∃ mb, base.Ns builtinsNs mb ∧ ∀ x : Str, x ≠ "__name__" → mb x = bootBuiltins x
  nolimit : base.NoLimit
structure Cx where
  prog : Program
  w : World
  K : PySem.W.Frag
  mg : Str → Option Value
  base : Heap
  A : Around
  N : List Str
  s₀ : Shared
  H₀ : Hp
  env : Env
  outer : List Env
  stack : List Env
  ex : List Addr
  fn : Str → Bool
  calm : Bool
  pn : List (Addr × Obj)
  xe : Value → Shared → Prop
def frs (l : List Env) : List Addr := l.filterMap (·.frame)
abbrev Cx.fs (X : Cx) : List Addr := frs X.outer
def Vis (sc : Scope) (x : Str) : Prop := sc.names.lookup x = some .local ∨ sc.names.lookup x = some .cell ∨ sc.names.lookup x = some .free
def Loc (sc : Scope) (x : Str) : Prop := sc.names.lookup x = some .local ∨ sc.names.lookup x = some .cell
def Look (env : Env) (h : Heap) (m : Str → Option Value) (x : Str) (u : Value) : Prop :=
  (env.kindOf x = some .local ∧ m x = some u) ∨ ((env.kindOf x = some .cell ∨ env.kindOf x = some .free) ∧ ∃ c, env.cells.lookup x = some c ∧ h.IsCell c (some u))
structure Cx.Ok (X : Cx) : Prop where
  mod : Mod X.K X.mg X.base
  kind : X.env.scope.kind = .function
  glob : X.env.globals = mainGlobals
  blt : X.env.builtins = builtinsNs
  above : X.s₀.heap.objs.size ≤ X.env.locals
  inj : ∀ x y c, X.env.cells.lookup x = some c → X.env.cells.lookup y = some c → x = y
  has : ∀ x, (X.env.kindOf x = some .cell ∨ X.env.kindOf x = some .free) → ∃ c, X.env.cells.lookup x = some c
  cab : ∀ x c, X.fn x = true → X.env.cells.lookup x = some c → X.s₀.heap.objs.size ≤ c
  hd : X.calm = true → X.A.handled = none
  frames : X.A.frames = some X.stack
  stk : X.stack = X.outer ∨ (X.stack = X.env :: X.outer ∧ X.env.frame = some X.env.locals)
  exf : ∀ b ∈ X.ex, b ≠ X.env.locals ∧ ∀ x c, X.env.cells.lookup x = some c → c ≠ b
  bs : ∀ b o, X.base.get? b = some o → X.s₀.heap.get? b = some o ∧ X.H₀ b = none
  bsz : X.base.objs.size ≤ X.s₀.heap.objs.size
  noex : ∀ b o, X.base.get? b = some o → b ∉ X.ex
  exfs : ∀ b ∈ X.ex, b ∉ X.fs
  funs : X.s₀.heap.FunFrames X.base X.outer
  frf : ∀ b ∈ X.fs, X.H₀ b = none
structure Inv (X : Cx) (pins : List (Addr × Obj)) (σ : List (Option V)) (H : Hp) (s : Shared) : Prop where
  ok : X.Ok
  os : s.os = X.s₀.os
  bare : AllBare s.gens
  base : Un X.fs X.ex X.H₀ H X.s₀.heap s.heap
  loc : ∃ m, s.heap.Ns X.env.locals m ∧ ∀ (i : Nat) (x : Str) (v : V), X.N[i]? = some x → σ[i]? = some (some v) → Vis X.env.scope x → ∃ u, RelV v u ∧ Look X.env s.heap m x u
  cell : ∀ x c, X.env.cells.lookup x = some c → ∃ v, s.heap.IsCell c v
  free : H X.env.locals = none
  freeC : ∀ x c, X.env.cells.lookup x = some c → H c = none
  pin : ∀ p ∈ X.pn ++ pins, s.heap.get? p.1 = some p.2 ∧ H p.1 = none ∧ p.1 ≠ X.env.locals ∧ p.1 ∉ X.fs ∧ ∀ v, p.2.data ≠ .cell v
  hok : HOk X.prog X.w H s.heap
  len : σ.length = X.N.length
section
variable {X : Cx} {pins : List (Addr × Obj)} {σ : List (Option V)} {H H' : Hp} {s : Shared} {h' : Heap}
theorem Cx.Ok.nofr (ok : X.Ok) {b : Addr} {o : Obj} (e : X.base.get? b = some o) : b ∉ X.fs := fun hb => by
  have := (ok.funs.mem hb).1
  rw [e] at this; cases this
theorem Inv.bs (I : Inv X pins σ H s) : ∀ b o, X.base.get? b = some o → s.heap.get? b = some o ∧ H b = none := fun b o e =>
  ⟨I.base.keep b o (I.ok.bs b o e).1 (I.ok.bs b o e).2 (I.ok.nofr e) (I.ok.noex b o e), I.base.free b o (I.ok.bs b o e).1 (I.ok.bs b o e).2 (I.ok.noex b o e)⟩
theorem Inv.bk (I : Inv X pins σ H s) : ∀ b o, X.base.get? b = some o → s.heap.get? b = some o := fun b o e => (I.bs b o e).1
theorem Inv.mod (I : Inv X pins σ H s) : Mod X.K X.mg X.base := I.ok.mod
theorem Inv.kIn (I : Inv X pins σ H s) : X.K.In s.heap := I.ok.mod.kin.keeps I.bk
theorem Inv.nolimit (I : Inv X pins σ H s) : s.heap.NoLimit := I.ok.mod.nolimit.keeps I.bk
theorem Inv.lt (I : Inv X pins σ H s) : X.env.locals < s.heap.objs.size := let ⟨_, hn, _⟩ := I.loc; hn.lt
theorem Inv.sz (I : Inv X pins σ H s) : X.s₀.heap.objs.size ≤ s.heap.objs.size := Nat.le_trans I.ok.above (Nat.le_of_lt I.lt)
theorem Inv.nofs (I : Inv X pins σ H s) {a : Addr} (h : s.heap.objs.size ≤ a) : a ∉ X.fs := fun hb => by
  obtain ⟨_, o, ho, _⟩ := I.ok.funs.mem hb
  exact absurd (Nat.lt_of_lt_of_le (Heap.lt_size ho) (Nat.le_trans I.sz h)) (Nat.lt_irrefl _)
theorem Inv.cne (I : Inv X pins σ H s) : ∀ x c, X.env.cells.lookup x = some c → c ≠ X.env.locals := fun x c e z => by
  obtain ⟨v, o, ho, hd⟩ := I.cell x c e
  obtain ⟨m, ⟨o', es, ep, ho', hd', _⟩, _⟩ := I.loc
  rw [z, ho'] at ho; cases ho; rw [hd'] at hd; cases hd
theorem Inv.funs (I : Inv X pins σ H s) : s.heap.FunFrames X.base X.outer := by
  have all : ∀ (l : List Env), (∀ b ∈ frs l, b ∈ X.fs) → X.s₀.heap.FunFrames X.base l → s.heap.FunFrames X.base l := by
    intro l
    induction l with
    | nil => intro _ _; trivial
    | cons env r ih =>
      intro hs hl
      obtain ⟨hk, ⟨L, o, hf, hn, ho, hd⟩, hr⟩ := hl
      have hL : L ∈ X.fs := hs L (by unfold frs; rw [List.filterMap_cons, hf]; exact List.mem_cons_self)
      obtain ⟨sl, e⟩ := I.base.slot L o ho (I.ok.frf L hL) hL fun z => I.ok.exfs L z hL
      exact ⟨hk, ⟨L, _, hf, hn, e, hd⟩, ih (fun b hb => hs b (by unfold frs; rw [List.filterMap_cons, hf]; exact List.mem_cons_of_mem _ hb)) hr⟩
  exact all X.outer (fun _ hb => hb) I.ok.funs
theorem Inv.stack (I : Inv X pins σ H s) : s.heap.FunFrames X.base X.stack := by
  rcases I.ok.stk with e | ⟨e, hf⟩
  · rw [e]; exact I.funs
  · rw [e]
    obtain ⟨m, hn, _⟩ := I.loc
    refine .cons (by rw [I.ok.kind]; decide) hf hn ?_ I.funs
    exact Heap.get?_none_of_le (Nat.le_trans I.ok.bsz I.ok.above)
theorem Inv.stkSub (I : Inv X pins σ H s) : ∀ b ∈ frs X.stack, b ∈ X.env.locals :: X.fs := fun b hb => by
  rcases I.ok.stk with e | ⟨e, hf⟩
  · rw [e] at hb; exact List.mem_cons_of_mem _ hb
  · rw [e] at hb
    unfold frs at hb
    rw [List.filterMap_cons, hf] at hb
    exact hb
theorem Inv.stkFree (I : Inv X pins σ H s) : ∀ b ∈ frs X.stack, H b = none := fun b hb => by
  rcases List.mem_cons.mp (I.stkSub b hb) with e | hb
  · rw [e]; exact I.free
  · obtain ⟨_, o, ho, _⟩ := I.ok.funs.mem hb
    exact I.base.free b o ho (I.ok.frf b hb) fun z => I.ok.exfs b z hb
theorem Inv.step {g' : Array GenState} {t' : Nat} {d' : Drawn} {ch : List Addr} (I : Inv X pins σ H s)
    (hch : ∀ b ∈ ch, (b ∈ X.ex ∨ X.s₀.heap.objs.size ≤ b) ∧ b ≠ X.env.locals ∧ (∀ x c, X.env.cells.lookup x = some c → c ≠ b) ∧ ∀ p ∈ X.pn ++ pins, p.1 ≠ b)
    (keep : ∀ b o, b ≠ X.env.locals → b ∉ X.fs → b ∉ ch → s.heap.get? b = some o → H b = none → h'.get? b = some o)
    (slot : ∀ b o, b ≠ X.env.locals → b ∈ X.fs → b ∉ ch → s.heap.get? b = some o → H b = none → ∃ sl, h'.get? b = some { o with slots := sl }) (free : ∀ b o, b ∉ ch → s.heap.get? b = some o → H b = none → H' b = none)
    (there : ∀ b o, b ∉ ch → s.heap.get? b = some o → ∃ o', h'.get? b = some o')
    (tups : ∀ b xs, H b = some (.tup xs) → H' b = some (.tup xs)) (frzs : ∀ b o u, H b = some (.frz o u) → H' b = some (.frz o u)) (tbls : ∀ b ps, H b = some (.tbl ps) → ∃ more, H' b = some (.tbl (ps ++ more)))
    (ns : ∀ m, s.heap.Ns X.env.locals m → h'.Ns X.env.locals m) (hok : HOk X.prog X.w H' h') (hg : AllBare g') :
    Inv X pins σ H' { s with heap := h', gens := g', drawn := d', toks := t' } := by
  have neL : ∀ b o, X.s₀.heap.get? b = some o → b ≠ X.env.locals := fun b o e => Nat.ne_of_lt (Nat.lt_of_lt_of_le (Heap.lt_size e) I.ok.above)
  have neC : ∀ b o, X.s₀.heap.get? b = some o → b ∉ X.ex → b ∉ ch := fun b o e hx hb => by
    rcases (hch b hb).1 with z | z
    · exact hx z
    · exact absurd (Nat.lt_of_lt_of_le (Heap.lt_size e) z) (Nat.lt_irrefl _)
  have cellK : ∀ x c, X.env.cells.lookup x = some c → ∀ v, s.heap.IsCell c v → h'.IsCell c v := fun x c e v ⟨o, ho, hd⟩ => by
    have nch : c ∉ ch := fun z => (hch c z).2.2.1 x c e rfl
    by_cases hc : c ∈ X.fs
    · obtain ⟨sl, q⟩ := slot c o (I.cne x c e) hc nch ho (I.freeC x c e)
      exact ⟨_, q, hd⟩
    · exact ⟨o, keep c o (I.cne x c e) hc nch ho (I.freeC x c e), hd⟩
  refine ⟨I.ok, I.os, hg, ⟨fun b o e n hb hx => ?_, fun b o e n hb hx => ?_, fun b o e n hx => ?_, fun b o e hx => ?_, fun b xs e => tups b xs (I.base.tups b xs e), fun b o xs e => frzs b o xs (I.base.frzs b o xs e), fun b ps e => ?_⟩, ?_, fun x c e => ?_, ?_, fun x c e => ?_, fun p hp => ?_, hok, I.len⟩
  · exact keep b o (neL b o e) hb (neC b o e hx) (I.base.keep b o e n hb hx) (I.base.free b o e n hx)
  · obtain ⟨sl, e1⟩ := I.base.slot b o e n hb hx
    obtain ⟨sl', e2⟩ := slot b _ (neL b o e) hb (neC b o e hx) e1 (I.base.free b o e n hx)
    exact ⟨sl', e2⟩
  · obtain ⟨o', e1⟩ := I.base.there b o e hx
    exact free b o' (neC b o e hx) e1 (I.base.free b o e n hx)
  · obtain ⟨o', e1⟩ := I.base.there b o e hx
    exact there b o' (neC b o e hx) e1
  · obtain ⟨m1, e1⟩ := I.base.tbls b ps e
    obtain ⟨m2, e2⟩ := tbls b _ e1
    exact ⟨m1 ++ m2, by rw [e2, Array.append_assoc]⟩
  · obtain ⟨m, hn, hl⟩ := I.loc
    refine ⟨m, ns m hn, fun i x v e1 e2 e3 => ?_⟩
    obtain ⟨u, r, l⟩ := hl i x v e1 e2 e3
    refine ⟨u, r, ?_⟩
    rcases l with l | ⟨k, c, e, z⟩
    · exact .inl l
    · exact .inr ⟨k, c, e, cellK x c e _ z⟩
  · obtain ⟨v, z⟩ := I.cell x c e
    exact ⟨v, cellK x c e v z⟩
  · obtain ⟨m, ⟨o, _, _, ho, _⟩, _⟩ := I.loc
    exact free _ o (fun z => (hch _ z).2.1 rfl) ho I.free
  · obtain ⟨v, o, ho, hd⟩ := I.cell x c e
    exact free c o (fun z => (hch c z).2.2.1 x c e rfl) ho (I.freeC x c e)
  · obtain ⟨e, n, ne, nf, d⟩ := I.pin p hp
    have nch : p.1 ∉ ch := fun z => (hch p.1 z).2.2.2 p hp rfl
    exact ⟨keep p.1 p.2 ne nf nch e n, free p.1 p.2 nch e n, ne, nf, d⟩
theorem Inv.un {t' : Nat} (I : Inv X pins σ H s) (u : Un X.fs [] H H' s.heap h') (hok : HOk X.prog X.w H' h') : Inv X pins σ H' { s with heap := h', toks := t' } := by
  obtain ⟨m, ⟨o, es, ep, ho, r⟩, _⟩ := id I.loc
  obtain ⟨sl, hL⟩ := u.any ho I.free (by simp)
  exact I.step (g' := s.gens) (d' := s.drawn) (ch := []) (fun _ z => nomatch z) (fun b o _ hb _ e n => u.keep b o e n hb (by simp)) (fun b o _ hb _ e n => u.slot b o e n hb (by simp)) (fun b o _ e n => u.free b o e n (by simp)) (fun b o _ e => u.there b o e (by simp)) u.tups u.frzs u.tbls (fun m' hm => by
    obtain ⟨o', es', ep', ho', r'⟩ := hm
    rw [ho] at ho'; cases ho'
    exact ⟨_, es', ep', hL, r'⟩) hok I.bare
theorem Inv.call {g' : Array GenState} {t' : Nat} {d' : Drawn} {ch : List Addr} (I : Inv X pins σ H s) (u : Un (frs X.stack) ch H H' s.heap h') (hok : HOk X.prog X.w H' h') (hg : AllBare g')
    (hch : ∀ b ∈ ch, (b ∈ X.ex ∨ X.s₀.heap.objs.size ≤ b) ∧ b ≠ X.env.locals ∧ (∀ x c, X.env.cells.lookup x = some c → c ≠ b) ∧ ∀ p ∈ X.pn ++ pins, p.1 ≠ b) :
    Inv X pins σ H' { s with heap := h', gens := g', drawn := d', toks := t' } := by
  obtain ⟨m, ⟨o, es, ep, ho, r⟩, _⟩ := id I.loc
  obtain ⟨sl, hL⟩ := u.any ho I.free fun z => (hch _ z).2.1 rfl
  exact I.step (ch := ch) hch (fun b o hL hb hc e n => u.keep b o e n (fun z => (List.mem_cons.mp (I.stkSub b z)).elim hL hb) hc) (fun b o _ _ hc e n => u.any e n hc) (fun b o hc e n => u.free b o e n hc) (fun b o hc e => u.there b o e hc) u.tups u.frzs u.tbls (fun m' hm => by
    obtain ⟨o', es', ep', ho', r'⟩ := hm
    rw [ho] at ho'; cases ho'
    exact ⟨_, es', ep', hL, r'⟩) hok hg
theorem Inv.turned {t' : Nat} {it : Addr} (I : Inv X pins σ H s) (k : ∀ b o, b ≠ it → s.heap.get? b = some o → h'.get? b = some o) (hn : H it = none) (hL : it ≠ X.env.locals)
    (h1 : it ∈ X.ex ∨ X.s₀.heap.objs.size ≤ it) (h2 : ∀ x c, X.env.cells.lookup x = some c → c ≠ it) (h3 : ∀ p ∈ X.pn ++ pins, p.1 ≠ it) : Inv X pins σ H { s with heap := h', toks := t' } := by
  have nit : ∀ b u, H b = some u → b ≠ it := fun b u e z => by rw [z, hn] at e; cases e
  refine I.step (g' := s.gens) (d' := s.drawn) (ch := [it]) (fun b hb => ?_) (fun b o _ _ hc e _ => k b o (fun z => hc (by simp [z])) e) (fun b o _ _ hc e _ => ⟨o.slots, k b o (fun z => hc (by simp [z])) e⟩) (fun _ _ _ _ n => n)
    (fun b o hc e => ⟨o, k b o (fun z => hc (by simp [z])) e⟩) (fun _ _ e => e) (fun _ _ _ e => e) (fun b ps e => ⟨#[], by rw [e]; simp⟩) (fun m hm => ?_) (fun b u e => ?_) I.bare
  · have e : b = it := by simpa using hb
    subst e
    exact ⟨h1, hL, h2, h3⟩
  · obtain ⟨o, es, ep, ho, r⟩ := hm
    exact ⟨o, es, ep, k _ o (Ne.symm hL) ho, r⟩
  · refine (I.hok b u e).stay (fun c v hc q => k c v ?_ q) (fun _ q => q) fun _ _ q => q
    rcases hc with z | z
    · rw [z]; exact nit b u e
    · exact nit c _ z
theorem Inv.tok (I : Inv X pins σ H s) (t : Nat) : Inv X pins σ H { s with toks := t } := I.un (h' := s.heap) (t' := t) Un.refl I.hok
theorem Inv.kept {t' : Nat} (I : Inv X pins σ H s) (k : ∀ b u, s.heap.get? b = some u → h'.get? b = some u) : Inv X pins σ H { s with heap := h', toks := t' } := I.un (Un.kept k) (I.hok.kept k)
theorem Inv.laid {a : Addr} {o : HO} {t' : Nat} (I : Inv X pins σ H s) (k : ∀ b u, s.heap.get? b = some u → h'.get? b = some u) (hp : s.heap.objs.size ≤ a) (new : ObjOk X.prog X.w (upd H a o) h' a o) :
    Inv X pins σ (upd H a o) { s with heap := h', toks := t' } := I.un (Un.laid k hp (I.hok.fresh hp)) (I.hok.laid k hp new)
theorem Inv.write {x e : Addr} {o : HO} {t' : Nat} (I : Inv X pins σ H s) (mu : Mut (H x)) (he : e = x ∨ H e = some (.own x)) (k : ∀ b u, b ≠ e → s.heap.get? b = some u → h'.get? b = some u) (heo : ∃ u, h'.get? e = some u)
    (new : ObjOk X.prog X.w (upd H x o) h' x o) : Inv X pins σ (upd H x o) { s with heap := h', toks := t' } := I.un (Un.write mu he k heo) (I.hok.write mu he k heo new)
theorem Inv.pins_of {pins' : List (Addr × Obj)} (I : Inv X pins σ H s) (h : ∀ p ∈ pins', s.heap.get? p.1 = some p.2 ∧ H p.1 = none ∧ p.1 ≠ X.env.locals ∧ p.1 ∉ X.fs ∧ ∀ v, p.2.data ≠ .cell v) : Inv X pins' σ H s :=
  ⟨I.ok, I.os, I.bare, I.base, I.loc, I.cell, I.free, I.freeC, fun p hp => (List.mem_append.mp hp).elim (fun z => I.pin p (List.mem_append_left _ z)) (h p), I.hok, I.len⟩
theorem nodup_ix {N : List Str} (hN : N.Nodup) {i j : Nat} {x : Str} (a : N[i]? = some x) (b : N[j]? = some x) : i = j := by
  obtain ⟨h1, e1⟩ := List.getElem?_eq_some_iff.mp a
  obtain ⟨h2, e2⟩ := List.getElem?_eq_some_iff.mp b
  exact (List.getElem_inj hN).mp (e1.trans e2.symm)
theorem store_ok2 {M : Model} {A : Around} {E : Value → Shared → Prop} {i : Nat} {x : Str} {v : V} {u : Value} {Q : Unit → Shared → Prop} (I : Inv X pins σ H s) (hN : X.N.Nodup) (hi : X.N[i]? = some x) (hx : Loc X.env.scope x) (r : RelV v u)
    (h : ∀ s', Inv X pins (σ.set i (some v)) H s' → (∃ a, Heap.SameBut a s.heap s'.heap ∧ (a = X.env.locals ∨ X.env.cells.lookup x = some a)) → Q () s') (hf : X.fn x = true ∨ X.env.scope.names.lookup x = some .local := by first | exact .inl rfl | exact .inr rfl | assumption) : wpAny M A (storeName X.env x u) Q E s := by
  obtain ⟨m, hn, hl⟩ := id I.loc
  have hcls : (X.env.scope.kind == .class || (X.env.scope.kind == .module && X.env.locals != X.env.globals)) = false := by rw [I.ok.kind]; rfl
  have hiσ : i < σ.length := by rw [I.len]; exact (List.getElem?_eq_some_iff.mp hi).1
  have cne := I.cne
  have tracked : ∀ {a : Addr} {h' : Heap}, (∃ o, s.heap.get? a = some o ∧ H a = none) → Heap.SameBut a s.heap h' → HOk X.prog X.w H h' := fun {a h'} ha hs b ob e => by
    obtain ⟨_, _, hfree⟩ := ha
    refine (I.hok b ob e).stay (fun c w' hc q => (hs.2 c ?_).trans q) (fun _ q => q) fun _ _ q => q
    rintro rfl
    rcases hc with rfl | hc
    · rw [hfree] at e; cases e
    · rw [hfree] at hc; cases hc
  rcases hx with hk | hk
  · refine wpAny_storeName_local hk hn (fun h' hn' hs => ?_) hcls
    obtain ⟨oL, _, _, hoL, _⟩ := id hn
    refine h _ ⟨I.ok, I.os, I.bare, ⟨fun b o e n hb hx => ?_, fun b o e n hb hx => ?_, I.base.free, fun b o e hx => ?_, I.base.tups, I.base.frzs, I.base.tbls⟩, ⟨_, hn', fun j y v' e1 e2 e3 => ?_⟩, fun y c e => ?_, I.free, I.freeC, fun p hp => ?_, tracked ⟨oL, hoL, I.free⟩ hs, by simpa using I.len⟩ ⟨_, hs, .inl rfl⟩
    · exact (hs.2 b (Nat.ne_of_lt (Nat.lt_of_lt_of_le (Heap.lt_size e) I.ok.above))).trans (I.base.keep b o e n hb hx)
    · obtain ⟨sl, e1⟩ := I.base.slot b o e n hb hx
      exact ⟨sl, (hs.2 b (Nat.ne_of_lt (Nat.lt_of_lt_of_le (Heap.lt_size e) I.ok.above))).trans e1⟩
    · obtain ⟨o', e1⟩ := I.base.there b o e hx
      exact ⟨o', (hs.2 b (Nat.ne_of_lt (Nat.lt_of_lt_of_le (Heap.lt_size e) I.ok.above))).trans e1⟩
    · by_cases hj : j = i
      · subst hj
        rw [hi] at e1; cases e1
        rw [List.getElem?_set_self hiσ] at e2
        cases e2
        exact ⟨u, r, .inl ⟨hk, by simp⟩⟩
      · rw [List.getElem?_set_ne (Ne.symm hj)] at e2
        obtain ⟨u', r', q⟩ := hl j y v' e1 e2 e3
        refine ⟨u', r', ?_⟩
        rcases q with ⟨k, e⟩ | ⟨k, c, e, z⟩
        · refine .inl ⟨k, ?_⟩
          have : y ≠ x := fun e => hj (nodup_ix hN e1 (e ▸ hi))
          simp [this, e]
        · exact .inr ⟨k, c, e, z.sameBut hs (cne y c e)⟩
    · obtain ⟨w', z⟩ := I.cell y c e
      exact ⟨w', z.sameBut hs (cne y c e)⟩
    · obtain ⟨e, n, ne, nf, d⟩ := I.pin p hp
      exact ⟨(hs.2 p.1 ne).trans e, n, ne, nf, d⟩
  · have hfn : X.fn x = true := by
      rcases hf with z | z
      · exact z
      · rw [z] at hk; cases hk
    obtain ⟨c, hc⟩ := I.ok.has x (.inl hk)
    obtain ⟨w', z⟩ := I.cell x c hc
    refine wpAny_storeName_cell I.ok.kind hk hc z (fun h' hc' hs => ?_)
    obtain ⟨oc, hoc, hocd⟩ := id z
    refine h { s with heap := h' } ⟨I.ok, I.os, I.bare, ⟨fun b o e n hb hx => ?_, fun b o e n hb hx => ?_, I.base.free, fun b o e hx => ?_, I.base.tups, I.base.frzs, I.base.tbls⟩, ⟨m, hn.sameBut hs (Ne.symm (cne x c hc)), fun j y v' e1 e2 e3 => ?_⟩, fun y c' e => ?_, I.free, I.freeC, fun p hp => ?_, tracked ⟨oc, hoc, I.freeC x c hc⟩ hs, by simpa using I.len⟩ ⟨c, hs, .inr hc⟩
    · exact (hs.2 b (Nat.ne_of_lt (Nat.lt_of_lt_of_le (Heap.lt_size e) (I.ok.cab x c hfn hc)))).trans (I.base.keep b o e n hb hx)
    · obtain ⟨sl, e1⟩ := I.base.slot b o e n hb hx
      exact ⟨sl, (hs.2 b (Nat.ne_of_lt (Nat.lt_of_lt_of_le (Heap.lt_size e) (I.ok.cab x c hfn hc)))).trans e1⟩
    · obtain ⟨o', e1⟩ := I.base.there b o e hx
      exact ⟨o', (hs.2 b (Nat.ne_of_lt (Nat.lt_of_lt_of_le (Heap.lt_size e) (I.ok.cab x c hfn hc)))).trans e1⟩
    · by_cases hj : j = i
      · subst hj
        rw [hi] at e1; cases e1
        rw [List.getElem?_set_self hiσ] at e2
        cases e2
        exact ⟨u, r, .inr ⟨.inl hk, c, hc, hc'⟩⟩
      · rw [List.getElem?_set_ne (Ne.symm hj)] at e2
        obtain ⟨u', r', q⟩ := hl j y v' e1 e2 e3
        refine ⟨u', r', ?_⟩
        rcases q with q | ⟨k, c', e, z'⟩
        · exact .inl q
        · refine .inr ⟨k, c', e, z'.sameBut hs ?_⟩
          rintro rfl
          exact hj (nodup_ix hN e1 (I.ok.inj _ _ _ e hc ▸ hi))
    · by_cases hcc : c' = c
      · subst hcc; exact ⟨_, hc'⟩
      · obtain ⟨w2, z2⟩ := I.cell y c' e
        exact ⟨w2, z2.sameBut hs hcc⟩
    · obtain ⟨e, n, ne, nf, d⟩ := I.pin p hp
      refine ⟨(hs.2 p.1 ?_).trans e, n, ne, nf, d⟩
      intro q
      rw [q, hoc] at e
      have q' : oc = p.2 := Option.some.inj e
      exact d w' (by rw [← q']; exact hocd)
theorem store_ok {M : Model} {A : Around} {E : Value → Shared → Prop} {i : Nat} {x : Str} {v : V} {u : Value} {Q : Unit → Shared → Prop} (I : Inv X pins σ H s) (hN : X.N.Nodup) (hi : X.N[i]? = some x) (hx : Loc X.env.scope x) (r : RelV v u)
    (h : ∀ s', Inv X pins (σ.set i (some v)) H s' → Q () s') (hf : X.fn x = true ∨ X.env.scope.names.lookup x = some .local := by first | exact .inl rfl | exact .inr rfl | assumption) : wpAny M A (storeName X.env x u) Q E s :=
  store_ok2 I hN hi hx r (fun s' I' _ => h s' I') hf
theorem Inv.call' {s' : Shared} {ch : List Addr} (I : Inv X pins σ H s) (ho : s'.os = s.os) (u : Un (frs X.stack) ch H H' s.heap s'.heap) (hok : HOk X.prog X.w H' s'.heap) (hg : AllBare s'.gens)
    (hch : ∀ b ∈ ch, (b ∈ X.ex ∨ X.s₀.heap.objs.size ≤ b) ∧ b ≠ X.env.locals ∧ (∀ x c, X.env.cells.lookup x = some c → c ≠ b) ∧ ∀ p ∈ X.pn ++ pins, p.1 ≠ b) : Inv X pins σ H' s' := by
  obtain ⟨h', g', d', t', o'⟩ := s'
  have e : o' = s.os := ho
  subst e
  exact I.call (g' := g') (t' := t') (d' := d') u hok hg hch
end
abbrev XK := Value → Option Addr → Hp → Prop
abbrev St := List (Option V)
abbrev VK := V → Hp → Prop
abbrev TE := St → Hp → VK → Prop
abbrev TT := St → Hp → (Bool → Hp → Prop) → Prop
abbrev TA := St → Hp → (List V → Hp → Prop) → Prop
structure Ends where
  nx : St → Hp → Prop
  rt : VK
  bk : St → Hp → Prop := fun _ _ => False
  ct : St → Hp → Prop := fun _ _ => False
abbrev TS := Ends → St → Hp → Prop
def EP (X : Cx) (pins : List (Addr × Obj)) (σ : St) (Q : VK) (u : Value) (s' : Shared) : Prop := ∃ v H', Inv X pins σ H' s' ∧ RelV v u ∧ Q v H'
def TP (X : Cx) (pins : List (Addr × Obj)) (σ : St) (Q : Bool → Hp → Prop) (b : Bool) (s' : Shared) : Prop := ∃ H', Inv X pins σ H' s' ∧ Q b H'
def AP (X : Cx) (pins : List (Addr × Obj)) (σ : St) (Q : List V → Hp → Prop) (us : List Value) (s' : Shared) : Prop := ∃ vs H', Inv X pins σ H' s' ∧ Vals vs us ∧ Q vs H'
def SP (X : Cx) (pins : List (Addr × Obj)) (D : Ends) (f : Flow) (s' : Shared) : Prop :=
  match f with
  | .next => ∃ σ' H', Inv X pins σ' H' s' ∧ D.nx σ' H'
  | .brk => ∃ σ' H', Inv X pins σ' H' s' ∧ D.bk σ' H'
  | .cont => ∃ σ' H', Inv X pins σ' H' s' ∧ D.ct σ' H'
  | .ret u => ∃ v σ' H', Inv X pins σ' H' s' ∧ RelV v u ∧ D.rt v H'
def PE (X : Cx) (e : Expr) (t : TE) : Prop :=
  ∀ (pins : List (Addr × Obj)) (s : Shared) (σ : St) (H : Hp) (Q : VK), Inv X pins σ H s → t σ H Q → wpAny (model X.prog X.w) X.A (eval e X.env) (EP X pins σ Q) X.xe s
def PT (X : Cx) (e : Expr) (t : TT) : Prop :=
  ∀ (pins : List (Addr × Obj)) (s : Shared) (σ : St) (H : Hp) (Q : Bool → Hp → Prop), Inv X pins σ H s → t σ H Q → wpAny (model X.prog X.w) X.A (isTrue e X.env (eval e X.env)) (TP X pins σ Q) X.xe s
def PW (X : Cx) (e : Expr) (t : TT) : Prop :=
  ∀ (whole : Sem Value) (pins : List (Addr × Obj)) (s : Shared) (σ : St) (H : Hp) (Q : Bool → Hp → Prop), Inv X pins σ H s → t σ H Q → wpAny (model X.prog X.w) X.A (isTrue e X.env whole) (TP X pins σ Q) X.xe s
theorem PW.pt {X : Cx} {e : Expr} {t : TT} (h : PW X e t) : PT X e t := h _
def PA (X : Cx) (es : List Expr) (t : TA) : Prop :=
  ∀ (pos : Pos) (pins : List (Addr × Obj)) (s : Shared) (σ : St) (H : Hp) (Q : List V → Hp → Prop), Inv X pins σ H s → t σ H Q → wpAny (model X.prog X.w) X.A (spliced (backTo pos (starEach es X.env))) (AP X pins σ Q) X.xe s
def PS (X : Cx) (st : Stmt) (t : TS) : Prop :=
  ∀ (pins : List (Addr × Obj)) (s : Shared) (σ : St) (H : Hp) (D : Ends), Inv X pins σ H s → t D σ H → wpAny (model X.prog X.w) X.A (exec st X.env) (SP X pins D) X.xe s
def PSs (X : Cx) (st : List Stmt) (t : TS) : Prop :=
  ∀ (pins : List (Addr × Obj)) (s : Shared) (σ : St) (H : Hp) (D : Ends), Inv X pins σ H s → t D σ H → wpAny (model X.prog X.w) X.A (execs st X.env) (SP X pins D) X.xe s
theorem thn {α : Type} {t : Sem α} {Q Q' : α → Shared → Prop} {M : Model} {A : Around} {E : Value → Shared → Prop} {s : Shared} (h : wpAny M A t Q E s) (hQ : ∀ a s, Q a s → Q' a s) : wpAny M A t Q' E s := wpAny_mono h hQ fun _ _ x => x
end L2
namespace L2
open PySem PySem.Spec PyProof.Rows
section
variable {X : Cx}
def tVar (i : Nat) : TE := fun σ H Q => ∃ v, σ[i]? = some (some v) ∧ Q v H
def tC (v : V) : TE := fun _ H Q => Q v H
theorem pe_var {i : Nat} {x : Str} {pos : Pos} (hN : X.N[i]? = some x) (hv : Vis X.env.scope x) (hd : (x == ("__debug__" : Str)) = false := by decide) (hcd : (x == ("__classdict__" : Str)) = false := by decide) : PE X (.Name x pos) (tVar i) := by
  intro pins s σ H Q I h
  obtain ⟨v, e, h⟩ := h
  obtain ⟨m, hn, hl⟩ := I.loc
  obtain ⟨u, r, l⟩ := hl i x v hN e hv
  have fin : EP X pins σ Q u s := ⟨v, H, I, r, h⟩
  rcases l with ⟨hk, hm⟩ | ⟨hk, c, hc, hcell⟩
  · exact wpAny_Name (wpAny_loadName_local I.ok.kind hk hn hm fin) hd
  · rcases hk with hk | hk
    · exact wpAny_Name (wpAny_loadName_cell I.ok.kind hk hc hcell fin) hd
    · exact wpAny_Name (wpAny_loadName_free I.ok.kind hk hc hcell fin hcd) hd
theorem pe_int {i j pos} : PE X (.Constant (.int i) j pos) (tC (.int i)) := fun _ _ _ H _ I h => wpAny_Constant_int ⟨.int i, H, I.tok _, ⟨_, rfl⟩, h⟩
theorem pe_bl {b j pos} : PE X (.Constant (.bool b) j pos) (tC (.bl b)) := fun _ _ _ H _ I h => Constant_bool ⟨.bl b, H, I, rfl, h⟩
theorem pe_non {j pos} : PE X (.Constant .none j pos) (tC .non) := fun _ _ _ H _ I h => Constant_none ⟨.non, H, I, rfl, h⟩
theorem pe_str {x j pos} : PE X (.Constant (.str x) j pos) (tC (.str x)) := fun _ _ _ H _ I h => Calls.Constant_str ⟨.str x, H, I.tok _, ⟨_, rfl⟩, h⟩
def Gl (X : Cx) (x : Str) : Prop := X.env.kindOf x = some .globalImplicit
theorem ld_glob {E : Value → Shared → Prop} {pins : List (Addr × Obj)} {s : Shared} {σ : St} {H : Hp} {x : Str} {u : Value} {pos : Pos} {Q : Value → Shared → Prop} (I : Inv X pins σ H s) (hg : Gl X x) (hm : X.mg x = some u) (h : Q u s)
    (hd : (x == ("__debug__" : Str)) = false := by decide) : wpAny (model X.prog X.w) X.A (eval (.Name x pos) X.env) Q E s :=
  Calls.Name_function_global I.ok.kind hg (Calls.loadGlobal_global (by rw [I.ok.glob]; exact I.mod.glob.keeps I.bk) hm h) hd
theorem ld_blt {E : Value → Shared → Prop} {pins : List (Addr × Obj)} {s : Shared} {σ : St} {H : Hp} {x : Str} {u : Value} {pos : Pos} {Q : Value → Shared → Prop} (I : Inv X pins σ H s) (hg : Gl X x) (hm : X.mg x = none) (hv : bootBuiltins x = some u) (h : Q u s)
    (hn : x ≠ "__name__" := by decide) (hd : (x == ("__debug__" : Str)) = false := by decide) : wpAny (model X.prog X.w) X.A (eval (.Name x pos) X.env) Q E s := by
  obtain ⟨mb, h1, h2⟩ := I.mod.blt
  exact Calls.Name_function_global I.ok.kind hg (Calls.loadGlobal_builtin (by rw [I.ok.glob]; exact I.mod.glob.keeps I.bk) hm (by rw [I.ok.blt]; exact h1.keeps I.bk) ((h2 x hn).trans hv) h) hd
theorem pe_glob {x : Str} {v : V} {u : Value} {pos : Pos} (hg : Gl X x) (hm : X.mg x = some u) (r : RelV v u) (hd : (x == ("__debug__" : Str)) = false := by decide) : PE X (.Name x pos) (tC v) :=
  fun _ _ _ H _ I h => ld_glob I hg hm ⟨v, H, I, r, h⟩ hd
theorem pe_bltn {x : Str} {v : V} {u : Value} {pos : Pos} (hg : Gl X x) (hm : X.mg x = none) (hv : bootBuiltins x = some u) (r : RelV v u) (hn : x ≠ "__name__" := by decide) (hd : (x == ("__debug__" : Str)) = false := by decide) : PE X (.Name x pos) (tC v) :=
  fun _ _ _ H _ I h => ld_blt I hg hm hv ⟨v, H, I, r, h⟩ hn hd
variable {a b : Expr} {ta tb : TE} {pos : Pos}
def tB (t : TE) : TT := fun σ H Q => t σ H fun x H1 => ∃ c, x = .bl c ∧ Q c H1
theorem pt_val {e : Expr} {t : TE} (h : PE X e t) (he : ∀ whole, isTrue e X.env whole = (do let v ← whole; standAt e.pos; holding [v] (truthy v)) := by intro _; rfl) : PT X e (tB t) := by
  intro pins s σ H Q I hw
  refine isTrue_plain (thn (h pins s σ H _ I hw) fun v s1 ⟨x, H1, I1, r1, q1⟩ => ?_) (he _)
  obtain ⟨d, rfl, q⟩ := q1
  cases r1
  exact wpAny_truthy_bool ⟨H1, I1, q⟩
variable {tA tB' : TT} {rest : List Expr}
def tAnd (t u : TT) : TT := fun σ H Q => t σ H fun c H1 => if c = true then u σ H1 Q else Q false H1
def tOr (t u : TT) : TT := fun σ H Q => t σ H fun c H1 => if c = true then Q true H1 else u σ H1 Q
def tNot (t : TT) : TT := fun σ H Q => t σ H fun c H1 => Q (!c) H1
theorem pw_and1 (ha : PT X a tA) : PW X (.BoolOp .And [a] pos) tA := by
  intro wh pins s σ H Q I h
  refine isTrue_and (thn (ha pins s σ H Q I h) fun c s1 e => ?_)
  cases c with
  | true => exact isTrue_and_nil e
  | false => exact e
theorem pw_or1 (ha : PT X a tA) : PW X (.BoolOp .Or [a] pos) tA := by
  intro wh pins s σ H Q I h
  refine isTrue_or (thn (ha pins s σ H Q I h) fun c s1 e => ?_)
  cases c with
  | false => exact isTrue_or_nil e
  | true => exact e
theorem pw_and (ha : PT X a tA) (hb : PW X (.BoolOp .And (b :: rest) pos) tB') : PW X (.BoolOp .And (a :: b :: rest) pos) (tAnd tA tB') := by
  intro wh pins s σ H Q I h
  refine isTrue_and (thn (ha pins s σ H _ I h) fun c s1 ⟨H1, I1, q1⟩ => ?_)
  cases c with
  | true => exact hb wh pins s1 σ H1 Q I1 q1
  | false => exact ⟨H1, I1, q1⟩
theorem pw_or (ha : PT X a tA) (hb : PW X (.BoolOp .Or (b :: rest) pos) tB') : PW X (.BoolOp .Or (a :: b :: rest) pos) (tOr tA tB') := by
  intro wh pins s σ H Q I h
  refine isTrue_or (thn (ha pins s σ H _ I h) fun c s1 ⟨H1, I1, q1⟩ => ?_)
  cases c with
  | true => exact ⟨H1, I1, q1⟩
  | false => exact hb wh pins s1 σ H1 Q I1 q1
theorem pt_not (ha : PT X a tA) : PT X (.UnaryOp .Not a pos) (tNot tA) := by
  intro pins s σ H Q I h
  exact isTrue_not (ha pins s σ H (fun c H1 => Q (!c) H1) I h)
def tAndV (ta tb : TE) : TE := fun σ H Q => ta σ H fun x H1 => ∃ c, x = .bl c ∧ if c = true then tb σ H1 Q else Q (.bl false) H1
theorem pe_one {op} {t : TE} (h : PE X a t) : PE X (.BoolOp op [a] pos) t := fun pins s σ H Q I hw => BoolOp_one (h pins s σ H Q I hw)
theorem pe_and (ha : PE X a ta) (hb : PE X (.BoolOp .And (b :: rest) pos) tb) : PE X (.BoolOp .And (a :: b :: rest) pos) (tAndV ta tb) := by
  intro pins s σ H Q I h
  refine BoolOp_and (thn (ha pins s σ H _ I h) fun v s1 ⟨x, H1, I1, r1, q1⟩ => ?_)
  obtain ⟨c, rfl, q1⟩ := q1
  cases r1
  refine wpAny_truthy_bool ?_
  cases c with
  | true => exact hb pins s1 σ H1 Q I1 q1
  | false => exact ⟨.bl false, H1, I1, rfl, q1⟩
def tIf (t : TT) (ta tb : TE) : TE := fun σ H Q => t σ H fun c H1 => if c = true then ta σ H1 Q else tb σ H1 Q
theorem pe_ifExp {c : Expr} (hc : PT X c tA) (ha : PE X a ta) (hb : PE X b tb) : PE X (.IfExp c a b pos) (tIf tA ta tb) := by
  intro pins s σ H Q I h
  refine wpAny_IfExp (thn (hc pins s σ H _ I h) fun d s1 ⟨H1, I1, q1⟩ => ?_)
  cases d with
  | true => exact ha pins s1 σ H1 Q I1 q1
  | false => exact hb pins s1 σ H1 Q I1 q1
end
end L2
namespace L2
open PySem PySem.Spec PyProof.Rows
def SqL (K : PySem.W.Frag) (H : Hp) (a : Addr) (xs : List V) : Prop :=
  Rd H a (.lst xs) ∨
    ∃ (o : Obj) (its : Array Value) (n : Nat), K.lookup a = some o ∧ o.cls = .type "list" ∧ o.dict = none ∧ o.data = .seq its n ∧ its.size ≤ sizeLine ∧ Vals xs its.toList
def SqT (K : PySem.W.Frag) (H : Hp) (a : Addr) (xs : List V) : Prop :=
  Rd H a (.tup xs) ∨
    ∃ (o : Obj) (its : Array Value) (n : Nat), K.lookup a = some o ∧ o.cls = .type "tuple" ∧ o.data = .seq its n ∧ its.size ≤ sizeLine ∧ Vals xs its.toList
def absV : Value → Option V
  | .none => some .non
  | .bool b => some (.bl b)
  | .int i _ => some (.int i)
  | .str x _ => some (.str x)
  | .bytes b _ => some (.byt b)
  | .float b _ => some (.flt b)
  | .ref a => some (.ref a)
  | .type n => some (.ty n)
  | _ => none
theorem RelV.abs {x : V} {u : Value} (r : RelV x u) : absV u = some x := by
  cases x with
  | non => cases r; rfl
  | bl _ => cases r; rfl
  | int _ => obtain ⟨t, rfl⟩ := r; rfl
  | str _ => obtain ⟨t, rfl⟩ := r; rfl
  | byt _ => obtain ⟨t, rfl⟩ := r; rfl
  | flt _ => obtain ⟨t, rfl⟩ := r; rfl
  | ref _ => cases r; rfl
  | ty _ => cases r; rfl
theorem RelV.inj {x y : V} {u : Value} (r : RelV x u) (q : RelV y u) : x = y := Option.some.inj (r.abs.symm.trans q.abs)
theorem Vals.inj : ∀ {xs ys : List V} {us : List Value}, Vals xs us → Vals ys us → xs = ys
  | _, _, _, .nil, .nil => rfl
  | _, _, _, .cons r t, .cons r' t' => by rw [r.inj r', Vals.inj t t']
section
variable {X : Cx} {pins : List (Addr × Obj)} {σ : St} {H : Hp} {s : Shared} {a : Addr} {xs ys : List V}
theorem SqL.of {K : PySem.W.Frag} (h : H a = some (.lst xs)) : SqL K H a xs := .inl (.inl h)
theorem SqT.of {K : PySem.W.Frag} (h : H a = some (.tup xs)) : SqT K H a xs := .inl (.inl h)
theorem Inv.list (I : Inv X pins σ H s) (h : SqL X.K H a xs) : ∃ its : List Value, Vals xs its ∧ PlainL s.heap a its.toArray ∧ xs.length ≤ sizeLine := by
  rcases h with h | ⟨o, its, n, hk, hc, hd, hs, hz, r⟩
  · obtain ⟨z, its, n, r, e⟩ := h.ok I.hok
    exact ⟨its, r, ⟨_, n, e, rfl, rfl, rfl⟩, z⟩
  · refine ⟨its.toList, r, ⟨o, n, I.kIn a o hk, hc, hd, by simpa using hs⟩, ?_⟩
    have e := r.length
    simp only [Array.length_toList] at e
    lia
theorem Inv.tuple (I : Inv X pins σ H s) (h : SqT X.K H a xs) : ∃ its : List Value, Vals xs its ∧ IsTup s.heap a its.toArray ∧ xs.length ≤ sizeLine := by
  rcases h with h | ⟨o, its, n, hk, hc, hs, hz, r⟩
  · obtain ⟨z, its, r, p⟩ := h.ok I.hok
    exact ⟨its, r, p, z⟩
  · refine ⟨its.toList, r, ⟨o, I.kIn a o hk, hc, n, by simpa using hs⟩, ?_⟩
    have e := r.length
    simp only [Array.length_toList] at e
    lia
theorem Inv.list_inj (I : Inv X pins σ H s) (h : SqL X.K H a xs) (h' : SqL X.K H a ys) : xs = ys := by
  obtain ⟨its, r, ⟨o, n, e, _, _, d⟩, _⟩ := I.list h
  obtain ⟨its', r', ⟨o', n', e', _, _, d'⟩, _⟩ := I.list h'
  rw [e] at e'; cases e'
  rw [d] at d'
  injection d' with d1 _
  have : its = its' := by simpa using congrArg Array.toList d1
  subst this
  exact r.inj r'
end
abbrev Cx.wish (X : Cx) (E : Value → Shared → Prop) : Cx := { X with xe := E }
abbrev Cx.nox (X : Cx) : Cx := X.wish fun _ _ => False
theorem Cx.Ok.wish {X : Cx} (ok : X.Ok) (E : Value → Shared → Prop) : (X.wish E).Ok :=
  ⟨ok.mod, ok.kind, ok.glob, ok.blt, ok.above, ok.inj, ok.has, ok.cab, ok.hd, ok.frames, ok.stk, ok.exf, ok.bs, ok.bsz, ok.noex, ok.exfs, ok.funs, ok.frf⟩
theorem Cx.Ok.unwish {X : Cx} {E : Value → Shared → Prop} (ok : (X.wish E).Ok) : X.Ok :=
  ⟨ok.mod, ok.kind, ok.glob, ok.blt, ok.above, ok.inj, ok.has, ok.cab, ok.hd, ok.frames, ok.stk, ok.exf, ok.bs, ok.bsz, ok.noex, ok.exfs, ok.funs, ok.frf⟩
section
variable {X : Cx} {pins : List (Addr × Obj)} {σ : St} {H : Hp} {s : Shared} {E : Value → Shared → Prop}
theorem Inv.wish (I : Inv X pins σ H s) (E : Value → Shared → Prop) : Inv (X.wish E) pins σ H s := ⟨I.ok.wish E, I.os, I.bare, I.base, I.loc, I.cell, I.free, I.freeC, I.pin, I.hok, I.len⟩
theorem Inv.unwish (I : Inv (X.wish E) pins σ H s) : Inv X pins σ H s := ⟨I.ok.unwish, I.os, I.bare, I.base, I.loc, I.cell, I.free, I.freeC, I.pin, I.hok, I.len⟩
theorem SP.unwish {D : Ends} {f : Flow} {s' : Shared} (h : SP (X.wish E) pins D f s') : SP X pins D f s' := by
  cases f with
  | next => obtain ⟨σ', H', I, q⟩ := h; exact ⟨σ', H', I.unwish, q⟩
  | brk => obtain ⟨σ', H', I, q⟩ := h; exact ⟨σ', H', I.unwish, q⟩
  | cont => obtain ⟨σ', H', I, q⟩ := h; exact ⟨σ', H', I.unwish, q⟩
  | ret u => obtain ⟨v, σ', H', I, r, q⟩ := h; exact ⟨v, σ', H', I.unwish, r, q⟩
theorem PE.nox {e : Expr} {t : TE} (h : PE X.nox e t) : PE X e t := fun pins s σ H Q I hw =>
  wpAny_mono (h pins s σ H Q (I.wish _) hw) (fun _ _ ⟨v, H', I', r, q⟩ => ⟨v, H', I'.unwish, r, q⟩) fun _ _ z => False.elim z
theorem PT.nox {e : Expr} {t : TT} (h : PT X.nox e t) : PT X e t := fun pins s σ H Q I hw =>
  wpAny_mono (h pins s σ H Q (I.wish _) hw) (fun _ _ ⟨H', I', q⟩ => ⟨H', I'.unwish, q⟩) fun _ _ z => False.elim z
theorem PSs.nox {st : List Stmt} {t : TS} (h : PSs X.nox st t) : PSs X st t := fun pins s σ H D I hw =>
  wpAny_mono (h pins s σ H D (I.wish _) hw) (fun _ _ q => q.unwish) fun _ _ z => False.elim z
end
section
variable {X : Cx} {st : Stmt} {rest : List Stmt} {t u : TS} {e : Expr} {te : TE} {pos : Pos}
def tNext : TS := fun D σ H => D.nx σ H
def tSeq (t u : TS) : TS := fun D σ H => t { D with nx := u D } σ H
theorem pss_nil : PSs X [] tNext := fun _ _ σ H _ I h => wpAny_execs_nil ⟨σ, H, I, h⟩
theorem pss_cons (h1 : PS X st t) (h2 : PSs X rest u) : PSs X (st :: rest) (tSeq t u) := by
  intro pins s σ H D I h
  refine wpAny_execs_cons (thn (h1 pins s σ H { D with nx := u D } I h) fun f s1 q => ?_)
  cases f with
  | next =>
    obtain ⟨σ', H', I', q⟩ := q
    exact h2 pins s1 σ' H' D I' q
  | ret v => exact q
  | brk => exact q
  | cont => exact q
theorem pss_one (h1 : PS X st t) : PSs X [st] t := by
  intro pins s σ H D I h
  refine wpAny_execs_cons (thn (h1 pins s σ H D I h) fun f s1 q => ?_)
  cases f with
  | next => exact wpAny_execs_nil q
  | ret v => exact q
  | brk => exact q
  | cont => exact q
theorem Inv.quiet {pins : List (Addr × Obj)} {σ : St} {H : Hp} {s : Shared} (I : Inv X pins σ H s) : interactive X.env = false := by simp [interactive, I.ok.kind]
def tDrop (te : TE) : TS := fun D σ H => te σ H fun _ H1 => D.nx σ H1
theorem ps_expr (he : PE X e te) (hs : swapsWith e none pos.line X.env = pure false := by rfl) : PS X (.Expr e pos) (tDrop te) := by
  intro pins s σ H D I h
  exact wpAny_Expr_any (thn (he pins s σ H _ I h) fun v s1 ⟨x, H1, I1, r1, q1⟩ => ⟨σ, H1, I1, q1⟩) I.quiet hs
def tRet (te : TE) : TS := fun D σ H => te σ H D.rt
theorem ps_ret (he : PE X e te) : PS X (.Return (some e) pos) (tRet te) := by
  intro pins s σ H D I h
  exact wpAny_Return_some (thn (he pins s σ H _ I h) fun v s1 ⟨x, H1, I1, r1, q1⟩ => ⟨x, σ, H1, I1, r1, q1⟩)
def tIfS (c : TT) (t u : TS) : TS := fun D σ H => c σ H fun b H1 => if b = true then t D σ H1 else u D σ H1
theorem ps_if {c : Expr} {a b : List Stmt} {tc : TT} (hc : PT X c tc) (ha : PSs X a t) (hb : PSs X b u) : PS X (.If c a b pos) (tIfS tc t u) := by
  intro pins s σ H D I h
  refine wpAny_If (thn (hc pins s σ H _ I h) fun d s1 ⟨H1, I1, q1⟩ => ?_)
  cases d with
  | true => exact ha pins s1 σ H1 D I1 q1
  | false => exact hb pins s1 σ H1 D I1 q1
end
abbrev TG := V → St → Hp → (St → Hp → Prop) → Prop
abbrev TGs := List V → St → Hp → (St → Hp → Prop) → Prop
def PG (X : Cx) (target : Expr) (t : TG) : Prop :=
  ∀ (pins : List (Addr × Obj)) (s : Shared) (σ : St) (H : Hp) (v : V) (u : Value) (Q : St → Hp → Prop), Inv X pins σ H s → RelV v u → t v σ H Q →
    wpAny (model X.prog X.w) X.A (assign target X.env u) (fun _ s' => ∃ σ' H', Inv X pins σ' H' s' ∧ Q σ' H') X.xe s
def PGs (X : Cx) (ts : List Expr) (t : TGs) : Prop :=
  ∀ (pins : List (Addr × Obj)) (s : Shared) (σ : St) (H : Hp) (vs : List V) (us : List Value) (Q : St → Hp → Prop), Inv X pins σ H s → Vals vs us → t vs σ H Q →
    wpAny (model X.prog X.w) X.A (assignInOrder ((assignEach ts X.env).map (·.2)) us) (fun _ s' => ∃ σ' H', Inv X pins σ' H' s' ∧ Q σ' H') X.xe s
abbrev TSet := V → V → V → Hp → (Hp → Prop) → Prop
def PSet (X : Cx) (t : TSet) : Prop :=
  ∀ (pins : List (Addr × Obj)) (s : Shared) (σ : St) (H : Hp) (o i v : V) (ov iv u : Value) (Q : Hp → Prop), Inv X pins σ H s → RelV o ov → RelV i iv → RelV v u → t o i v H Q →
    wpAny (model X.prog X.w) X.A (setItem ov iv u) (fun _ s' => ∃ H', Inv X pins σ H' s' ∧ Q H') X.xe s
section
variable {X : Cx} {pos : Pos}
def gName (i : Nat) : TG := fun v σ H Q => Q (σ.set i (some v)) H
theorem pg_name {i : Nat} {x : Str} (hN : X.N.Nodup) (hi : X.N[i]? = some x) (hx : Loc X.env.scope x) (hf : X.fn x = true ∨ X.env.scope.names.lookup x = some .local := by first | exact .inl rfl | exact .inr rfl | assumption) : PG X (.Name x pos) (gName i) := by
  intro pins s σ H v u Q I r h
  exact wpAny_assign_Name (store_ok I hN hi hx r (fun s' I' => ⟨_, H, I', h⟩) hf)
def gNil : TGs := fun vs σ H Q => vs = [] ∧ Q σ H
def gCons (t : TG) (u : TGs) : TGs := fun vs σ H Q => ∃ v r, vs = v :: r ∧ t v σ H fun σ' H' => u r σ' H' Q
theorem pgs_nil : PGs X [] gNil := by
  intro pins s σ H vs us Q I r h
  obtain ⟨e, h⟩ := h
  subst e
  cases r
  exact assignInOrder_nil ⟨σ, H, I, h⟩
theorem pgs_cons {e : Expr} {es : List Expr} {t : TG} {u : TGs} (h1 : PG X e t) (h2 : PGs X es u)
    (hs : (assignEach (e :: es) X.env).map (·.2) = assign e X.env :: (assignEach es X.env).map (·.2) := by rfl) : PGs X (e :: es) (gCons t u) := by
  intro pins s σ H vs us Q I r h
  obtain ⟨v, vr, e1, h⟩ := h
  subst e1
  cases r with
  | cons r rr =>
    rw [hs]
    refine assignInOrder_cons (thn (h1 pins s σ H _ _ _ I r h) fun _ s1 ⟨σ1, H1, I1, q1⟩ => ?_)
    exact h2 pins s1 σ1 H1 _ _ Q I1 rr q1
def gTup (K : PySem.W.Frag) (n : Nat) (t : TGs) : TG := fun v σ H Q => ∃ a xs, v = .ref a ∧ SqT K H a xs ∧ xs.length = n ∧ t xs σ H Q
theorem pg_tup {es : List Expr} {k : Nat} {t : TGs} {n : Nat} (hc : X.calm = true) (h : PGs X es t)
    (hn : (assignEach es X.env).length = n := by rfl) (hst : (assignEach es X.env).findIdx? (·.1) = none := by rfl) : PG X (.Tuple es k pos) (gTup X.K n t) := by
  intro pins s σ H v u Q I r hw
  obtain ⟨a, xs, e1, hq, hl, hw⟩ := hw
  subst e1
  cases r
  obtain ⟨its, rv, ht, hz⟩ := I.tuple hq
  refine assign_Tuple_tuple (I.ok.hd hc) ht (by simp [hn, ← hl, rv.length]) hst fun h' hx => ?_
  have I1 : Inv X pins σ H { s with heap := h' } := I.kept (t' := s.toks) fun b o e => hx b o (Nat.ne_of_lt (Heap.lt_size e)) e
  exact h pins _ σ H xs _ Q I1 (by simpa using rv) hw
def gSub (to ti : TE) (t : TSet) : TG := fun v σ H Q => to σ H fun o H1 => ti σ H1 fun i H2 => t o i v H2 fun H3 => Q σ H3
theorem pg_sub {o i : Expr} {to ti : TE} {t : TSet} (ho : PE X o to) (hi : PE X i ti) (hs : PSet X t)
    (ha : ∀ v, assign (.Subscript o i pos) X.env v = (do
      let ov ← holding [v] (eval o X.env)
      let iv ← holding [v, ov] (eval i X.env)
      standAt pos
      holding [v, ov, iv] (setItem ov iv v)
      release [v, ov, iv] []) := by intro _; rfl) : PG X (.Subscript o i pos) (gSub to ti t) := by
  intro pins s σ H v u Q I r h
  rw [ha]
  refine wpAny_bind (wpAny_holding (thn (ho pins s σ H _ I h) fun ov s1 ⟨x, H1, I1, r1, q1⟩ => ?_))
  refine wpAny_bind (wpAny_holding (thn (hi pins s1 σ H1 _ I1 q1) fun iv s2 ⟨y, H2, I2, r2, q2⟩ => ?_))
  refine wpAny_bind (wpAny_standAt (wpAny_bind (wpAny_holding (thn (hs pins s2 σ H2 x y v ov iv u _ I2 r1 r2 r q2) fun _ s3 ⟨H3, I3, q3⟩ => ?_))))
  exact wpAny_release ⟨σ, H3, I3, q3⟩
def tAsg (te : TE) (g : TG) : TS := fun D σ H => te σ H fun x H1 => g x σ H1 D.nx
theorem ps_asg {tg e : Expr} {te : TE} {g : TG} (he : PE X e te) (hg : PG X tg g) (hs : swapsWithSole [tg] e pos.line X.env = pure false := by rfl) (hw : swappedStores [tg] e X.env = pure none := by rfl)
    (h1 : (assignEach [tg] X.env).map (·.2) = [assign tg X.env] := by rfl) : PS X (.Assign [tg] e pos) (tAsg te g) := by
  intro pins s σ H D I h
  refine wpAny_Assign_stores (thn (he pins s σ H _ I h) fun v s1 ⟨x, H1, I1, r1, q1⟩ => ?_) hs hw
  rw [h1]
  exact thn (hg pins s1 σ H1 x v _ I1 r1 q1) fun _ s2 q => q
theorem ps_set {i : Nat} {x : Str} {e : Expr} {te : TE} {pos' : Pos} (hN : X.N.Nodup) (hi : X.N[i]? = some x) (hx : Loc X.env.scope x) (he : PE X e te) (hs : swapsWith e (some (.Name x pos')) pos.line X.env = pure false := by rfl) (hf : X.fn x = true ∨ X.env.scope.names.lookup x = some .local := by first | exact .inl rfl | exact .inr rfl | assumption) :
    PS X (.Assign [.Name x pos'] e pos) (tAsg te (gName i)) := by
  intro pins s σ H D I h
  refine wpAny_Assign_Name (thn (he pins s σ H _ I h) fun v s1 ⟨y, H1, I1, r1, q1⟩ => ?_) hs
  exact store_ok I1 hN hi hx r1 (fun s2 I2 => ⟨_, H1, I2, q1⟩) hf
end
section
variable {X : Cx} {pos : Pos}
end
structure It where
  go : Nat → Hp → Prop
  yld : Nat → Hp → V → Hp → Prop
  stop : Nat → Hp → Prop
def FpOk (X : Cx) (pins : List (Addr × Obj)) (H : Hp) (b : Addr) : Prop :=
  H b = none ∧ b ≠ X.env.locals ∧ b ∉ X.fs ∧ (b ∈ X.ex ∨ X.s₀.heap.objs.size ≤ b) ∧ (∀ x c, X.env.cells.lookup x = some c → c ≠ b) ∧ ∀ p ∈ X.pn ++ pins, p.1 ≠ b
theorem Inv.fpOk {X : Cx} {pins : List (Addr × Obj)} {σ : St} {H H' : Hp} {s : Shared} {b : Addr} (I : Inv X pins σ H s) (hb : s.heap.objs.size ≤ b) (hn : H' b = none) : FpOk X pins H' b := by
  refine ⟨hn, Nat.ne_of_gt (Nat.lt_of_lt_of_le I.lt hb), I.nofs hb, .inr (Nat.le_trans I.sz hb), fun x c e z => ?_, fun p hp z => ?_⟩
  · obtain ⟨v, q⟩ := I.cell x c e
    exact absurd (Nat.lt_of_lt_of_le q.lt (by rw [z]; exact hb)) (Nat.lt_irrefl _)
  · exact absurd (Nat.lt_of_lt_of_le (Heap.lt_size (I.pin p hp).1) (by rw [z]; exact hb)) (Nat.lt_irrefl _)
structure Turn (P : Program) (w : World) (K : PySem.W.Frag) (tg : Expr) (J : It) (fp : List Addr) (it : Addr) (tn : Nat → Heap → Prop) : Prop where
  mem : it ∈ fp
  obj : ∀ i h, tn i h → ∀ b ∈ fp, ∃ o, h.get? b = some o ∧ ∀ v, o.data ≠ .cell v
  keep : ∀ i h h', tn i h → (∀ b ∈ fp, ∀ o, h.get? b = some o → h'.get? b = some o) → tn i h'
  item : ∀ (X : Cx), X.prog = P → X.w = w → X.K = K → X.calm = true → ∀ (i : Nat) (pins : List (Addr × Obj)) (s : Shared) (σ : St) (H : Hp) (E : Value → Shared → Prop), Inv X pins σ H s → (∀ b ∈ fp, FpOk X pins H b) → tn i s.heap → J.go i H →
    wpAny (model P w) X.A (pyNext (.ref it)) (fun r s1 => ∃ u, r = some u ∧
      wpAny (model P w) X.A (letOwnedTupleGo tg (.ref it) u) (fun _ s2 => ∃ x H', Inv X pins σ H' s2 ∧ RelV x u ∧ J.yld i H x H' ∧ tn (i + 1) s2.heap ∧ ∀ b ∈ fp, H' b = none) E s1) E s
  done : ∀ (X : Cx), X.prog = P → X.w = w → X.K = K → X.calm = true → ∀ (i : Nat) (pins : List (Addr × Obj)) (s : Shared) (σ : St) (H : Hp) (E : Value → Shared → Prop), Inv X pins σ H s → (∀ b ∈ fp, FpOk X pins H b) → tn i s.heap → J.stop i H →
    wpAny (model P w) X.A (pyNext (.ref it)) (fun r s1 => r = none ∧ Inv X pins σ H s1) E s
  self : ∀ (A : Around) (i : Nat) (s : Shared) (Q : Value → Shared → Prop) (E : Value → Shared → Prop), tn i s.heap → Q (.ref it) s → wpAny (model P w) A (pyIter (.ref it)) Q E s
abbrev TI := St → Hp → (It → Hp → Prop) → Prop
def PIE (X : Cx) (pins : List (Addr × Obj)) (σ : St) (tg : Expr) (R : It → Hp → Prop) (itv : Value) (s2 : Shared) : Prop :=
  ∃ (it : Addr) (fp : List Addr) (tn : Nat → Heap → Prop) (J : It) (H' : Hp), itv = .ref it ∧ Inv X pins σ H' s2 ∧ Turn X.prog X.w X.K tg J fp it tn ∧ tn 0 s2.heap ∧ (∀ b ∈ fp, FpOk X pins H' b) ∧ R J H'
def PI (X : Cx) (tg iter : Expr) (wi : TI) : Prop :=
  ∀ (pins : List (Addr × Obj)) (s : Shared) (σ : St) (H : Hp) (R : It → Hp → Prop), Inv X pins σ H s → wi σ H R →
    wpAny (model X.prog X.w) X.A (eval iter X.env) (fun v s1 => wpAny (model X.prog X.w) X.A (pyIter v) (PIE X pins σ tg R) X.xe s1) X.xe s
theorem go_of {M : Model} {A : Around} {E : Value → Shared → Prop} {s : Shared} {tg : Expr} {it : Addr} {u : Value} {o : Obj} {n : String} {vs : Array Value} {Q : Unit → Shared → Prop} (ho : s.heap.get? it = some o) (hc : o.cls = .type n) (hd : o.data = .fields vs)
    (hn : ["enumerate", "zip", "dict_itemiterator", "dict_reverseitemiterator", "odict_iterator", "itertools.zip_longest", "itertools.pairwise"].contains n = false) (hQ : Q () s) : wpAny M A (letOwnedTupleGo tg (.ref it) u) Q E s := by
  unfold letOwnedTupleGo
  cases tg <;> first
    | exact wpAny_pure hQ
    | (cases u <;> first
        | exact wpAny_pure hQ
        | (refine wpAny_bind (wpAny_load ho ?_)
           rw [hc, hd]
           show wpAny M A (if (["enumerate", "zip", "dict_itemiterator", "dict_reverseitemiterator", "odict_iterator", "itertools.zip_longest", "itertools.pairwise"].contains n && vs[0]? == some (rawInt _)) = true then _ else _) Q E s
           rw [if_neg (by intro h; rw [hn, Bool.false_and] at h; cases h)]
           exact wpAny_pure hQ))
def Itl (K : PySem.W.Frag) (a : Addr) : It :=
  ⟨fun i H => ∃ xs x, SqL K H a xs ∧ xs[i]? = some x, fun i H x H' => H' = H ∧ ∀ xs, SqL K H a xs → xs[i]? = some x, fun i H => ∃ xs, SqL K H a xs ∧ xs.length ≤ i⟩
def Itr (lo : Int) (n : Nat) : It := ⟨fun i _ => i < n, fun i H x H' => H' = H ∧ x = .int (lo + i), fun i _ => n ≤ i⟩
theorem turn_list {P : Program} {w : World} {K : PySem.W.Frag} {tg : Expr} (a it : Addr) : Turn P w K tg (Itl K a) [it] it (fun i h => h.IsListIter it a i) where
  mem := by simp
  obj := fun i h st b hb => by
    have e : b = it := by simpa using hb
    subst e
    obtain ⟨o, e, c, d⟩ := st
    exact ⟨o, e, fun v z => by rw [d] at z; cases z⟩
  keep := fun i h h' st k => st.at fun o e => k it (by simp) o e
  item := by
    intro X hP hw hK hc i pins s σ H E I hf st hg
    subst hP hw hK
    obtain ⟨xs, x, hq, hx⟩ := hg
    obtain ⟨its, rv, p, hz⟩ := I.list hq
    obtain ⟨u, hu, ru⟩ := rv.get hx
    obtain ⟨f0, f1, f2, f3, f4, f5⟩ := hf it (by simp)
    refine wpAny_pyNext_list_item st p.isList (x := u) (by simpa using hu) fun h' st' sb => ?_
    have I1 : Inv X pins σ H { s with heap := h' } := I.turned (t' := s.toks) (fun b o hb e => (sb.2 b hb).trans e) f0 f1 f3 f4 f5
    obtain ⟨o, e, c, d⟩ := id st'
    exact ⟨u, rfl, go_of (s := { s with heap := h' }) e c d (by decide) ⟨x, H, I1, ru, ⟨rfl, fun ys hy => by rw [I.list_inj hy hq]; exact hx⟩, st', fun b hb => (hf b hb).1⟩⟩
  done := by
    intro X hP hw hK hc i pins s σ H E I hf st hg
    subst hP hw hK
    obtain ⟨xs, hq, hx⟩ := hg
    obtain ⟨its, rv, p, hz⟩ := I.list hq
    obtain ⟨f0, f1, f2, f3, f4, f5⟩ := hf it (by simp)
    have hl := rv.length
    exact wpAny_pyNext_list_end (I.ok.hd hc) st p.isList (by simp; lia) fun h' eb => ⟨rfl, I.turned (t' := s.toks) (fun b o hb e => eb b o hb e) f0 f1 f3 f4 f5⟩
  self := fun _ _ _ _ _ st h => wpAny_pyIter_listiter st h
theorem turn_range {P : Program} {w : World} {K : PySem.W.Frag} {tg : Expr} (it : Addr) (lo : Int) (n : Nat) : Turn P w K tg (Itr lo n) [it] it (fun i h => IsRangeIter h it (lo + (i : Nat) * 1) ((n : Int) - (i : Nat)) 1) where
  mem := by simp
  obj := fun i h st b hb => by
    have e : b = it := by simpa using hb
    subst e
    exact ⟨_, st, fun v z => by
      have z' : Data.fields _ = Data.cell v := z
      cases z'⟩
  keep := fun i h h' st k => k it (by simp) _ st
  item := by
    intro X hP hw hK hc i pins s σ H E I hf st hg
    subst hP hw hK
    obtain ⟨f0, f1, f2, f3, f4, f5⟩ := hf it (by simp)
    have W := Walks.range (prog := X.prog) (w := X.w) (I.ok.hd hc) it lo 1 n
    refine W.item i s _ _ hg st fun v h' tk hv st' kk => ?_
    obtain ⟨t, rfl⟩ := hv
    have I1 : Inv X pins σ H { s with heap := h', toks := tk } := I.turned (fun b o hb e => kk b o (by simpa using hb) e) f0 f1 f3 f4 f5
    refine ⟨_, rfl, go_of (s := { s with heap := h', toks := tk }) (n := "range_iterator") st' rfl rfl (by decide) ⟨.int (lo + i), H, I1, ⟨t, ?_⟩, ⟨rfl, rfl⟩, st', fun b hb => (hf b hb).1⟩⟩
    rw [Int.mul_one]
  done := by
    intro X hP hw hK hc i pins s σ H E I hf st hg
    subst hP hw hK
    obtain ⟨f0, f1, f2, f3, f4, f5⟩ := hf it (by simp)
    exact wpAny_pyNext_range_end (I.ok.hd hc) st (by have : n ≤ i := hg; lia) fun h' eb => ⟨rfl, I.turned (t' := s.toks) (fun b o hb e => eb b o hb e) f0 f1 f3 f4 f5⟩
  self := fun _ _ _ _ _ st h => wpAny_pyIter_rangeiter st h
end L2
namespace L2
open PySem PySem.Spec PyProof.Rows
section
variable {X : Cx} {tg : Expr}
def iList (K : PySem.W.Frag) (tl : TE) : TI := fun σ H R => tl σ H fun x H1 => ∃ a, x = .ref a ∧ (∃ xs, SqL K H1 a xs) ∧ R (Itl K a) H1
theorem pi_list {l : Expr} {tl : TE} (hl : PE X l tl) : PI X tg l (iList X.K tl) := by
  intro pins s σ H R I h
  refine thn (hl pins s σ H _ I h) fun v s1 ⟨x, H1, I1, r1, q1⟩ => ?_
  obtain ⟨a, e, ⟨xs, hq⟩, q⟩ := q1
  subst e
  cases r1
  obtain ⟨its, rv, p, hz⟩ := I1.list hq
  refine wpAny_pyIter_list p.isList ?_
  refine ⟨s1.heap.objs.size, [s1.heap.objs.size], _, _, H1, rfl, I1.kept (t' := s1.toks) fun b o e => Heap.get?_push_of_some _ e, turn_list a _, ⟨_, Heap.get?_push_size _ rfl, rfl, rfl⟩, fun b hb => ?_, q⟩
  have e : b = s1.heap.objs.size := by simpa using hb
  subst e
  exact I1.fpOk (Nat.le_refl _) (I1.hok.fresh (Nat.le_refl _))
theorem range_it {pins : List (Addr × Obj)} {σ : St} {H : Hp} {s : Shared} {R : It → Hp → Prop} {E : Value → Shared → Prop} {lo hi : Int} {t u v : Tok} {tk : Nat} (I : Inv X pins σ H s) (h1 : -(2 ^ 62) ≤ lo) (h2 : lo < 2 ^ 62) (h3 : -(2 ^ 62) ≤ hi) (h4 : hi < 2 ^ 62)
    (q : R (Itr lo (hi - lo).toNat) H) : wpAny (model X.prog X.w) X.A (pyIter (.ref s.heap.objs.size)) (PIE X pins σ tg R) E { s with heap := s.heap.push { cls := .type "range", data := .fields #[.int lo t, .int hi u, .int 1 v] }, toks := tk } := by
  refine wpAny_pyIter_range (IsRange.new ..) (small_one h1 h2 h3 h4) ?_
  have I1 : Inv X pins σ H { s with heap := s.heap.push { cls := .type "range", data := .fields #[.int lo t, .int hi u, .int 1 v] }, toks := tk } := I.kept fun b o e => Heap.get?_push_of_some _ e
  refine ⟨(s.heap.push { cls := .type "range", data := .fields #[.int lo t, .int hi u, .int 1 v] }).objs.size, [(s.heap.push { cls := .type "range", data := .fields #[.int lo t, .int hi u, .int 1 v] }).objs.size], _, _, H, rfl,
    I1.kept (t' := tk) fun b o e => Heap.get?_push_of_some _ e, turn_range _ lo (hi - lo).toNat, ?_, fun b hb => ?_, q⟩
  · have e1 : lo + ((0 : Nat) : Int) * 1 = lo := by simp
    have e2 : (((hi - lo).toNat : Nat) : Int) - ((0 : Nat) : Int) = Builtin.Range.rangeSize lo hi 1 := by rw [rangeSize_one]; split <;> lia
    show IsRangeIter _ _ (lo + ((0 : Nat) : Int) * 1) ((((hi - lo).toNat : Nat) : Int) - ((0 : Nat) : Int)) 1
    rw [e1, e2]
    exact Heap.get?_push_size _ rfl
  · have e : b = (s.heap.push { cls := .type "range", data := .fields #[.int lo t, .int hi u, .int 1 v] }).objs.size := by simpa using hb
    subst e
    exact I1.fpOk (Nat.le_refl _) (I1.hok.fresh (Nat.le_refl _))
def iRng1 (ta : TA) : TI := fun σ H R => ta σ H fun vs H1 => ∃ j : Int, vs = [.int j] ∧ -(2 ^ 62) ≤ j ∧ j < 2 ^ 62 ∧ R (Itr 0 j.toNat) H1
theorem pi_range1 {a : Expr} {ta : TA} {p pos : Pos} (hg : Gl X "range") (hm : X.mg "range" = none) (ha : PA X [a] ta) (hs : starEach [a] X.env = [(false, eval a X.env)] := by rfl) : PI X tg (.Call (.Name "range" p) [a] [] pos) (iRng1 ta) := by
  intro pins s σ H R I h
  refine Call_ (ld_blt I hg hm boot_range (PyProof.Rows.callWith_type1 (thn (ha pos pins s σ H _ I h) fun us s1 ⟨vs, H1, I1, r1, q1⟩ => ?_) hs rfl))
  obtain ⟨j, e, q1, q2, q⟩ := q1
  subst e
  cases r1 with
  | cons r rr =>
    cases rr
    obtain ⟨t, rfl⟩ := r
    exact call_range_1 (range_it I1 (by lia) (by lia) q1 q2 (by simpa using q))
def tFor (wi : TI) (g : TG) (tb : TS) : TS := fun D σ H => wi σ H fun J H1 => ∃ W : Nat → Nat → St → Hp → Prop, (∃ m, W 0 m σ H1) ∧ ∀ i m σ H, W i m σ H →
  (J.stop i H ∧ D.nx σ H) ∨ (J.go i H ∧ ∃ N : St → Hp → Prop, (∀ σ' H', N σ' H' → ∃ m', m' < m ∧ W (i + 1) m' σ' H') ∧ ∀ x H', J.yld i H x H' → g x σ H' fun σ2 H2 => tb { D with nx := N, ct := N, bk := D.nx } σ2 H2)
def pinsAt (fp : List Addr) (h : Heap) : List (Addr × Obj) := fp.filterMap fun b => (h.get? b).map fun o => (b, o)
theorem mem_pinsAt {fp : List Addr} {h : Heap} {b : Addr} {o : Obj} (hb : b ∈ fp) (e : h.get? b = some o) : (b, o) ∈ pinsAt fp h := List.mem_filterMap.mpr ⟨b, hb, by rw [e]; rfl⟩
theorem of_pinsAt {fp : List Addr} {h : Heap} {p : Addr × Obj} (hp : p ∈ pinsAt fp h) : p.1 ∈ fp ∧ h.get? p.1 = some p.2 := by
  obtain ⟨b, hb, e⟩ := List.mem_filterMap.mp hp
  cases q : h.get? b with
  | none => rw [q] at e; cases e
  | some o =>
    rw [q] at e
    have e' : (b, o) = p := Option.some.inj e
    subst e'
    exact ⟨hb, q⟩
theorem Inv.pinned {pins : List (Addr × Obj)} {σ : St} {H : Hp} {s : Shared} {fp : List Addr} (I : Inv X pins σ H s) (hf : ∀ b ∈ fp, FpOk X pins H b) (ho : ∀ b ∈ fp, ∃ o, s.heap.get? b = some o ∧ ∀ v, o.data ≠ .cell v) : Inv X (pins ++ pinsAt fp s.heap) σ H s :=
  I.pins_of fun p hp => (List.mem_append.mp hp).elim (fun z => I.pin p (List.mem_append_right _ z)) fun z => by
    obtain ⟨hb, e⟩ := of_pinsAt z
    obtain ⟨f0, f1, f2, _⟩ := hf p.1 hb
    obtain ⟨o, e', d⟩ := ho p.1 hb
    rw [e] at e'; cases e'
    exact ⟨e, f0, f1, f2, d⟩
theorem Inv.unpinned {pins pl : List (Addr × Obj)} {σ : St} {H : Hp} {s : Shared} (I : Inv X (pins ++ pl) σ H s) : Inv X pins σ H s := I.pins_of fun p hp => I.pin p (List.mem_append_right _ (List.mem_append_left _ hp))
theorem ps_for {iter : Expr} {body : List Stmt} {wi : TI} {g : TG} {tb : TS} {pos : Pos} (hp : PassesOwn (model X.prog X.w) X.A X.env X.xe) (hc : X.calm = true) (hi : PI X tg iter wi) (hg : PG X tg g) (hb : PSs X body tb)
    (hs : ∀ x, foldedSetIterable iter X.env x = pure x := by intro _; rfl) : PS X (.For tg iter body [] pos) (tFor wi g tb) := by
  intro pins s σ H D I h
  refine wpAny_For (thn (hi pins s σ H _ I h) fun v s1 h1 => thn h1 fun itv s2 h2 => ?_) hs
  obtain ⟨it, fp, tn, J, H2, e, I2, T, st2, f2, W, ⟨m0, w0⟩, turn⟩ := h2
  subst e
  have stat : ∀ {H' : Hp}, (∀ b ∈ fp, H' b = none) → ∀ b ∈ fp, FpOk X pins H' b := fun hn b hb => ⟨hn b hb, (f2 b hb).2⟩
  refine codeAny_forLoop_any (fun n s' => ∃ i σ' H', Inv X pins σ' H' s' ∧ tn i s'.heap ∧ (∀ b ∈ fp, H' b = none) ∧ W i n σ' H') ?_ m0 ⟨0, σ, H2, I2, st2, fun b hb => (f2 b hb).1, w0⟩
  rintro n s3 ⟨i, σ3, H3, I3, st3, fr3, w3⟩
  rcases turn i n σ3 H3 w3 with ⟨stop, qn⟩ | ⟨go, N, hN, step⟩
  · refine wpAny_passesOwn hp (thn (T.done X rfl rfl rfl hc i pins s3 σ3 H3 X.xe I3 (stat fr3) st3 stop) fun r s4 ⟨hr, I4⟩ => ?_)
    subst hr
    exact wpAny_execs_nil ⟨σ3, H3, I4, qn⟩
  · refine wpAny_passesOwn hp (thn (T.item X rfl rfl rfl hc i pins s3 σ3 H3 X.xe I3 (stat fr3) st3 go) fun r s4 ⟨u, hr, h4⟩ => ?_)
    subst hr
    refine wpAny_passesOwn hp (thn h4 fun _ s5 ⟨x, H5, I5, r5, y5, st5, fr5⟩ => ?_)
    have I5' := I5.pinned (stat fr5) (T.obj _ _ st5)
    refine wpAny_passesOwn hp (thn (hg _ s5 σ3 H5 x u _ I5' r5 (step x H5 y5)) fun _ s6 ⟨σ6, H6, I6, q6⟩ => ?_)
    refine wpAny_passesOwn hp (thn (hb _ s6 σ6 H6 _ I6 q6) fun f s7 q7 => ?_)
    have again : ∀ {σ7 : St} {H7 : Hp}, Inv X (pins ++ pinsAt fp s5.heap) σ7 H7 s7 → N σ7 H7 → ∃ m, m < n ∧ ∃ i σ' H', Inv X pins σ' H' s7 ∧ tn i s7.heap ∧ (∀ b ∈ fp, H' b = none) ∧ W i m σ' H' := fun {σ7 H7} I7 n7 => by
      obtain ⟨m', hm, w7⟩ := hN σ7 H7 n7
      refine ⟨m', hm, i + 1, σ7, H7, I7.unpinned, T.keep _ _ _ st5 fun b hb o e => (I7.pin (b, o) (List.mem_append_right _ (List.mem_append_right _ (mem_pinsAt hb e)))).1, fun b hb => ?_, w7⟩
      obtain ⟨o, e, d⟩ := T.obj _ _ st5 b hb
      exact (I7.pin (b, o) (List.mem_append_right _ (List.mem_append_right _ (mem_pinsAt hb e)))).2.1
    cases f with
    | next => obtain ⟨σ7, H7, I7, n7⟩ := q7; exact again I7 n7
    | cont => obtain ⟨σ7, H7, I7, n7⟩ := q7; exact again I7 n7
    | brk => obtain ⟨σ7, H7, I7, q7⟩ := q7; exact ⟨σ7, H7, I7.unpinned, q7⟩
    | ret v => obtain ⟨x7, σ7, H7, I7, r7, q7⟩ := q7; exact ⟨x7, σ7, H7, I7.unpinned, r7, q7⟩
end
theorem for_list {K : PySem.W.Frag} {a : Addr} {xs : List V} {g : TG} {tb : TS} {D : Ends} {σ : St} {H : Hp} (Pv : Nat → St → Hp → Prop) (h0 : Pv 0 σ H) (hl : ∀ i σ H, i ≤ xs.length → Pv i σ H → SqL K H a xs)
    (hs : ∀ i x σ H, xs[i]? = some x → Pv i σ H → g x σ H fun σ2 H2 => tb { D with nx := Pv (i + 1), ct := Pv (i + 1), bk := D.nx } σ2 H2) (hd : ∀ σ H, Pv xs.length σ H → D.nx σ H) :
    ∃ W : Nat → Nat → St → Hp → Prop, (∃ m, W 0 m σ H) ∧ ∀ i m σ H, W i m σ H →
      ((Itl K a).stop i H ∧ D.nx σ H) ∨ ((Itl K a).go i H ∧ ∃ N : St → Hp → Prop, (∀ σ' H', N σ' H' → ∃ m', m' < m ∧ W (i + 1) m' σ' H') ∧ ∀ x H', (Itl K a).yld i H x H' → g x σ H' fun σ2 H2 => tb { D with nx := N, ct := N, bk := D.nx } σ2 H2) := by
  refine ⟨fun i m σ H => m = xs.length - i ∧ i ≤ xs.length ∧ Pv i σ H, ⟨xs.length, by simp, Nat.zero_le _, h0⟩, ?_⟩
  rintro i m σ H ⟨rfl, hi, p⟩
  have q := hl i σ H hi p
  by_cases hlt : i < xs.length
  · refine .inr ⟨⟨xs, xs[i], q, by simp [hlt]⟩, Pv (i + 1), fun σ' H' p' => ⟨xs.length - (i + 1), by lia, rfl, hlt, p'⟩, fun x H' y => ?_⟩
    obtain ⟨e, y⟩ := y
    subst e
    exact hs i x σ _ (y xs q) p
  · have e : i = xs.length := by lia
    subst e
    exact .inl ⟨⟨xs, q, Nat.le_refl _⟩, hd σ H p⟩
theorem for_range {lo : Int} {n : Nat} {g : TG} {tb : TS} {D : Ends} {σ : St} {H : Hp} (Pv : Nat → St → Hp → Prop) (h0 : Pv 0 σ H)
    (hs : ∀ i σ H, i < n → Pv i σ H → g (.int (lo + i)) σ H fun σ2 H2 => tb { D with nx := Pv (i + 1), ct := Pv (i + 1), bk := D.nx } σ2 H2) (hd : ∀ σ H, Pv n σ H → D.nx σ H) :
    ∃ W : Nat → Nat → St → Hp → Prop, (∃ m, W 0 m σ H) ∧ ∀ i m σ H, W i m σ H →
      ((Itr lo n).stop i H ∧ D.nx σ H) ∨ ((Itr lo n).go i H ∧ ∃ N : St → Hp → Prop, (∀ σ' H', N σ' H' → ∃ m', m' < m ∧ W (i + 1) m' σ' H') ∧ ∀ x H', (Itr lo n).yld i H x H' → g x σ H' fun σ2 H2 => tb { D with nx := N, ct := N, bk := D.nx } σ2 H2) := by
  refine ⟨fun i m σ H => m = n - i ∧ i ≤ n ∧ Pv i σ H, ⟨n, by simp, Nat.zero_le _, h0⟩, ?_⟩
  rintro i m σ H ⟨rfl, hi, p⟩
  by_cases hlt : i < n
  · refine .inr ⟨hlt, Pv (i + 1), fun σ' H' p' => ⟨n - (i + 1), by lia, rfl, hlt, p'⟩, fun x H' y => ?_⟩
    obtain ⟨e, y⟩ := y
    subst e y
    exact hs i σ _ hlt p
  · have e : i = n := by lia
    subst e
    exact .inl ⟨Nat.le_refl _, hd σ H p⟩
end L2
namespace L2
open PySem PySem.Spec PyProof.Rows
abbrev R2 := V → V → Hp → VK → Prop
def OpR (X : Cx) (f : Value → Value → Sem Value) (r : R2) : Prop :=
  ∀ (pins : List (Addr × Obj)) (s : Shared) (σ : St) (H : Hp) (x y : V) (v u : Value) (Q : VK), Inv X pins σ H s → RelV x v → RelV y u → r x y H Q →
    wpAny (model X.prog X.w) X.A (f v u) (EP X pins σ Q) X.xe s
def CallR (X : Cx) (f : Value) (r : List V → Hp → VK → Prop) : Prop :=
  ∀ (pins : List (Addr × Obj)) (s : Shared) (σ : St) (H : Hp) (xs : List V) (us : List Value) (Q : VK), Inv X pins σ H s → Vals xs us → r xs H Q →
    wpAny (model X.prog X.w) X.A (call f us) (EP X pins σ Q) X.xe s
def tOp (r : R2) (ta tb : TE) : TE := fun σ H Q => ta σ H fun x H1 => tb σ H1 fun y H2 => r x y H2 Q
def rI (C : Int → Int → Prop) (g : Int → Int → V) : R2 := fun x y H Q => ∃ i j, x = .int i ∧ y = .int j ∧ C i j ∧ Q (g i j) H
def rI0 (g : Int → Int → V) : R2 := fun x y H Q => ∃ i j, x = .int i ∧ y = .int j ∧ Q (g i j) H
section
variable {X : Cx} {a b c : Expr} {ta tb tc : TE} {pos : Pos}
theorem binT (ha : PE X a ta) (hb : PE X b tb) {pins : List (Addr × Obj)} {s : Shared} {σ : St} {H : Hp} {R : V → V → Hp → Prop} (I : Inv X pins σ H s)
    (h : ta σ H fun x H1 => tb σ H1 fun y H2 => R x y H2) {Q : Value → Shared → Prop} {f : Value → Value → Sem Value}
    (hf : ∀ v u s2 x y H2, Inv X pins σ H2 s2 → RelV x v → RelV y u → R x y H2 → wpAny (model X.prog X.w) X.A (f v u) Q X.xe s2) :
    wpAny (model X.prog X.w) X.A (eval a X.env) (fun v s₁ => wpAny (model X.prog X.w) X.A (eval b X.env) (fun u s₂ => wpAny (model X.prog X.w) X.A (f v u) Q X.xe s₂) X.xe s₁) X.xe s := by
  refine thn (ha pins s σ H _ I h) fun v s1 ⟨x, H1, I1, r1, q1⟩ => ?_
  refine thn (hb pins s1 σ H1 _ I1 q1) fun u s2 ⟨y, H2, I2, r2, q2⟩ => ?_
  exact hf v u s2 x y H2 I2 r1 r2 q2
theorem pe_op {op : Operator} {r : R2} (ho : OpR X (binaryOp op) r) (ha : PE X a ta) (hb : PE X b tb) : PE X (.BinOp a op b pos) (tOp r ta tb) := by
  intro pins s σ H Q I h
  exact wpAny_BinOp (binT ha hb I h fun v u s2 x y H2 I2 rx ry q => ho pins s2 σ H2 x y v u Q I2 rx ry q)
theorem opI {f : Value → Value → Sem Value} {C : Int → Int → Prop} {g : Int → Int → Int}
    (rule : ∀ (i j : Int) (t u : Tok) (s : Shared) (Q : Value → Shared → Prop) (E : Value → Shared → Prop), C i j → Q (.int (g i j) s.toks) { s with toks := s.toks + 1 } → wpAny (model X.prog X.w) X.A (f (.int i t) (.int j u)) Q E s) :
    OpR X f (rI C fun i j => .int (g i j)) := by
  intro pins s σ H x y v u Q I rx ry h
  obtain ⟨i, j, rfl, rfl, hc, q⟩ := h
  obtain ⟨t, rfl⟩ := rx
  obtain ⟨t', rfl⟩ := ry
  exact rule i j t t' s _ _ hc ⟨.int (g i j), H, I.tok _, ⟨_, rfl⟩, q⟩
theorem opI0 {f : Value → Value → Sem Value} {g : Int → Int → Int}
    (rule : ∀ (i j : Int) (t u : Tok) (s : Shared) (Q : Value → Shared → Prop) (E : Value → Shared → Prop), Q (.int (g i j) s.toks) { s with toks := s.toks + 1 } → wpAny (model X.prog X.w) X.A (f (.int i t) (.int j u)) Q E s) :
    OpR X f (rI0 fun i j => .int (g i j)) := by
  intro pins s σ H x y v u Q I rx ry h
  obtain ⟨i, j, rfl, rfl, q⟩ := h
  obtain ⟨t, rfl⟩ := rx
  obtain ⟨t', rfl⟩ := ry
  exact rule i j t t' s _ _ ⟨.int (g i j), H, I.tok _, ⟨_, rfl⟩, q⟩
theorem opB0 {f : Value → Value → Sem Value} {g : Int → Int → Bool}
    (rule : ∀ (i j : Int) (t u : Tok) (s : Shared) (Q : Value → Shared → Prop) (E : Value → Shared → Prop), Q (.bool (g i j)) s → wpAny (model X.prog X.w) X.A (f (.int i t) (.int j u)) Q E s) :
    OpR X f (rI0 fun i j => .bl (g i j)) := by
  intro pins s σ H x y v u Q I rx ry h
  obtain ⟨i, j, rfl, rfl, q⟩ := h
  obtain ⟨t, rfl⟩ := rx
  obtain ⟨t', rfl⟩ := ry
  exact rule i j t t' s _ _ ⟨.bl (g i j), H, I, rfl, q⟩
def CDiv (i j : Int) : Prop := 0 < j ∧ j < 1073741824
def CPow (i j : Int) : Prop := 0 ≤ j ∧ j ≤ 1000000 ∧ i.natAbs < 2 ^ 64
def CMul (i j : Int) : Prop := (-(2 ^ 64) < i ∧ i < 2 ^ 64) ∨ (-(2 ^ 64) < j ∧ j < 2 ^ 64)
theorem CMul.ok {i j : Int} (h : CMul i j) : IntMulOk i j := by
  rcases h with ⟨h1, h2⟩ | ⟨h1, h2⟩
  · exact .of_left (intBits_le_64 h1 h2)
  · exact .of_right (intBits_le_64 h1 h2)
theorem op_add : OpR X (binaryOp .Add) (rI0 fun i j => .int (i + j)) := opI0 fun _ _ _ _ _ _ _ q => add_int q
theorem op_sub : OpR X (binaryOp .Sub) (rI0 fun i j => .int (i - j)) := opI0 fun _ _ _ _ _ _ _ q => sub_int q
theorem op_mul : OpR X (binaryOp .Mult) (rI CMul fun i j => .int (i * j)) := opI fun _ _ _ _ _ _ _ hc q => mul_int q hc.ok
theorem op_fdiv : OpR X (binaryOp .FloorDiv) (rI CDiv fun i j => .int (i / j)) := opI fun i j _ _ _ _ _ hc q => by
  have h1 : (0 : Int) < j := hc.1
  have h2 : j < 1073741824 := hc.2
  exact floordiv_int (by lia) (by rw [Int.fdiv_eq_ediv_of_nonneg i (by lia)]; exact q) (.inl (PyProof.noPylong_small (by lia)))
theorem op_mod : OpR X (binaryOp .Mod) (rI (fun _ j => 0 < j) fun i j => .int (i % j)) := opI fun i j _ _ _ _ _ hc q => by
  have h1 : (0 : Int) < j := hc
  exact mod_int' (by lia) (by rw [Int.fmod_eq_emod_of_nonneg i (by lia)]; exact q)
theorem op_pow : OpR X (binaryOp .Pow) (rI CPow fun i j => .int (i ^ j.toNat)) := opI fun _ _ _ _ _ _ _ hc q => pow_int_small hc.1 hc.2.1 hc.2.2 q
end
def scal : V → V → Bool
  | .non, .non => true | .non, .int _ => true | .int _, .non => true | .non, .bl _ => true | .bl _, .non => true | .non, .str _ => true | .str _, .non => true
  | .int _, .int _ => true | .bl _, .bl _ => true | .str _, .str _ => true | .byt _, .byt _ => true
  | .int _, .str _ => true | .str _, .int _ => true | .bl _, .str _ => true | .str _, .bl _ => true
  | _, _ => false
def rEq : R2 := fun x y H Q => scal x y = true ∧ Q (.bl (decide (x = y))) H
def rNe : R2 := fun x y H Q => scal x y = true ∧ Q (.bl (!decide (x = y))) H
theorem dec_int {i j : Int} : decide (V.int i = V.int j) = (i == j) := by
  rw [Bool.eq_iff_iff]
  simp
theorem dec_bl {i j : Bool} : decide (V.bl i = V.bl j) = (i == j) := by
  rw [Bool.eq_iff_iff]
  simp
theorem dec_str {i j : Str} : decide (V.str i = V.str j) = (i == j) := by
  rw [Bool.eq_iff_iff]
  simp
theorem dec_byt {i j : Array UInt8} : decide (V.byt i = V.byt j) = (i.toList == j.toList) := by
  rw [Bool.eq_iff_iff]
  cases i
  cases j
  simp
section
variable {X : Cx} {a b c : Expr} {ta tb tc : TE} {pos : Pos}
theorem fin_bl {pins : List (Addr × Obj)} {σ : St} {H : Hp} {s : Shared} {Q : VK} {k k' : Bool} (I : Inv X pins σ H s) (q : Q (.bl k) H) (e : k = k') : EP X pins σ Q (.bool k') s := by
  subst e
  exact ⟨.bl k, H, I, rfl, q⟩
theorem op_eq : OpR X (compareOp .Eq) rEq := by
  intro pins s σ H x y v u Q I rx ry h
  obtain ⟨hs, q⟩ := h
  cases x with
  | non =>
    cases rx
    cases y with
    | non => cases ry; exact PySem.EqNone.eq_none_none (fin_bl I q (by simp))
    | bl j => cases ry; exact PySem.EqNone.eq_none_bool (fin_bl I q (by simp))
    | int j => obtain ⟨t', rfl⟩ := ry; exact PySem.EqNone.eq_none_int (fin_bl I q (by simp))
    | str j => obtain ⟨t', rfl⟩ := ry; exact PySem.EqNone.eq_none_str (fin_bl I q (by simp))
    | _ => exact absurd (show false = true from hs) Bool.false_ne_true
  | bl i =>
    cases rx
    cases y with
    | non => cases ry; exact PySem.EqNone.eq_bool_none (fin_bl I q (by simp))
    | bl j => cases ry; exact eq_bool (fin_bl I q dec_bl)
    | str j => obtain ⟨t', rfl⟩ := ry; exact PySem.EqMixed.eq_bool_str (fin_bl I q (by simp))
    | _ => exact absurd (show false = true from hs) Bool.false_ne_true
  | int i =>
    obtain ⟨t, rfl⟩ := rx
    cases y with
    | non => cases ry; exact PySem.EqNone.eq_int_none (fin_bl I q (by simp))
    | int j => obtain ⟨t', rfl⟩ := ry; exact eq_int (fin_bl I q dec_int)
    | str j => obtain ⟨t', rfl⟩ := ry; exact PySem.EqMixed.eq_int_str (fin_bl I q (by simp))
    | _ => exact absurd (show false = true from hs) Bool.false_ne_true
  | str i =>
    obtain ⟨t, rfl⟩ := rx
    cases y with
    | non => cases ry; exact PySem.EqNone.eq_str_none (fin_bl I q (by simp))
    | bl j => cases ry; exact PySem.EqMixed.eq_str_bool (fin_bl I q (by simp))
    | int j => obtain ⟨t', rfl⟩ := ry; exact PySem.EqMixed.eq_str_int (fin_bl I q (by simp))
    | str j => obtain ⟨t', rfl⟩ := ry; exact eq_str (fin_bl I q dec_str)
    | _ => exact absurd (show false = true from hs) Bool.false_ne_true
  | byt i =>
    obtain ⟨t, rfl⟩ := rx
    cases y with
    | byt j => obtain ⟨t', rfl⟩ := ry; exact PySem.W.eq_bytes (fin_bl I q dec_byt)
    | _ => exact absurd (show false = true from hs) Bool.false_ne_true
  | _ => cases y <;> exact absurd (show false = true from hs) Bool.false_ne_true
theorem op_ne : OpR X (compareOp .NotEq) rNe := by
  intro pins s σ H x y v u Q I rx ry h
  obtain ⟨hs, q⟩ := h
  cases x with
  | non =>
    cases rx
    cases y with
    | non => cases ry; exact PySem.EqNone.ne_none_none (fin_bl I q (by simp))
    | bl j => cases ry; exact PySem.EqNone.ne_none_bool (fin_bl I q (by simp))
    | int j => obtain ⟨t', rfl⟩ := ry; exact PySem.EqNone.ne_none_int (fin_bl I q (by simp))
    | str j => obtain ⟨t', rfl⟩ := ry; exact PySem.EqNone.ne_none_str (fin_bl I q (by simp))
    | _ => exact absurd (show false = true from hs) Bool.false_ne_true
  | bl i =>
    cases rx
    cases y with
    | non => cases ry; exact PySem.EqNone.ne_bool_none (fin_bl I q (by simp))
    | bl j => cases ry; exact ne_bool (fin_bl I q (congrArg not dec_bl))
    | str j => obtain ⟨t', rfl⟩ := ry; exact PySem.EqMixed.ne_bool_str (fin_bl I q (by simp))
    | _ => exact absurd (show false = true from hs) Bool.false_ne_true
  | int i =>
    obtain ⟨t, rfl⟩ := rx
    cases y with
    | non => cases ry; exact PySem.EqNone.ne_int_none (fin_bl I q (by simp))
    | int j => obtain ⟨t', rfl⟩ := ry; exact ne_int (fin_bl I q (congrArg not dec_int))
    | str j => obtain ⟨t', rfl⟩ := ry; exact PySem.EqMixed.ne_int_str (fin_bl I q (by simp))
    | _ => exact absurd (show false = true from hs) Bool.false_ne_true
  | str i =>
    obtain ⟨t, rfl⟩ := rx
    cases y with
    | non => cases ry; exact PySem.EqNone.ne_str_none (fin_bl I q (by simp))
    | bl j => cases ry; exact PySem.EqMixed.ne_str_bool (fin_bl I q (by simp))
    | int j => obtain ⟨t', rfl⟩ := ry; exact PySem.EqMixed.ne_str_int (fin_bl I q (by simp))
    | str j => obtain ⟨t', rfl⟩ := ry; exact ne_str (fin_bl I q (congrArg not dec_str))
    | _ => exact absurd (show false = true from hs) Bool.false_ne_true
  | byt i =>
    obtain ⟨t, rfl⟩ := rx
    cases y with
    | byt j => obtain ⟨t', rfl⟩ := ry; exact PySem.W.ne_bytes (fin_bl I q (congrArg not dec_byt))
    | _ => exact absurd (show false = true from hs) Bool.false_ne_true
  | _ => cases y <;> exact absurd (show false = true from hs) Bool.false_ne_true
theorem op_lt : OpR X (compareOp .Lt) (rI0 fun i j => .bl (decide (i < j))) := opB0 fun _ _ _ _ _ _ _ q => lt_int q
theorem op_le : OpR X (compareOp .LtE) (rI0 fun i j => .bl (decide (i ≤ j))) := opB0 fun _ _ _ _ _ _ _ q => le_int q
theorem op_gt : OpR X (compareOp .Gt) (rI0 fun i j => .bl (decide (j < i))) := opB0 fun _ _ _ _ _ _ _ q => gt_int q
theorem op_ge : OpR X (compareOp .GtE) (rI0 fun i j => .bl (decide (j ≤ i))) := opB0 fun _ _ _ _ _ _ _ q => ge_int q
theorem OpR.or {f : Value → Value → Sem Value} {r r' : R2} (h : OpR X f r) (h' : OpR X f r') : OpR X f (fun x y H Q => r x y H Q ∨ r' x y H Q) := by
  intro pins s σ H x y v u Q I rx ry q
  rcases q with q | q
  · exact h pins s σ H x y v u Q I rx ry q
  · exact h' pins s σ H x y v u Q I rx ry q
theorem nomark (b : Expr) {op : CmpOp} (h : op ≠ .In := by decide) (h2 : op ≠ .NotIn := by decide) : behindInMarks op b = false := by
  have e1 : (op == CmpOp.In) = false := by cases op <;> first | rfl | exact absurd rfl h
  have e2 : (op == CmpOp.NotIn) = false := by cases op <;> first | rfl | exact absurd rfl h2
  cases b <;> simp [behindInMarks, e1, e2]
theorem pe_cmpR {op : CmpOp} {r : R2} (ho : OpR X (compareOp op) r) (ha : PE X a ta) (hb : PE X b tb) (hm : behindInMarks op b = false) : PE X (.Compare a [op] [b] pos) (tOp r ta tb) := by
  intro pins s σ H Q I h
  exact wpAny_Compare1 (binT ha hb I h fun v u s2 x y H2 I2 rx ry q => ho pins s2 σ H2 x y v u Q I2 rx ry q) hm
def tTest (t : TE) : TT := fun σ H Q => t σ H fun x H' => ∃ k, x = .bl k ∧ Q k H'
theorem pt_cmpR {op : CmpOp} {r : R2} (ho : OpR X (compareOp op) r) (ha : PE X a ta) (hb : PE X b tb) (hm : behindInMarks op b = false) : PT X (.Compare a [op] [b] pos) (tTest (tOp r ta tb)) := by
  intro pins s σ H Q I h
  refine wpAny_isTrue_Compare1 (thn (ha pins s σ H _ I h) fun v s1 ⟨x, H1, I1, r1, q1⟩ => thn (hb pins s1 σ H1 _ I1 q1) fun u s2 ⟨y, H2, I2, r2, q2⟩ =>
    thn (ho pins s2 σ H2 x y v u _ I2 r1 r2 q2) fun c s3 ⟨z, H3, I3, r3, k, e, q3⟩ => ?_) hm
  subst e
  cases r3
  exact wpAny_truthy_bool ⟨H3, I3, q3⟩
def tChain (r r' : R2) (ta tb tc : TE) : TE := fun σ H Q => ta σ H fun x H1 => tb σ H1 fun y H2 => r x y H2 fun z H3 => ∃ k, z = .bl k ∧
  (if k = true then tc σ H3 fun w' H4 => r' y w' H4 Q else Q (.bl false) H3)
theorem pt_chain {op op' : CmpOp} {r r' : R2} (ho : OpR X (compareOp op) r) (ho' : OpR X (compareOp op') r') (ha : PE X a ta) (hb : PE X b tb) (hc : PE X c tc)
    (hm : lastMarks [op, op'] [b, c] = false := by with_unfolding_all rfl) : PT X (.Compare a [op, op'] [b, c] pos) (tTest (tChain r r' ta tb tc)) := by
  intro pins s σ H Q I h
  refine isTrue_chain (thn (ha pins s σ H _ I h) fun v s1 ⟨x, H1, I1, r1, q1⟩ => test_link (thn (hb pins s1 σ H1 _ I1 q1) fun u s2 ⟨y, H2, I2, r2, q2⟩ =>
    thn (ho pins s2 σ H2 x y v u _ I2 r1 r2 q2) fun d s3 ⟨z, H3, I3, r3, k, e, q3⟩ => ?_)) hm
  subst e
  cases r3
  refine wpAny_truthy_bool ?_
  cases k with
  | false =>
    obtain ⟨k', e', q'⟩ := q3
    cases e'
    exact ite_ff ⟨H3, I3, q'⟩
  | true =>
    refine ite_tt (test_last (thn (hc pins s3 σ H3 _ I3 q3) fun w' s4 ⟨z', H4, I4, r4, q4⟩ => thn (ho' pins s4 σ H4 y z' u w' _ I4 r2 r4 q4) fun d' s5 ⟨z2, H5, I5, r5, k2, e2, q5⟩ => ?_))
    subst e2
    cases r5
    exact wpAny_truthy_bool ⟨H5, I5, q5⟩
theorem line63 : (sizeLine : Nat) < 2 ^ 63 := by rw [sizeLine_eq]; decide
theorem op_add_str : OpR X (binaryOp .Add) (fun x y H Q => ∃ i j, x = .str i ∧ y = .str j ∧ i.length + j.length ≤ sizeLine ∧ Q (.str (i ++ j)) H) := by
  intro pins s σ H x y v u Q I rx ry h
  obtain ⟨i, j, rfl, rfl, hz, q⟩ := h
  obtain ⟨t, rfl⟩ := rx
  obtain ⟨t', rfl⟩ := ry
  exact add_str (fun t' tk => ⟨.str (i ++ j), H, I.tok _, ⟨_, rfl⟩, q⟩) hz
theorem vals1 {x : V} {us : List Value} (r : Vals [x] us) : ∃ u, us = [u] ∧ RelV x u := by
  cases r with
  | cons r1 r2 => cases r2; exact ⟨_, rfl, r1⟩
theorem vals2 {x y : V} {us : List Value} (r : Vals [x, y] us) : ∃ u w', us = [u, w'] ∧ RelV x u ∧ RelV y w' := by
  cases r with
  | cons r1 r2 =>
    cases r2 with
    | cons r3 r4 => cases r4; exact ⟨_, _, rfl, r1, r3⟩
theorem call_int1 : CallR X (.type "int") (fun xs H Q => (∃ i, xs = [.int i] ∧ Q (.int i) H) ∨ ∃ k, xs = [.bl k] ∧ Q (.int (if k then 1 else 0)) H) := by
  intro pins s σ H xs us Q I r h
  rcases h with ⟨i, rfl, q⟩ | ⟨k, rfl, q⟩
  · obtain ⟨u, rfl, t, rfl⟩ := vals1 r
    exact call_int_int ⟨.int i, H, I, ⟨_, rfl⟩, q⟩
  · obtain ⟨u, rfl, r1⟩ := vals1 r
    cases r1
    exact call_int_bool ⟨.int (if k then 1 else 0), H, I.tok _, ⟨_, rfl⟩, q⟩
end
end L2
namespace L2
open PySem PySem.Spec PyProof.Rows
structure ObjM (h : Heap) (x dx C : Addr) (mA : Str → Option Value) : Prop where
  obj : h.get? x = some (PySem.W.instObj C dx)
  ns : h.Ns1 dx mA
  ne : dx ≠ x
theorem lookIn_ns {h : Heap} {dx : Addr} {mA : Str → Option Value} (n : h.Ns1 dx mA) : ∃ od, h.get? dx = some od ∧ ∀ name, PySem.W.lookIn name od = some (mA name) := by
  obtain ⟨o, es, ep, ho, hd, hk, _, hm⟩ := n
  refine ⟨o, ho, fun name => ?_⟩
  have e := hm name
  unfold nsFind findBy at e
  rw [← Array.find?_toList] at e
  unfold PySem.W.lookIn
  rw [hd]
  dsimp only
  split
  · rename_i y q
    rw [q] at e
    exact congrArg some e
  · rename_i q
    rw [q] at e
    have a : es.toList.any (·.refKey) = false := by
      rw [List.any_eq_false]
      intro y hy
      obtain ⟨z, t, hkey⟩ := hk y (Array.mem_toList_iff.mp hy)
      simp [DictEntry.refKey, hkey]
    have a' : ¬ es.toList.any (·.refKey) = true := by rw [a]; exact Bool.false_ne_true
    rw [if_neg a']
    exact congrArg some e
theorem ObjM.look {h : Heap} {x dx C : Addr} {mA : Str → Option Value} (I : ObjM h x dx C mA) : ∃ od, PySem.W.InstAt h x (PySem.W.instObj C dx) C (some od) ∧ ∀ name, PySem.W.lookIn name od = some (mA name) :=
  let ⟨od, ho, hl⟩ := lookIn_ns I.ns
  ⟨od, ⟨I.obj, rfl, rfl, ho⟩, hl⟩
section
variable {prog : Program} {w : World} {A : Around} {E : Value → Shared → Prop} {s : Shared} {K : PySem.W.Frag} {x dx C f : Addr} {mA : Str → Option Value} {name : Str} {v : Value}
end
theorem RelO.none_of {o : Option Value} (r : RelO none o) : o = none := by
  cases o with
  | none => rfl
  | some u => exact (show False from r).elim
section
variable {P : Program} {w : World} {H H' : Hp} {h h' : Heap} {a C dx : Addr} {fs fs' : List (Str × V)}
theorem ins_get (hok : HOk P w H h) (e : H a = some (.ins C dx fs)) : ∃ mA, ObjM h a dx C mA ∧ (∀ f, RelO (fs.lookup f) (mA f)) ∧ PySem.Within mA (fs.map (·.1)) ∧ fs.length ≤ 1000 ∧ H dx = some (.own a) := by
  obtain ⟨d, z, ne, ob, mA, n, r, q⟩ := (show ObjOk P w H h a (.ins C dx fs) from hok a _ e)
  exact ⟨mA, ⟨ob, n, ne⟩, r, q, z, d⟩
end
structure Cls (K : PySem.W.Frag) (C : Addr) : Prop where
  pg : PySem.W.plainGet K C Str.empty = true
  hd : PySem.W.hasDictIn K C = true
  po : PySem.W.plainOver K C = true
  sa : PySem.W.findIn K (.ref C) "__setattr__" = some (some (.builtin "object.__setattr__"))
theorem Cls.get {K : PySem.W.Frag} {C : Addr} (c : Cls K C) (f : Str) : PySem.W.plainGet K C f = true := c.pg
structure Con (K : PySem.W.Frag) (C : Addr) (f : Str) (v : V) (u : Value) : Prop where
  at_ : PySem.W.findIn K (.ref C) f = some (some u)
  rel : RelV v u
  get : PySem.W.specialIn K u "__get__" = some none
  cp : PySem.W.copiedNames.contains f = false
structure Meth (K : PySem.W.Frag) (C : Addr) (m : Str) (f : Addr) : Prop where
  at_ : PySem.W.findIn K (.ref C) m = some (some (.ref f))
  fn : PySem.W.isFn K (.ref f) = true
  kp : PySem.W.keepIn K (.ref f) = true
section
variable {X : Cx} {pins : List (Addr × Obj)} {σ : St} {H : Hp} {s : Shared} {a C dx : Addr} {fs : List (Str × V)} {f : Str} {v : V} {A : Around} {E : Value → Shared → Prop}
end
section
variable {X : Cx} {o e value : Expr} {f : Str} {pos pos' tpos : Pos} {ta tv : TE}
end
section
variable {X : Cx} {pins : List (Addr × Obj)} {σ : St} {H : Hp} {s : Shared} {A : Around} {E : Value → Shared → Prop} {Q : Value → Shared → Prop} {c : Value} {b : Bool}
inductive TyOf (K : PySem.W.Frag) (H : Hp) : V → Value → Prop where
  | non : TyOf K H .non (.type "NoneType")
  | bl (x : Bool) : TyOf K H (.bl x) (.type "bool")
  | int (i : Int) : TyOf K H (.int i) (.type "int")
  | str (x : Str) : TyOf K H (.str x) (.type "str")
  | flt (x : UInt64) : TyOf K H (.flt x) (.type "float")
  | lst {a : Addr} {xs : List V} (e : H a = some (.lst xs)) : TyOf K H (.ref a) (.type "list")
  | frz {a : Addr} {o : Obj} {xs : List V} (e : H a = some (.frz o (.lst xs))) : TyOf K H (.ref a) (.type "list")
  | tup {a : Addr} {xs : List V} (e : H a = some (.tup xs)) : TyOf K H (.ref a) (.type "tuple")
  | dK {a : Addr} {kvs : List (Key × V)} (e : H a = some (.dK kvs)) : TyOf K H (.ref a) (.type "dict")
  | dT {a : Addr} {kvs : List (List Key × V)} (e : H a = some (.dT kvs)) : TyOf K H (.ref a) (.type "dict")
  | ins {a C dx : Addr} {fs : List (Str × V)} (e : H a = some (.ins C dx fs)) (cl : Cls K C) (ha : PySem.W.findIn K (.ref C) "__class__" = some (some (.builtin "object.__class__")))
      (hn : PySem.W.specialIn K (.builtin "object.__class__") "__get__" = some (some (.builtin "getset_descriptor.__get__"))) (htk : PySem.W.takesIn K (.builtin "object.__class__") = some true)
      (hm : PySem.W.mroIn K C (.type "object") = some true) : TyOf K H (.ref a) (.ref C)
theorem isinst_ok {x : V} {u t : Value} (I : Inv X pins σ H s) (rx : RelV x u) (ty : TyOf X.K H x t) (e : PySem.W.kitOne X.K t c = some b) (h : ∀ tk, Q (.bool b) { s with toks := tk }) :
    wpAny (model X.prog X.w) A (call (.builtin "isinstance") [u, c]) Q E s := by
  cases ty with
  | non => cases (show u = Value.none from rx); exact PySem.W.kia_one PySem.W.kitx_none I.kIn True.intro e (fun z => nomatch z) h
  | bl y => cases (show u = Value.bool y from rx); exact PySem.W.kia_one PySem.W.kitx_bool I.kIn True.intro e (fun z => nomatch z) h
  | int i => obtain ⟨t, q⟩ := (show ∃ t, u = Value.int i t from rx); cases q; exact PySem.W.kia_one PySem.W.kitx_int I.kIn True.intro e (fun z => nomatch z) h
  | str y => obtain ⟨t, q⟩ := (show ∃ t, u = Value.str y t from rx); cases q; exact PySem.W.kia_one PySem.W.kitx_str I.kIn True.intro e (fun z => nomatch z) h
  | flt y => obtain ⟨t, q⟩ := (show ∃ t, u = Value.float y t from rx); cases q; exact PySem.W.kia_one PySem.W.kitx_float I.kIn True.intro e (fun z => nomatch z) h
  | @lst a xs ea =>
    cases (show u = Value.ref a from rx)
    obtain ⟨_, _, n, _, h1⟩ := (show ObjOk X.prog X.w H s.heap a (.lst xs) from I.hok a _ ea)
    exact PySem.W.kia_one PySem.W.kitx_list I.kIn ⟨_, h1, rfl⟩ e (fun z => nomatch z) h
  | @frz a ob xs ea =>
    cases (show u = Value.ref a from rx)
    obtain ⟨_, _, _, n, _, h1⟩ := (show ObjOk X.prog X.w H s.heap a (.frz ob (.lst xs)) from I.hok a _ ea)
    exact PySem.W.kia_one PySem.W.kitx_list I.kIn ⟨_, h1, rfl⟩ e (fun z => nomatch z) h
  | @tup a xs ea =>
    cases (show u = Value.ref a from rx)
    obtain ⟨_, _, _, p⟩ := (show ObjOk X.prog X.w H s.heap a (.tup xs) from I.hok a _ ea)
    obtain ⟨o, h1, h2, _⟩ := p
    exact PySem.W.kia_one PySem.W.kitx_tuple I.kIn ⟨o, h1, h2⟩ e (fun z => nomatch z) h
  | @dK a kvs ea =>
    cases (show u = Value.ref a from rx)
    obtain ⟨_, _, vs, _, p⟩ := (show ObjOk X.prog X.w H s.heap a (.dK kvs) from I.hok a _ ea)
    obtain ⟨o, es, ep, h1, h2, _⟩ := p
    exact PySem.W.kia_one PySem.W.kitx_dict I.kIn ⟨o, h1, h2.1⟩ e (fun z => nomatch z) h
  | @dT a kvs ea =>
    cases (show u = Value.ref a from rx)
    obtain ⟨_, _, xs, _, o, es, ep, h1, h2, _⟩ := (show ObjOk X.prog X.w H s.heap a (.dT kvs) from I.hok a _ ea)
    exact PySem.W.kia_one PySem.W.kitx_dict I.kIn ⟨o, h1, h2.1⟩ e (fun z => nomatch z) h
  | @ins a C dx fs ea cl ha hn htk hm =>
    cases (show u = Value.ref a from rx)
    obtain ⟨mA, O, _⟩ := ins_get I.hok ea
    obtain ⟨od, J, _⟩ := O.look
    exact PySem.W.kia_one (PySem.W.kitx_own (cl.get _) cl.hd ha hn htk hm) I.kIn J e (fun z => nomatch z) h
end
end L2
namespace L2
open PySem PySem.Spec PyProof.Rows
structure Room (k : Nat) (A : Around) : Prop where
  hd : A.handled = none
  dp : A.depth + 3 * k + 5 < recursionLimit
  un : A.units + 16 * k + 200 < cLine
  gd : A.guards = some []
theorem Room.mono {j k : Nat} {A : Around} (r : Room k A) (h : j ≤ k) : Room j A := ⟨r.hd, by have := r.dp; lia, by have := r.un; lia, r.gd⟩
theorem Room.deeper {k : Nat} {A : Around} (r : Room (k + 1) A) (env : Env) : Room k (A.deeper env) :=
  ⟨r.hd, by have := r.dp; show A.depth + 1 + 3 * k + 5 < _; lia, by have := r.un; show A.units + 3 + 16 * k + 200 < _; lia, r.gd⟩
theorem Room.in1 {k : Nat} {A : Around} (r : Room (k + 1) A) : Room k A.in1 :=
  ⟨r.hd, by have := r.dp; show A.depth + 3 * k + 5 < _; lia, by have := r.un; show A.units + 1 + 16 * k + 200 < _; lia, r.gd⟩
theorem make_depth {A : Around} {C : Addr} {us : List Value} {kw : List (Str × Value)} : (A.under (.builtin "type.__call__" ⟨.ref C :: us, kw⟩)).depth = A.depth + 1 := by
  first | rfl | simp [Around.under, Code.weight, Code.isCreation, Code.isGuard, Code.isCaller, Code.frames, Code.isFrame, guardIds]
theorem make_units {A : Around} {C : Addr} {us : List Value} {kw : List (Str × Value)} : (A.under (.builtin "type.__call__" ⟨.ref C :: us, kw⟩)).units = A.units + 1 := by
  first | rfl | simp [Around.under, Code.cUnits, Code.frames, Code.isFrame]
theorem make_guards {A : Around} {C : Addr} {us : List Value} {kw : List (Str × Value)} : (A.under (.builtin "type.__call__" ⟨.ref C :: us, kw⟩)).guards = A.guards := by
  have h : (Code.builtin "type.__call__" ⟨.ref C :: us, kw⟩).guards = [] := by rfl
  simp only [Around.under, h]
  cases A.guards <;> rfl
theorem Room.make {k : Nat} {A : Around} (r : Room (k + 1) A) (C : Addr) (us : List Value) (kw : List (Str × Value)) : Room k (A.under (.builtin "type.__call__" ⟨.ref C :: us, kw⟩)) :=
  ⟨r.hd, by have := r.dp; rw [make_depth]; lia, by have := r.un; rw [make_units]; lia, by rw [make_guards]; exact r.gd⟩
theorem Room.depth {k : Nat} {A : Around} (r : Room k A) : A.depth < recursionLimit := by have := r.dp; lia
theorem Room.units {k : Nat} {A : Around} (r : Room k A) : A.units + 64 < cLine := by have := r.un; lia
def tNil : TA := fun _ H Q => Q [] H
def tCons (ta : TE) (tr : TA) : TA := fun σ H Q => ta σ H fun x H1 => tr σ H1 fun xs H2 => Q (x :: xs) H2
section
variable {X : Cx} {e : Expr} {es : List Expr} {te : TE} {t : TA} {pos : Pos}
theorem pa_nil : PA X [] tNil := fun _ _ _ _ H Q I h => Calls.spliced_nil ⟨[], H, I, .nil, h⟩
theorem pa_cons (ha : PE X e te) (hr : PA X es t) (hs : starEach (e :: es) X.env = (false, eval e X.env) :: starEach es X.env := by rfl) : PA X (e :: es) (tCons te t) := by
  intro pos pins s σ H Q I h
  rw [hs]
  show wpAny _ _ (spliced ((false, eval e X.env) :: backTo pos (starEach es X.env))) _ _ s
  refine Calls.spliced_cons (thn (ha pins s σ H _ I h) fun u s1 ⟨x, H1, I1, r1, q1⟩ => ?_)
  exact thn (hr pos pins s1 σ H1 _ I1 q1) fun us s2 ⟨xs, H2, I2, r2, q2⟩ => ⟨x :: xs, H2, I2, .cons r1 r2, q2⟩
def tTup (t : TA) : TE := fun σ H Q => t σ H fun xs H1 => xs.length ≤ sizeLine ∧ ∀ p, H1 p = none → Q (.ref p) (upd H1 p (.tup xs))
def tLst (t : TA) : TE := fun σ H Q => t σ H fun xs H1 => xs.length ≤ sizeLine ∧ ∀ p, H1 p = none → Q (.ref p) (upd H1 p (.lst xs))
theorem pe_tup {x1} (h : PA X es t) : PE X (.Tuple es x1 pos) (tTup t) := by
  intro pins s σ H Q I hq
  refine wpAny_Tuple_spliced (thn (h pos pins s σ H _ I hq) fun us s1 ⟨xs, H1, I1, r, z, q⟩ => ⟨by rw [← r.length]; exact z, ?_⟩)
  have hf : H1 s1.heap.objs.size = none := I1.hok.fresh (Nat.le_refl _)
  refine ⟨.ref s1.heap.objs.size, upd H1 s1.heap.objs.size (.tup xs), I1.laid (t' := s1.toks) (fun b u e => Heap.get?_push_of_some _ e) (Nat.le_refl _) ?_, rfl, q _ hf⟩
  exact ⟨z, us, r, ⟨_, Heap.get?_push_size _ rfl, rfl, _, rfl⟩⟩
theorem pe_lst (h : PA X es t) : PE X (.List es pos) (tLst t) := by
  intro pins s σ H Q I hq
  refine wpAny_List_spliced (thn (h pos pins s σ H _ I hq) fun us s1 ⟨xs, H1, I1, r, z, q⟩ => ⟨by rw [← r.length]; exact z, ?_⟩)
  have hf : H1 s1.heap.objs.size = none := I1.hok.fresh (Nat.le_refl _)
  refine ⟨.ref s1.heap.objs.size, upd H1 s1.heap.objs.size (.lst xs), I1.laid (t' := s1.toks) (fun b u e => Heap.get?_push_of_some _ e) (Nat.le_refl _) ?_, rfl, q _ hf⟩
  exact ⟨z, us, 0, r, Heap.get?_push_size _ rfl⟩
end
abbrev Sp := List V → Hp → VK → XK → Prop
abbrev CXT := List Env → Hp → Shared → XK → Value → Shared → Prop
structure Env0 (P : Program) (w : World) (K : PySem.W.Frag) (mg : Str → Option Value) (base : Heap) (A : Around) (outer : List Env) (s : Shared) (H : Hp) : Prop where
  frames : A.frames = some outer
  mod : Mod K mg base
  bs : ∀ b o, base.get? b = some o → s.heap.get? b = some o ∧ H b = none
  bsz : base.objs.size ≤ s.heap.objs.size
  funs : s.heap.FunFrames base outer
  frf : ∀ b ∈ frs outer, H b = none
  hok : HOk P w H s.heap
  bare : AllBare s.gens
def CE (outer : List Env) (P : Program) (w : World) (H : Hp) (s : Shared) (Q : VK) (u : Value) (s' : Shared) : Prop :=
  ∃ v H', s'.os = s.os ∧ AllBare s'.gens ∧ Un (frs outer) [] H H' s.heap s'.heap ∧ HOk P w H' s'.heap ∧ RelV v u ∧ Q v H'
def CR (CX : CXT) (outer : List Env) (P : Program) (w : World) (H : Hp) (s : Shared) (Q : VK) (E : XK) (r : Result) (s' : Shared) : Prop :=
  match r with
  | .ok (.ret u) => CE outer P w H s Q u s'
  | .ok _ => False
  | .error e => CX outer H s E e s'
structure FnOk (P : Program) (w : World) (K : PySem.W.Frag) (mg : Str → Option Value) (base : Heap) (CX : CXT) (k : Nat) (f : Addr) (fd : FuncData) (ps : List Str) (sp : Sp) : Prop where
  len : ∀ vs H Q E, sp vs H Q E → vs.length = ps.length
  run : ∀ (A : Around) (outer : List Env) (s : Shared) (H : Hp) (args : Args) (us : List Value) (vs : List V) (Q : VK) (E : XK), Room k A → Env0 P w K mg base A outer s H → BindsTo s fd args (ps.zip us) → Vals vs us → sp vs H Q E →
    codeAny (model P w) A (.call (.ref f) args) (CR CX outer P w H s Q E) s
theorem FnOk.mono {P : Program} {w : World} {K : PySem.W.Frag} {mg : Str → Option Value} {base : Heap} {CX : CXT} {j k : Nat} {f : Addr} {fd : FuncData} {ps : List Str} {sp : Sp} (F : FnOk P w K mg base CX j f fd ps sp) (h : j ≤ k) :
    FnOk P w K mg base CX k f fd ps sp := ⟨F.len, fun A outer s H args us vs Q E hr => F.run A outer s H args us vs Q E (hr.mono h)⟩
theorem FnOk.imp {P : Program} {w : World} {K : PySem.W.Frag} {mg : Str → Option Value} {base : Heap} {CX : CXT} {k : Nat} {f : Addr} {fd : FuncData} {ps : List Str} {sp sp' : Sp} (F : FnOk P w K mg base CX k f fd ps sp)
    (h : ∀ vs H Q E, sp' vs H Q E → sp vs H Q E) : FnOk P w K mg base CX k f fd ps sp' :=
  ⟨fun vs H Q E q => F.len vs H Q E (h _ _ _ _ q), fun A outer s H args us vs Q E hr he hb hv hs => F.run A outer s H args us vs Q E hr he hb hv (h _ _ _ _ hs)⟩
theorem Env0.make {P : Program} {w : World} {K : PySem.W.Frag} {mg : Str → Option Value} {base : Heap} {A : Around} {outer : List Env} {s : Shared} {H : Hp} (e : Env0 P w K mg base A outer s H) (C : Addr) (us : List Value) (kw : List (Str × Value)) :
    Env0 P w K mg base (A.under (.builtin "type.__call__" ⟨.ref C :: us, kw⟩)) outer s H := ⟨by first | exact e.frames | (simpa [Around.under, Code.envs, Code.isFrame, pushEnvs] using e.frames), e.mod, e.bs, e.bsz, e.funs, e.frf, e.hok, e.bare⟩
theorem Env0.in1 {P : Program} {w : World} {K : PySem.W.Frag} {mg : Str → Option Value} {base : Heap} {A : Around} {outer : List Env} {s : Shared} {H : Hp} (e : Env0 P w K mg base A outer s H) :
    Env0 P w K mg base A.in1 outer s H := ⟨e.frames, e.mod, e.bs, e.bsz, e.funs, e.frf, e.hok, e.bare⟩
section
variable {X : Cx} {pins : List (Addr × Obj)} {σ : St} {H : Hp} {s s' : Shared}
theorem Inv.env0 (I : Inv X pins σ H s) : Env0 X.prog X.w X.K X.mg X.base X.A X.stack s H :=
  ⟨I.ok.frames, I.ok.mod, I.bs, Nat.le_trans I.ok.bsz I.sz, I.stack, I.stkFree, I.hok, I.bare⟩
theorem Inv.after {Q : VK} {u : Value} (I : Inv X pins σ H s) (h : CE X.stack X.prog X.w H s Q u s') : EP X pins σ Q u s' := by
  obtain ⟨v, H', os, bare, un, hok, r, q⟩ := h
  obtain ⟨hh, g, d, t, os'⟩ := s'
  obtain rfl : os' = s.os := os
  exact ⟨v, H', I.call (h' := hh) (g' := g) (d' := d) (t' := t) (ch := []) un hok bare (fun b z => absurd z (by simp)), r, q⟩
end
def tCall (sp : Sp) (dvs : List V) (E : XK) (t : TA) : TE := fun σ H Q => t σ H fun vs H1 => sp (vs ++ dvs) H1 Q E
def Binds (K : PySem.W.Frag) (fd : FuncData) (ps : List Str) (ds : List Value) : Prop :=
  ∀ (s : Shared) (us : List Value), K.In s.heap → (us ++ ds).length = ps.length → BindsTo s fd ⟨us, []⟩ (ps.zip (us ++ ds))
theorem Binds.all {K : PySem.W.Frag} {fd : FuncData} {ps : List Str} (h : ∀ us : List Value, us.length = ps.length → bindArgs fd ⟨us, []⟩ = pure (ps.zip us)) : Binds K fd ps [] := fun s us _ hl => by
  rw [List.append_nil] at hl ⊢
  exact .of_eq (h us hl)
def Passes (CX : CXT) (X : Cx) (E : XK) : Prop := ∀ (pins : List (Addr × Obj)) (σ : St) (H : Hp) (s : Shared) (e : Value) (s' : Shared), Inv X pins σ H s → CX X.stack H s E e s' → X.xe e s'
section
variable {X : Cx} {CX : CXT} {k : Nat} {f C : Addr} {fd : FuncData} {ps : List Str} {sp : Sp} {dvs : List V} {ds : List Value} {E : XK} {x m : Str} {p pos apos : Pos} {e o : Expr} {es : List Expr} {ta : TE} {t : TA}
theorem run_fn {pins : List (Addr × Obj)} {σ : St} {H : Hp} {s : Shared} {Q : VK} {us : List Value} {vs : List V} (F : FnOk X.prog X.w X.K X.mg X.base CX k f fd ps sp) (hr : Room k X.A) (hb : Binds X.K fd ps ds) (hd : Vals dvs ds) (hx : Passes CX X E)
    (I : Inv X pins σ H s) (r : Vals vs us) (h : sp (vs ++ dvs) H Q E) : wpAny (model X.prog X.w) X.A (call (.ref f) us) (EP X pins σ Q) X.xe s := by
  have r2 : Vals (vs ++ dvs) (us ++ ds) := r.append hd
  have hl : (us ++ ds).length = ps.length := by rw [← r2.length]; exact F.len _ _ _ _ h
  refine wpAny_call (codeAny_mono (F.run X.A X.stack s H ⟨us, []⟩ (us ++ ds) (vs ++ dvs) Q E hr I.env0 (hb s us I.kIn hl) r2 h) fun r s' hq => ?_)
  cases r with
  | error e => exact hx pins σ H s e s' I hq
  | ok fl =>
    cases fl with
    | ret u => exact I.after hq
    | next => exact False.elim hq
    | brk => exact False.elim hq
    | cont => exact False.elim hq
theorem pe_call (F : FnOk X.prog X.w X.K X.mg X.base CX k f fd ps sp) (hr : Room k X.A) (hg : Gl X x) (hm : X.mg x = some (.ref f)) (hk : PySem.W.keepIn X.K (.ref f) = true) (hb : Binds X.K fd ps ds) (hd : Vals dvs ds) (hx : Passes CX X E)
    (ha : PA X (e :: es) t) (hdb : (x == ("__debug__" : Str)) = false := by decide) (he : starEach (e :: es) X.env = (false, eval e X.env) :: starEach es X.env := by rfl) (hpl : (backTo pos (starEach es X.env)).any (·.1) = false := by rfl) :
    PE X (.Call (.Name x p) (e :: es) [] pos) (tCall sp dvs E t) := by
  intro pins s σ H Q I h
  refine wpAny_Call_Name_kw (ld_glob I hg hm ?_ hdb)
  refine PySem.W.callWith_K (h₀ := X.base) I.ok.mod.kin hk (thn (ha pos pins s σ H _ I h) fun us s1 ⟨vs, H1, I1, r, q⟩ => ⟨I1.kIn, ?_⟩) he hpl
  exact run_fn F hr hb hd hx I1 r q
structure Mk (K : PySem.W.Frag) (C f : Addr) : Prop where
  makes : PySem.W.makesIn K C = true
  init : PySem.W.findIn K (.ref C) "__init__" = some (some (.ref f))
  fn : PySem.W.isFn K (.ref f) = true
  kp : PySem.W.keepIn K (.ref C) = true
end
section
variable {X : Cx} {CX : CXT} {k : Nat} {f C : Addr} {fd : FuncData} {ps ks : List Str} {sp : Sp} {E : XK} {x m : Str} {p pos apos kpos : Pos} {e o : Expr} {es : List Expr} {kws : List Keyword} {te ta : TE} {t tk : TA} {nm : Option Str}
structure KBinds (K : PySem.W.Frag) (fd : FuncData) (ps ks : List Str) (g : List Value → List Value → List Value) (gV : List V → List V → List V) : Prop where
  to : ∀ (s : Shared) (us ws : List Value), K.In s.heap → (g us ws).length = ps.length → BindsTo s fd ⟨us, ks.zip ws⟩ (ps.zip (g us ws))
  rel : ∀ {vs : List V} {us : List Value} {zs : List V} {ws : List Value}, Vals vs us → Vals zs ws → Vals (gV vs zs) (g us ws)
variable {g : List Value → List Value → List Value} {gV : List V → List V → List V}
end
structure FnScope (N P : List Str) (sc : Scope) : Prop where
  kind : sc.kind = .function
  co : sc.isCoroutine = false
  gen : sc.isGenerator = false
  nd : N.Nodup
  pre : N.take P.length = P
  par : ∀ x ∈ P, sc.names.lookup x = some .local ∨ sc.names.lookup x = some .cell
  nofree : ∀ y ∈ sc.names, y.2 ≠ .free
theorem bindL_out {kindOf : Str → Option NameKind} {x : Str} : ∀ {binds : List (Str × Value)} {m : Str → Option Value}, (∀ v, (x, v) ∉ binds) → bindL kindOf binds m x = m x
  | [], _, _ => rfl
  | (n, v) :: r, m, h => by
    unfold bindL
    rw [bindL_out fun w hw => h w (List.mem_cons_of_mem _ hw)]
    split
    · have : x ≠ n := by rintro rfl; exact h v List.mem_cons_self
      simp [this]
    · rfl
theorem bindC_out {kindOf : Str → Option NameKind} {x : Str} : ∀ {binds : List (Str × Value)} {m : Str → Option Value}, (∀ v, (x, v) ∉ binds) → bindC kindOf binds m x = m x
  | [], _, _ => rfl
  | (n, v) :: r, m, h => by
    unfold bindC
    rw [bindC_out fun w hw => h w (List.mem_cons_of_mem _ hw)]
    split
    · rfl
    · have : x ≠ n := by rintro rfl; exact h v List.mem_cons_self
      simp [this]
theorem bindL_get {kindOf : Str → Option NameKind} {x : Str} {v : Value} : ∀ {P : List Str} {vs : List Value} {i : Nat} {m : Str → Option Value}, P.Nodup → P[i]? = some x → vs[i]? = some v → kindOf x = some .local →
    bindL kindOf (P.zip vs) m x = some v
  | [], _, _, _, _, h, _, _ => by simp at h
  | _ :: _, [], _, _, _, _, h, _ => by simp at h
  | p :: P, w :: vs, 0, m, nd, h1, h2, hk => by
    simp at h1 h2; subst h1; subst h2
    show bindL kindOf ((p, w) :: P.zip vs) m p = _
    unfold bindL
    rw [bindL_out fun v hv => (List.nodup_cons.mp nd).1 (List.of_mem_zip hv).1, if_pos hk]
    simp
  | p :: P, w :: vs, i + 1, m, nd, h1, h2, hk => by
    show bindL kindOf ((p, w) :: P.zip vs) m x = _
    unfold bindL
    exact bindL_get (i := i) (List.nodup_cons.mp nd).2 (by simpa using h1) (by simpa using h2) hk
theorem bindC_get {kindOf : Str → Option NameKind} {x : Str} {v : Value} : ∀ {P : List Str} {vs : List Value} {i : Nat} {m : Str → Option Value}, P.Nodup → P[i]? = some x → vs[i]? = some v → kindOf x ≠ some .local →
    bindC kindOf (P.zip vs) m x = some v
  | [], _, _, _, _, h, _, _ => by simp at h
  | _ :: _, [], _, _, _, _, h, _ => by simp at h
  | p :: P, w :: vs, 0, m, nd, h1, h2, hk => by
    simp at h1 h2; subst h1; subst h2
    show bindC kindOf ((p, w) :: P.zip vs) m p = _
    unfold bindC
    rw [bindC_out fun v hv => (List.nodup_cons.mp nd).1 (List.of_mem_zip hv).1, if_neg hk]
    simp
  | p :: P, w :: vs, i + 1, m, nd, h1, h2, hk => by
    show bindC kindOf ((p, w) :: P.zip vs) m x = _
    unfold bindC
    exact bindC_get (i := i) (List.nodup_cons.mp nd).2 (by simpa using h1) (by simpa using h2) hk
def start (N : List Str) (vs : List V) : St := vs.map some ++ List.replicate (N.length - vs.length) none
def cxOf (CX : CXT) (P : Program) (w : World) (K : PySem.W.Frag) (mg : Str → Option Value) (base : Heap) (N : List Str) (qual : Str) (scope : Scope) (f : Addr) (cd : Value) (A : Around) (outer : List Env) (s : Shared) (H : Hp) (E : XK) : Cx where
  prog := P
  w := w
  K := K
  mg := mg
  base := base
  A := A.deeper (envOfC qual scope s.heap.objs.size f cd)
  N := N
  s₀ := s
  H₀ := H
  env := envOfC qual scope s.heap.objs.size f cd
  outer := outer
  stack := envOfC qual scope s.heap.objs.size f cd :: outer
  ex := []
  calm := true
  fn := fun _ => true
  pn := []
  xe := fun e s' => wpAny (model P w) (A.deeper (envOfC qual scope s.heap.objs.size f cd)) (leaving (envOfC qual scope s.heap.objs.size f cd) e) (fun _ s'' => CX outer H s E e s'') (fun e' s'' => CX outer H s E e' s'') s'
theorem cell_has {sc : Scope} {n : Nat} {x : Str} (h : sc.names.lookup x = some .cell) : ∃ c, (cellsFrom n sc.names []).lookup x = some c := by
  have q := PySem.W.cellsFrom_some sc.names n [] (.inl h)
  exact Option.isSome_iff_exists.mp q
theorem inv_start {CX : CXT} {P : Program} {w : World} {K : PySem.W.Frag} {mg : Str → Option Value} {base : Heap} {N ps : List Str} {qual : Str} {scope : Scope} {f : Addr} {cd : Value} {A : Around} {outer : List Env} {s s1 : Shared} {H : Hp} {E : XK} {us : List Value} {vs : List V}
    (S : FnScope N ps scope) (hd : A.handled = none) (e0 : Env0 P w K mg base A outer s H) (hl : vs.length = ps.length) (r : Vals vs us)
    (x : InCallC s s.heap.objs.size (bindL (envOfC qual scope s.heap.objs.size f cd).kindOf (ps.zip us) fun _ => none) (cellsFrom (s.heap.objs.size + 1) scope.names []) (bindC (envOfC qual scope s.heap.objs.size f cd).kindOf (ps.zip us) fun _ => none) s1) :
    Inv (cxOf CX P w K mg base N qual scope f cd A outer s H E) [] (start N vs) H s1 := by
  have hpl : ps.length ≤ N.length := by have := congrArg List.length S.pre; rw [List.length_take] at this; lia
  obtain ⟨h1, tk, rfl, hk⟩ := x.done
  have noA : ∀ b : Addr, b ∉ (cxOf CX P w K mg base N qual scope f cd A outer s H E).ex := fun b z => absurd (show b ∈ ([] : List Addr) from z) (by simp)
  refine ⟨⟨e0.mod, S.kind, rfl, rfl, Nat.le_refl _, fun y z c h1 h2 => ?_, fun y hy => ?_, fun y c _ h => ?_, fun _ => hd, Around.frames_deeper e0.frames, .inr ⟨rfl, rfl⟩, fun b z => absurd z (noA b), e0.bs, e0.bsz, fun b _ _ => noA b, fun b z => absurd z (noA b), e0.funs, e0.frf⟩,
    rfl, e0.bare, Un.kept hk, ⟨_, x.toInCall.ns, fun i y v h1 h2 h3 => ?_⟩, fun y c h => ⟨_, x.cell y c h⟩, e0.hok.fresh (Nat.le_refl _), fun y c h => ?_, fun p hp => absurd (show p ∈ ([] : List (Addr × Obj)) from hp) (by simp), e0.hok.kept hk, ?_⟩
  · exact name_of_addr x.apart (PySem.mem_of_lookup h1) (PySem.mem_of_lookup h2)
  · have hy : scope.names.lookup y = some .cell ∨ scope.names.lookup y = some .free := hy
    rcases hy with hy | hy
    · exact cell_has hy
    · exact absurd rfl (S.nofree _ (PySem.mem_of_lookup hy))
  · exact Nat.le_of_lt (x.above y c (PySem.mem_of_lookup h))
  · have hi : i < vs.length := by
      unfold start at h2
      by_cases hi : i < vs.length
      · exact hi
      · rw [List.getElem?_append_right (by simpa using hi)] at h2
        rw [List.getElem?_replicate] at h2
        split at h2 <;> cases h2
    have ha : vs[i]? = some v := by
      unfold start at h2
      rw [List.getElem?_append_left (by simpa using hi), List.getElem?_map] at h2
      cases e : vs[i]? with
      | none => rw [e] at h2; cases h2
      | some a => rw [e] at h2; cases h2; rfl
    obtain ⟨u, hu, rv⟩ := r.get ha
    have hp : ps[i]? = some y := by
      rw [← S.pre, List.getElem?_take_of_lt (by lia)]; exact h1
    have ndP : ps.Nodup := by rw [← S.pre]; exact S.nd.sublist (List.take_sublist _ _)
    refine ⟨u, rv, ?_⟩
    rcases S.par y (List.mem_of_getElem? hp) with k | k
    · exact .inl ⟨k, bindL_get ndP hp hu k⟩
    · obtain ⟨c, e⟩ := cell_has (n := s.heap.objs.size + 1) k
      refine .inr ⟨.inl k, c, e, ?_⟩
      have q := x.cell y c e
      rw [bindC_get ndP hp hu (by show scope.names.lookup y ≠ _; rw [k]; decide)] at q
      exact q
  · exact e0.hok.fresh (Nat.le_of_lt (x.above y c (PySem.mem_of_lookup h)))
  · unfold start
    show _ = N.length
    rw [List.length_append, List.length_map, List.length_replicate]
    lia
theorem fn_of {CX : CXT} {P : Program} {w : World} {K : PySem.W.Frag} {mg : Str → Option Value} {base : Heap} {k : Nat} {f : Addr} {name qual : Str} {params : Arguments} {body : List Stmt} {scope : Scope} {dV kV doc pm cdv ct oc : Value} {an od : Option Addr}
    {osl : Array (Option Value)} {N ps : List Str} {sp : Sp} (lk : K.lookup f = some ⟨oc, od, .func (PySem.W.fnOf name qual params body scope dV kV doc pm an cdv ct), osl⟩) (hcd : PySem.W.codeIn K cdv qual = true) (S : FnScope N ps scope)
    (len : ∀ vs H Q E, sp vs H Q E → vs.length = ps.length)
    (hbody : ∀ (A : Around) (outer : List Env) (s : Shared) (H : Hp) (vs : List V) (Q : VK) (E : XK), Room k (A.deeper (envOfC qual scope s.heap.objs.size f cdv)) → sp vs H Q E →
      ∃ t, PSs (cxOf CX P w K mg base N qual scope f cdv A outer s H E) body t ∧ t { nx := fun _ H' => Q .non H', rt := Q } (start N vs) H) :
    FnOk P w K mg base CX (k + 1) f (PySem.W.fnOf name qual params body scope dV kV doc pm an cdv ct) ps sp := by
  refine ⟨len, fun A outer s H args us vs Q E hr e0 hb r hsp => ?_⟩
  have hl := len _ _ _ _ hsp
  have KX : K.In s.heap := e0.mod.kin.keeps fun b o e => (e0.bs b o e).1
  have lim : s.heap.NoLimit := e0.mod.nolimit.keeps fun b o e => (e0.bs b o e).1
  have hkind : ∀ y ∈ ps.zip us, scope.names.lookup y.1 = some .local ∨ (scope.names.lookup y.1 = some .cell ∧ ((cellsFrom (s.heap.objs.size + 1) scope.names []).lookup y.1).isSome = true) := fun ⟨n, v⟩ hy => by
    rcases S.par n (List.of_mem_zip hy).1 with q | q
    · exact .inl q
    · exact .inr ⟨q, PySem.W.cellsFrom_some _ _ _ (.inl q)⟩
  refine codeAny_call_function hr.depth (KX _ _ lk) rfl S.co S.gen rfl (PySem.W.codeRec_of KX hcd) (hb _ _ _ _ ?_)
  refine wpAny_newFunctionEnv_cells S.kind hkind fun env he s1 x => ?_
  subst he
  refine ⟨lim.keeps x.toInCall.keep, codeAny_func ?_⟩
  obtain ⟨t, ht, hq⟩ := hbody A outer s H vs Q E (hr.deeper _) hsp
  have I : Inv (cxOf CX P w K mg base N qual scope f cdv A outer s H E) [] (start N vs) H s1 := inv_start S hr.hd e0 hl r x
  refine wpAny_mono (ht [] s1 (start N vs) H _ I hq) (fun fl s' hs => ?_) fun e s' hs => hs
  have fin : ∀ {σ' : St} {H' : Hp} {v : V} {u : Value}, Inv (cxOf CX P w K mg base N qual scope f cdv A outer s H E) [] σ' H' s' → RelV v u → Q v H' → CE outer P w H s Q u s' :=
    fun {σ' H' v u} J rv q => ⟨v, H', J.os, J.bare, J.base, J.hok, rv, q⟩
  cases fl with
  | ret u =>
    obtain ⟨v, σ', H', J, rv, q⟩ := hs
    exact fin J rv q
  | next =>
    obtain ⟨σ', H', J, q⟩ := hs
    exact fin (v := V.non) (u := Value.none) J rfl q
  | brk =>
    obtain ⟨_, _, _, q⟩ := hs
    exact False.elim q
  | cont =>
    obtain ⟨_, _, _, q⟩ := hs
    exact False.elim q
end L2
namespace L2
open PySem PySem.Spec PyProof.Rows
section
variable {X : Cx} {x : Str} {p pos : Pos} {e : Expr} {es : List Expr} {t : TA} {id T : String} {r : List V → Hp → VK → Prop}
def tCB (r : List V → Hp → VK → Prop) (t : TA) : TE := fun σ H Q => t σ H fun vs H1 => r vs H1 Q
theorem pe_callB (hc : CallR X (.builtin id) r) (hg : Gl X x) (hm : X.mg x = none) (hv : bootBuiltins x = some (.builtin id)) (ha : PA X (e :: es) t) (hn : x ≠ "__name__" := by decide) (hdb : (x == ("__debug__" : Str)) = false := by decide)
    (he : starEach (e :: es) X.env = (false, eval e X.env) :: starEach es X.env := by rfl) (hpl : (backTo pos (starEach es X.env)).any (·.1) = false := by rfl) : PE X (.Call (.Name x p) (e :: es) [] pos) (tCB r t) := by
  intro pins s σ H Q I h
  refine wpAny_Call_Name_kw (ld_blt I hg hm hv ?_ hn hdb)
  exact PyProof.Rows.callWith_builtin1 (thn (ha pos pins s σ H _ I h) fun us s1 ⟨vs, H1, I1, r1, q1⟩ => hc pins s1 σ H1 vs us Q I1 r1 q1) he hpl
theorem pe_callTy (hc : CallR X (.type T) r) (hg : Gl X x) (hm : X.mg x = none) (hv : bootBuiltins x = some (.type T)) (ha : PA X (e :: es) t) (hn : x ≠ "__name__" := by decide) (hdb : (x == ("__debug__" : Str)) = false := by decide)
    (he : starEach (e :: es) X.env = (false, eval e X.env) :: starEach es X.env := by rfl) (hpl : (backTo pos (starEach es X.env)).any (·.1) = false := by rfl) : PE X (.Call (.Name x p) (e :: es) [] pos) (tCB r t) := by
  intro pins s σ H Q I h
  refine wpAny_Call_Name_kw (ld_blt I hg hm hv ?_ hn hdb)
  exact PyProof.Rows.callWith_type1 (thn (ha pos pins s σ H _ I h) fun us s1 ⟨vs, H1, I1, r1, q1⟩ => hc pins s1 σ H1 vs us Q I1 r1 q1) he hpl
end
end L2
namespace HT
open PySem PyProof.Rows
theorem rcLt_int (A : Around) (s : Shared) (a : Int) (t : Tok) (c : Int) (u : Tok) (prog : Program) (w : World) (E : Value → Shared → Prop) (Q : Value → Shared → Prop) (h : Q (.bool (decide (a < c))) s) :
    wpAny (model prog w) A (richCompare .Lt (.int a t) (.int c u)) Q E s :=
  (PyProof.Rows.lt_int h : wpAny (model prog w) A (compareOp .Lt (.int a t) (.int c u)) Q E s)
section
open PySem.SeqAt
open PySem.AutoSeq1 (wpAny_loadPart')
open PySem.MeetsSeq PySem.MeetsSeq2 PySem.MeetsSeq3
end
section
variable {prog : Program} {w : World} {A : Around} {E : Value → Shared → Prop} {s : Shared}
def sIx (n d : Nat) : Option Int → Nat
  | none => d
  | some v => if v < 0 then (v + (n : Int)).toNat else min v.toNat n
theorem sIx_nat (n d k : Nat) : sIx n d (some (k : Int)) = min k n := by
  show (if (k : Int) < 0 then ((k : Int) + (n : Int)).toNat else min (k : Int).toNat n) = min k n
  rw [if_neg (by lia), Int.toNat_natCast]
end
end HT
namespace L2
open PySem PySem.Spec PyProof.Rows
abbrev TO := St → Hp → (Option Int → Hp → Prop) → Prop
def PO (X : Cx) (e : Option Expr) (t : TO) : Prop :=
  ∀ (pins : List (Addr × Obj)) (s : Shared) (σ : St) (H : Hp) (Q : Option Int → Hp → Prop), Inv X pins σ H s → t σ H Q →
    wpAny (model X.prog X.w) X.A (evalPart e X.env) (fun u s' => ∃ o H', Inv X pins σ H' s' ∧ IsPart u o ∧ Q o H') X.xe s
def tNoPart : TO := fun _ H Q => Q none H
def tPart (t : TE) : TO := fun σ H Q => t σ H fun x H1 => ∃ i, x = .int i ∧ Q (some i) H1
section
variable {X : Cx} {e : Expr} {te : TE} {lo hi : Option Expr} {tl th : TO} {pos p2 : Pos}
theorem po_none : PO X none tNoPart := by
  intro pins s σ H Q I h
  rw [evalPart_none]
  exact wpAny_pure ⟨none, H, I, .none, h⟩
theorem po_some (h : PE X e te) : PO X (some e) (tPart te) := by
  intro pins s σ H Q I hw
  rw [evalPart_some]
  refine thn (h pins s σ H _ I hw) fun u s1 ⟨x, H1, I1, r1, q1⟩ => ?_
  obtain ⟨i, rfl, q⟩ := q1
  obtain ⟨t, rfl⟩ := r1
  exact ⟨some i, H1, I1, .int i t, q⟩
def SlR (X : Cx) (r : V → Option Int → Option Int → Hp → VK → Prop) : Prop :=
  ∀ (pins : List (Addr × Obj)) (s : Shared) (σ : St) (H : Hp) (x : V) (v vl vu : Value) (lo hi : Option Int) (sl : Addr) (Q : VK), Inv X pins σ H s → RelV x v → s.heap.IsSliceOf sl vl vu .none → IsPart vl lo → IsPart vu hi → r x lo hi H Q →
    ∃ T id, typeLookup (.type T) "__getitem__" = pure (some (.builtin id)) ∧ s.TypeIs v T ∧ wpAny (model X.prog X.w) X.A (getItem v (.ref sl)) (EP X pins σ Q) X.xe s
theorem SlR.or {r r' : V → Option Int → Option Int → Hp → VK → Prop} (h : SlR X r) (h' : SlR X r') : SlR X (fun x lo hi H Q => r x lo hi H Q ∨ r' x lo hi H Q) := by
  intro pins s σ H x v vl vu lo hi sl Q I rx hs pl pu q
  rcases q with q | q
  · exact h pins s σ H x v vl vu lo hi sl Q I rx hs pl pu q
  · exact h' pins s σ H x v vl vu lo hi sl Q I rx hs pl pu q
def tSl (r : V → Option Int → Option Int → Hp → VK → Prop) (te : TE) (tl th : TO) : TE := fun σ H Q => te σ H fun x H1 => tl σ H1 fun l H2 => th σ H2 fun u H3 => r x l u H3 Q
theorem pe_slice {r : V → Option Int → Option Int → Hp → VK → Prop} (hr : SlR X r) (he : PE X e te) (hl : PO X lo tl) (hu : PO X hi th) : PE X (.Subscript e (.Slice lo hi none p2) pos) (tSl r te tl th) := by
  intro pins s σ H Q I h
  refine Subscript_ (thn (he pins s σ H _ I h) fun v s1 ⟨x, H1, I1, r1, q1⟩ => ?_)
  refine wpAny_Slice (thn (hl pins s1 σ H1 _ I1 q1) fun vl s2 ⟨l, H2, I2, pl, q2⟩ => thn (hu pins s2 σ H2 _ I2 q2) fun vu s3 ⟨u, H3, I3, pu, q3⟩ => ?_)
  rw [evalPart_none]
  refine wpAny_pure ?_
  have I4 : Inv X pins σ H3 { s3 with heap := s3.heap.push { cls := .type "slice", data := .fields #[vl, vu, .none] } } := I3.kept (t' := s3.toks) fun b ob q => Heap.get?_push_of_some _ q
  obtain ⟨T, id, hT, ht, hg⟩ := hr pins { s3 with heap := s3.heap.push { cls := .type "slice", data := .fields #[vl, vu, .none] } } σ H3 x v vl vu l u s3.heap.objs.size Q I4 r1 (Heap.IsSliceOf.new ..) pl pu q3
  show wpAny (model X.prog X.w) X.A (subscriptTail e (.Slice lo hi none p2) v (.ref s3.heap.objs.size)) (EP X pins σ Q) X.xe { s3 with heap := s3.heap.push { cls := .type "slice", data := .fields #[vl, vu, .none] } }
  exact tail_any (ops := [.ref s3.heap.objs.size, v]) ht hT hg (by with_unfolding_all rfl)
def cutV (xs : List V) (lo hi : Option Int) : List V := (xs.drop (HT.sIx xs.length 0 lo)).take (HT.sIx xs.length xs.length hi - HT.sIx xs.length 0 lo)
theorem cutV_length (xs : List V) (lo hi : Option Int) : (cutV xs lo hi).length ≤ xs.length := by
  unfold cutV
  rw [List.length_take, List.length_drop]
  lia
end
end L2
namespace L2
open PySem PySem.Spec PyProof.Rows
def ixN (n : Nat) (i : Int) : Option Nat := if 0 ≤ i then (if i < n then some i.toNat else none) else if -(n : Int) ≤ i then some (i + n).toNat else none
def atI {α : Type} (xs : List α) (i : Int) : Option α := (ixN xs.length i).bind fun j => xs[j]?
theorem ixN_seq {n : Nat} {i : Int} {j : Nat} (h : ixN n i = some j) : seqIndex? i n = some j ∧ j < n ∧ -(n : Int) ≤ i ∧ i < n := by
  unfold ixN at h
  by_cases h0 : 0 ≤ i
  · rw [if_pos h0] at h
    by_cases h1 : i < n
    · rw [if_pos h1] at h
      have e : i.toNat = j := Option.some.inj h
      exact ⟨by rw [seqIndex_of h0 h1, e], by lia, by lia, h1⟩
    · rw [if_neg h1] at h; cases h
  · rw [if_neg h0] at h
    by_cases h1 : -(n : Int) ≤ i
    · rw [if_pos h1] at h
      have e : (i + n).toNat = j := Option.some.inj h
      exact ⟨by rw [seqIndex_neg (by lia) h1, e], by lia, h1, by lia⟩
    · rw [if_neg h1] at h; cases h
theorem atI_get {α : Type} {xs : List α} {i : Int} {v : α} (h : atI xs i = some v) : ∃ j, seqIndex? i xs.length = some j ∧ xs[j]? = some v ∧ j < xs.length ∧ -(xs.length : Int) ≤ i ∧ i < xs.length := by
  unfold atI at h
  cases e : ixN xs.length i with
  | none => rw [e] at h; cases h
  | some j =>
    rw [e] at h
    obtain ⟨h1, h2, h3, h4⟩ := ixN_seq e
    exact ⟨j, h1, h, h2, h3, h4⟩
theorem atI_nat {α : Type} {xs : List α} {j : Nat} {v : α} (h : xs[j]? = some v) : atI xs (j : Int) = some v := by
  have hj : j < xs.length := (List.getElem?_eq_some_iff.mp h).1
  have e : ixN xs.length (j : Int) = some j := by
    unfold ixN
    rw [if_pos (by lia), if_pos (by lia)]; simp
  unfold atI; rw [e]; exact h
def PlainIx (b : Expr) : Prop := ∀ o i, subscripted b false o i = operate [o, i] (getItem o i)
def IxR (X : Cx) (r : R2) : Prop :=
  ∀ (value slice : Expr) (pins : List (Addr × Obj)) (s : Shared) (σ : St) (H : Hp) (x y : V) (v u : Value) (Q : VK), Inv X pins σ H s → RelV x v → RelV y u → r x y H Q →
    subscripted slice false v u = operate [v, u] (getItem v u) → wpAny (model X.prog X.w) X.A (subscriptTail value slice v u) (EP X pins σ Q) X.xe s
def MtR (X : Cx) (id : String) (r : V → List V → Hp → VK → Prop) : Prop :=
  ∀ (pins : List (Addr × Obj)) (s : Shared) (σ : St) (H : Hp) (x : V) (xs : List V) (v : Value) (us : List Value) (Q : VK), Inv X pins σ H s → RelV x v → Vals xs us → r x xs H Q →
    wpAny (model X.prog X.w) X.A (call (.builtin id) (v :: us)) (EP X pins σ Q) X.xe s
section
variable {X : Cx} {a b : Expr} {ta tb : TE} {pos : Pos}
theorem IxR.or {r r' : R2} (h : IxR X r) (h' : IxR X r') : IxR X (fun x y H Q => r x y H Q ∨ r' x y H Q) := by
  intro value slice pins s σ H x y v u Q I rx ry q hs
  rcases q with q | q
  · exact h value slice pins s σ H x y v u Q I rx ry q hs
  · exact h' value slice pins s σ H x y v u Q I rx ry q hs
theorem MtR.or {id : String} {r r' : V → List V → Hp → VK → Prop} (h : MtR X id r) (h' : MtR X id r') : MtR X id (fun x xs H Q => r x xs H Q ∨ r' x xs H Q) := by
  intro pins s σ H x xs v us Q I rx rs q
  rcases q with q | q
  · exact h pins s σ H x xs v us Q I rx rs q
  · exact h' pins s σ H x xs v us Q I rx rs q
theorem pe_ix {r : R2} (hr : IxR X r) (ha : PE X a ta) (hb : PE X b tb) (hs : PlainIx b) : PE X (.Subscript a b pos) (tOp r ta tb) := by
  intro pins s σ H Q I h
  exact Subscript_ (binT ha hb I h fun v u s2 x y H2 I2 rx ry q => hr a b pins s2 σ H2 x y v u Q I2 rx ry q (hs _ _))
def rIxL (K : PySem.W.Frag) : R2 := fun x y H Q => ∃ p xs i v, x = .ref p ∧ y = .int i ∧ SqL K H p xs ∧ atI xs i = some v ∧ Q v H
def rIxS : R2 := fun x y H Q => ∃ z i c, x = .str z ∧ y = .int i ∧ z.length ≤ sizeLine ∧ atI z.cps.toList i = some c ∧ Q (.str ⟨#[c]⟩) H
theorem ix_list : IxR X (rIxL X.K) := by
  intro value slice pins s σ H x y v u Q I rx ry h hs
  obtain ⟨p, xs, i, z, rfl, rfl, hq, he, q⟩ := h
  cases rx
  obtain ⟨t, rfl⟩ := ry
  obtain ⟨its, r, pl, hz⟩ := I.list hq
  obtain ⟨j, h1, h2, h3, h4, h5⟩ := atI_get he
  obtain ⟨w, ew, rw'⟩ := r.get h2
  have hl := r.length
  have hn := line63
  have fin : EP X pins σ Q w s := ⟨z, H, I, rw', q⟩
  by_cases h0 : 0 ≤ i
  · have hj : i.toNat = j := by
      rw [seqIndex_of h0 h5] at h1
      exact Option.some.inj h1
    exact item_listR pl.isList h0 (by lia) (by rw [hj]; simpa using ew) fin hs
  · have hj : (i + (its.toArray.size : Int)).toNat = j := by
      rw [seqIndex_neg (by lia) h4] at h1
      rw [List.size_toArray, ← hl]
      exact Option.some.inj h1
    exact subscriptTail_builtinR (x := w) pl.isList.typeIs slot_list_getitem.lookup
      (wpAny_getItem_list_neg (Q := fun r s' => r = w ∧ EP X pins σ Q r s') pl.isList (by lia) (by rw [List.size_toArray] <;> lia) (by lia) (by rw [hj]; simpa using ew) ⟨rfl, fin⟩) hs
theorem ix_str : IxR X rIxS := by
  intro value slice pins s σ H x y v u Q I rx ry h hs
  obtain ⟨z, i, c, rfl, rfl, hz, he, q⟩ := h
  obtain ⟨t, rfl⟩ := rx
  obtain ⟨t', rfl⟩ := ry
  obtain ⟨j, h1, h2, h3, h4, h5⟩ := atI_get he
  have hl : z.cps.toList.length = z.length := by simp [Str.length]
  rw [hl] at h1 h4 h5
  have hn := line63
  exact tail_any (typeIs_str s z t) slot_str_getitem.lookup (getItem_str (c := c) (by
    have e1 : decide (i < -(2 ^ 63 : Int)) = false := decide_eq_false (by lia)
    have e2 : decide (i ≥ 2 ^ 63) = false := decide_eq_false (by lia)
    rw [e1, e2, Bool.or_false]) (by rw [h1]; simpa using h2) ⟨.str ⟨#[c]⟩, H, I.tok _, ⟨_, rfl⟩, q⟩) hs
theorem mapSeq_set (its : List Value) (n j : Nat) (u : Value) : Obj.mapSeq (·.setIfInBounds j u) { cls := .type "list", data := .seq its.toArray n } = { cls := .type "list", data := .seq (its.set j u).toArray n } := by
  simp [Obj.mapSeq]
theorem Inv.lst {pins : List (Addr × Obj)} {σ : St} {H : Hp} {s : Shared} {p : Addr} {xs : List V} (I : Inv X pins σ H s) (h : H p = some (.lst xs)) :
    ∃ (its : List Value) (n : Nat), Vals xs its ∧ s.heap.get? p = some { cls := .type "list", data := .seq its.toArray n } ∧ xs.length ≤ sizeLine := by
  obtain ⟨z, its, n, r, e⟩ := I.hok p _ h
  exact ⟨its, n, r, e, z⟩
theorem Inv.lstUpd {pins : List (Addr × Obj)} {σ : St} {H : Hp} {s : Shared} {p : Addr} {xs ys : List V} {its its' : List Value} {n n' : Nat} {f : Obj → Obj} (I : Inv X pins σ H s) (h : H p = some (.lst xs))
    (ho : s.heap.get? p = some { cls := .type "list", data := .seq its.toArray n }) (hf : f { cls := .type "list", data := .seq its.toArray n } = { cls := .type "list", data := .seq its'.toArray n' }) (r : Vals ys its') (hz : ys.length ≤ sizeLine) (t : Nat) :
    Inv X pins σ (upd H p (.lst ys)) { s with heap := s.heap.update p f, toks := t } := by
  have e : (s.heap.update p f).get? p = some { cls := .type "list", data := .seq its'.toArray n' } := by
    rw [Heap.get?_update_self f ho (by rw [hf] <;> rfl), hf]
  refine I.write (x := p) (e := p) (by rw [h]; trivial) (.inl rfl) (fun b u hb q => (Heap.get?_update_other _ _ (Ne.symm hb)).trans q) ⟨_, e⟩ ?_
  exact ⟨hz, its', n', r, e⟩
def rSetL : V → V → V → Hp → (Hp → Prop) → Prop := fun o i v H Q => ∃ p xs k j, o = .ref p ∧ i = .int k ∧ H p = some (.lst xs) ∧ ixN xs.length k = some j ∧ Q (upd H p (.lst (xs.set j v)))
theorem set_list : PSet X rSetL := by
  intro pins s σ H o i v ov iv u Q I ro ri rv h
  obtain ⟨p, xs, k, j, rfl, rfl, hp, hj, q⟩ := h
  cases ro
  obtain ⟨t, rfl⟩ := ri
  obtain ⟨its, n, r, ho, hz⟩ := I.lst hp
  obtain ⟨h1, h2, h3, h4⟩ := ixN_seq hj
  have hl := r.length
  have hn := line63
  have I' : Inv X pins σ (upd H p (.lst (xs.set j v))) { s with heap := s.heap.update p (Obj.mapSeq (·.setIfInBounds j u)) } :=
    I.lstUpd hp ho (mapSeq_set its n j u) (r.set rv j) (by rw [List.length_set]; exact hz) s.toks
  by_cases h0 : 0 ≤ k
  · have hk : k.toNat = j := by
      rw [seqIndex_of h0 h4] at h1
      exact Option.some.inj h1
    exact PySem.W.ki_setAt ho h0 (by lia) (by rw [List.size_toArray, ← hl]; exact h4) (by rw [hk]; exact ⟨_, I', q⟩)
  · have hk : (k + (its.toArray.size : Int)).toNat = j := by
      rw [seqIndex_neg (by lia) h3] at h1
      rw [List.size_toArray, ← hl]
      exact Option.some.inj h1
    exact PySem.W.ki_setBack ho (by lia) (by rw [List.size_toArray, ← hl]; exact h3) (by lia) (by rw [hk]; exact ⟨_, I', q⟩)
theorem slice_bounds (lo hi : Option Int) (n : Nat) : (sliceBounds lo hi none n).1 = ((HT.sIx n 0 lo : Nat) : Int) ∧ (sliceBounds lo hi none n).2.1 = ((HT.sIx n n hi : Nat) : Int) ∧ (sliceBounds lo hi none n).2.2 = 1 := by
  refine ⟨?_, ?_, rfl⟩
  · cases lo with
    | none => simp [sliceBounds, HT.sIx]
    | some i =>
      simp only [sliceBounds, HT.sIx, Option.getD_none, show (1 : Int) > 0 by decide, if_true]
      by_cases h : i < 0
      · simp only [h, if_true] <;> lia
      · simp only [h, if_false] <;> lia
  · cases hi with
    | none => simp [sliceBounds, HT.sIx]
    | some i =>
      simp only [sliceBounds, HT.sIx, Option.getD_none, show (1 : Int) > 0 by decide, if_true]
      by_cases h : i < 0
      · simp only [h, if_true] <;> lia
      · simp only [h, if_false] <;> lia
theorem slicePick_cut (its : List Value) (lo hi : Option Int) : slicePick its.toArray lo hi none = ((its.drop (HT.sIx its.length 0 lo)).take (HT.sIx its.length its.length hi - HT.sIx its.length 0 lo)).toArray := by
  obtain ⟨h1, h2, h3⟩ := slice_bounds lo hi its.toArray.size
  unfold slicePick
  rw [h1, h2, h3]
  simp only [sliceRange_one, pick_run, List.size_toArray] <;> rfl
def rSlL (K : PySem.W.Frag) : V → Option Int → Option Int → Hp → VK → Prop := fun x lo hi H Q => ∃ a xs, x = .ref a ∧ SqL K H a xs ∧ ∀ p, H p = none → Q (.ref p) (upd H p (.lst (cutV xs lo hi)))
theorem sl_list : SlR X (rSlL X.K) := by
  intro pins s σ H x v vl vu lo hi sl Q I rx hs pl pu h
  obtain ⟨a, xs, rfl, hx, q⟩ := h
  cases rx
  obtain ⟨its, r, ht, hz⟩ := I.list hx
  have hlen := r.length
  refine ⟨"list", _, slot_list_getitem.lookup, ht.isList.typeIs, ?_⟩
  refine wpAny_getItem_list_slice ht.isList hs pl pu .none (by simp) ?_ (by rw [List.size_toArray] <;> lia)
  rw [slicePick_cut, ← hlen]
  refine ⟨.ref s.heap.objs.size, _, I.laid (t' := s.toks) (o := .lst (cutV xs lo hi)) (fun b ob q => Heap.get?_push_of_some _ q) (Nat.le_refl _) ?_, rfl, q _ (I.hok.fresh (Nat.le_refl _))⟩
  exact ⟨Nat.le_trans (cutV_length xs lo hi) hz, _, 0, (r.drop (HT.sIx xs.length 0 lo)).take (HT.sIx xs.length xs.length hi - HT.sIx xs.length 0 lo), Heap.get?_push_size _ rfl⟩
def flatV : V → Bool
  | .non => true
  | .bl _ => true
  | .int _ => true
  | .str _ => true
  | _ => false
def eqV : V → V → Bool
  | .non, .non => true
  | .bl a, .bl b => a == b
  | .bl a, .int b => (if a then 1 else 0) == b
  | .int a, .bl b => a == (if b then 1 else 0)
  | .int a, .int b => a == b
  | .str a, .str b => a == b
  | _, _ => false
theorem eqAt_V {A : Around} {s : Shared} {y x : V} {u v : Value} (ry : RelV y u) (rx : RelV x v) (fy : flatV y = true) (fx : flatV x = true) : SeqAt.EqAt A s u v (eqV y x) := by
  cases y with
  | non =>
    cases ry
    cases x with
    | non => cases rx; exact SeqAt.EqAt.same _
    | bl b => cases rx; exact SeqAt.EqAt.none_bool b
    | int b => obtain ⟨t, rfl⟩ := rx; exact SeqAt.EqAt.none_int b t
    | str b => obtain ⟨t, rfl⟩ := rx; exact SeqAt.EqAt.none_str b t
    | _ => exact absurd (show false = true from fx) Bool.false_ne_true
  | bl a =>
    cases ry
    cases x with
    | non => cases rx; exact SeqAt.EqAt.bool_none a
    | bl b => cases rx; exact SeqAt.EqAt.bool_bool a b
    | int b => obtain ⟨t, rfl⟩ := rx; exact SeqAt.EqAt.bool_int a b t
    | str b => obtain ⟨t, rfl⟩ := rx; exact SeqAt.EqAt.bool_str a b t
    | _ => exact absurd (show false = true from fx) Bool.false_ne_true
  | int a =>
    obtain ⟨t', rfl⟩ := ry
    cases x with
    | non => cases rx; exact SeqAt.EqAt.int_none a t'
    | bl b => cases rx; exact SeqAt.EqAt.int_bool a t' b
    | int b => obtain ⟨t, rfl⟩ := rx; exact SeqAt.EqAt.int_int a t' b t
    | str b => obtain ⟨t, rfl⟩ := rx; exact SeqAt.EqAt.int_str a t' b t
    | _ => exact absurd (show false = true from fx) Bool.false_ne_true
  | str a =>
    obtain ⟨t', rfl⟩ := ry
    cases x with
    | non => cases rx; exact SeqAt.EqAt.str_none a t'
    | bl b => cases rx; exact SeqAt.EqAt.str_bool a t' b
    | int b => obtain ⟨t, rfl⟩ := rx; exact SeqAt.EqAt.str_int a t' b t
    | str b => obtain ⟨t, rfl⟩ := rx; exact SeqAt.EqAt.str_str a t' b t
    | _ => exact absurd (show false = true from fx) Bool.false_ne_true
  | _ => exact absurd (show false = true from fy) Bool.false_ne_true
def eqU (x : V) (u : Value) : Bool := match u with
  | .none => eqV .non x
  | .bool b => eqV (.bl b) x
  | .int i _ => eqV (.int i) x
  | .str z _ => eqV (.str z) x
  | _ => false
theorem eqU_of {x y : V} {u : Value} (r : RelV y u) (f : flatV y = true) : eqU x u = eqV y x := by
  cases y with
  | non => cases r; rfl
  | bl b => cases r; rfl
  | int i => obtain ⟨t, rfl⟩ := r; rfl
  | str z => obtain ⟨t, rfl⟩ := r; rfl
  | _ => exact absurd (show false = true from f) Bool.false_ne_true
theorem any_eqU {x : V} : ∀ {xs : List V} {us : List Value}, Vals xs us → xs.all flatV = true → us.any (eqU x) = xs.any fun y => eqV y x
  | _, _, .nil, _ => rfl
  | y :: xs, u :: us, .cons r t, f => by
    rw [List.all_cons, Bool.and_eq_true] at f
    rw [List.any_cons, List.any_cons, eqU_of r f.1, any_eqU t f.2]
theorem mem_eqAt {A : Around} {s : Shared} {x : V} {v : Value} (rx : RelV x v) (fx : flatV x = true) : ∀ {xs : List V} {us : List Value}, Vals xs us → xs.all flatV = true → ∀ u ∈ us, SeqAt.EqAt A s u v (eqU x u)
  | _, _, .nil, _ => fun u hu => by cases hu
  | y :: xs, u :: us, .cons r t, f => fun u' hu => by
    rw [List.all_cons, Bool.and_eq_true] at f
    rcases List.mem_cons.mp hu with rfl | hu
    · rw [eqU_of r f.1]; exact eqAt_V r rx f.1 fx
    · exact mem_eqAt rx fx t f.2 u' hu
def inV (x : V) (xs : List V) : Bool := xs.any fun y => eqV y x
def rIn (K : PySem.W.Frag) (neg : Bool) : R2 := fun x y H Q => ∃ p xs, y = .ref p ∧ (SqL K H p xs ∨ SqT K H p xs) ∧ flatV x = true ∧ xs.all flatV = true ∧ Q (.bl (if neg then !inV x xs else inV x xs)) H
theorem op_in_seq : OpR X (compareOp .In) (rIn X.K false) := by
  intro pins s σ H x y v u Q I rx ry h
  obtain ⟨p, xs, rfl, hq, fx, fs, q⟩ := h
  cases ry
  rcases hq with hq | hq
  · obtain ⟨its, r, pl, hz⟩ := I.list hq
    refine SeqAt.in_listAt (eqU x) pl.isList (fun w hw => mem_eqAt rx fx r fs w (by simpa using hw)) ⟨.bl _, H, I, rfl, ?_⟩
    rw [show its.toArray.any (eqU x) = its.any (eqU x) by simp, any_eqU r fs]
    exact q
  · obtain ⟨its, r, pl, hz⟩ := I.tuple hq
    refine SeqAt.in_tupleAt (eqU x) pl (fun w hw => mem_eqAt rx fx r fs w (by simpa using hw)) ⟨.bl _, H, I, rfl, ?_⟩
    rw [show its.toArray.any (eqU x) = its.any (eqU x) by simp, any_eqU r fs]
    exact q
theorem call_len_seq : CallR X (.builtin "len") (fun xs H Q => ∃ p ys, xs = [.ref p] ∧ (SqL X.K H p ys ∨ SqT X.K H p ys) ∧ Q (.int ys.length) H) := by
  intro pins s σ H xs us Q I r h
  obtain ⟨p, ys, rfl, hq, q⟩ := h
  obtain ⟨u, rfl, rx⟩ := vals1 r
  cases rx
  have hn := line63
  rcases hq with hq | hq
  · obtain ⟨its, r', pl, hz⟩ := I.list hq
    have hlen := r'.length
    exact Calls.call_len_list pl.isList (by simp only [List.size_toArray] <;> lia) ⟨.int ys.length, H, I.tok _, ⟨s.toks + 1, by rw [List.size_toArray, hlen]⟩, q⟩
  · obtain ⟨its, r', pl, hz⟩ := I.tuple hq
    have hlen := r'.length
    exact len_tuple pl (by simp only [List.size_toArray] <;> lia) ⟨.int ys.length, H, I.tok _, ⟨s.toks + 1, by rw [List.size_toArray, hlen]⟩, q⟩
theorem call_len_str : CallR X (.builtin "len") (fun xs H Q => ∃ z, xs = [.str z] ∧ z.length ≤ sizeLine ∧ Q (.int z.length) H) := by
  intro pins s σ H xs us Q I r h
  obtain ⟨z, rfl, hz, q⟩ := h
  obtain ⟨u, rfl, t, rfl⟩ := vals1 r
  have hn := line63
  exact len_str (by lia) ⟨.int z.length, H, I.tok _, ⟨_, rfl⟩, q⟩
theorem CallR.or {f : Value} {r r' : List V → Hp → VK → Prop} (h : CallR X f r) (h' : CallR X f r') : CallR X f (fun xs H Q => r xs H Q ∨ r' xs H Q) := by
  intro pins s σ H xs us Q I rs q
  rcases q with q | q
  · exact h pins s σ H xs us Q I rs q
  · exact h' pins s σ H xs us Q I rs q
theorem call_list_of : CallR X (.type "list") (fun xs H Q => ∃ p ys, xs = [.ref p] ∧ (SqL X.K H p ys ∨ SqT X.K H p ys) ∧ ∀ l, H l = none → Q (.ref l) (upd H l (.lst ys))) := by
  intro pins s σ H xs us Q I r h
  obtain ⟨p, ys, rfl, hq, q⟩ := h
  obtain ⟨u, rfl, rx⟩ := vals1 r
  cases rx
  have fin : ∀ (its : List Value), Vals ys its → ys.length ≤ sizeLine → ∀ (h' : Heap) (c' : Nat), (∀ b o', s.heap.get? b = some o' → h'.get? b = some o') →
      h'.get? s.heap.objs.size = some { cls := .type "list", dict := none, data := .seq its.toArray c', slots := #[] } → EP X pins σ Q (.ref s.heap.objs.size) { s with heap := h' } := fun its r' hz h' c' kp e =>
    ⟨.ref s.heap.objs.size, _, I.laid (t' := s.toks) kp (Nat.le_refl _) (show ObjOk X.prog X.w _ h' _ (.lst ys) from ⟨hz, its, c', r', e⟩), rfl, q _ (I.hok.fresh (Nat.le_refl _))⟩
  rcases hq with hq | hq
  · obtain ⟨its, r', pl, hz⟩ := I.list hq
    have hlen := r'.length
    obtain ⟨o, ho, hc, n, hd⟩ := pl.isList
    exact call_list_seq p (.inl rfl) ho hc hd (fun h' c' kp e => fin its r' hz h' c' kp e) (by simp only [List.size_toArray] <;> lia)
  · obtain ⟨its, r', pl, hz⟩ := I.tuple hq
    have hlen := r'.length
    obtain ⟨o, ho, hc, n, hd⟩ := pl
    exact call_list_seq p (.inr rfl) ho hc hd (fun h' c' kp e => fin its r' hz h' c' kp e) (by simp only [List.size_toArray] <;> lia)
theorem call_tuple_of : CallR X (.type "tuple") (fun xs H Q => ∃ p ys, xs = [.ref p] ∧ ((SqL X.K H p ys ∧ ∀ l, H l = none → Q (.ref l) (upd H l (.tup ys))) ∨ (SqT X.K H p ys ∧ Q (.ref p) H))) := by
  intro pins s σ H xs us Q I r h
  obtain ⟨p, ys, rfl, h⟩ := h
  obtain ⟨u, rfl, rx⟩ := vals1 r
  cases rx
  rcases h with ⟨hq, q⟩ | ⟨hq, q⟩
  · obtain ⟨its, r', pl, hz⟩ := I.list hq
    have hlen := r'.length
    refine call_tuple_list pl.isList (fun h' kp => ?_) (by simp only [List.size_toArray] <;> lia)
    have I1 : Inv X pins σ H { s with heap := h' } := I.kept (t' := s.toks) kp
    have I2 : Inv X pins σ (upd H h'.objs.size (.tup ys)) { s with heap := h'.push { cls := .type "tuple", data := .seq its.toArray } } :=
      I1.laid (t' := s.toks) (fun b o e => Heap.get?_push_of_some _ e) (Nat.le_refl _) (show ObjOk X.prog X.w _ _ _ (.tup ys) from ⟨hz, its, r', IsTup.new _ _⟩)
    exact ⟨.ref h'.objs.size, _, I2, rfl, q _ (I1.hok.fresh (Nat.le_refl _))⟩
  · obtain ⟨its, r', pl, hz⟩ := I.tuple hq
    exact call_tuple_same pl ⟨.ref p, H, I, rfl, q⟩
def tyV (K : PySem.W.Frag) (T : String) (x : V) (H : Hp) : Prop := match x with
  | .str _ => T = "str"
  | .int _ => T = "int"
  | .ref p => (T = "list" ∧ ∃ xs, SqL K H p xs) ∨ (T = "tuple" ∧ ∃ o, K.lookup p = some o ∧ o.cls = .type "tuple" ∧ o.dict = none) ∨
      (T = "dict" ∧ ((∃ kvs, H p = some (.dK kvs)) ∨ ∃ kvs, H p = some (.dT kvs))) ∨ (T = "set" ∧ ∃ S n, H p = some (.set S n))
  | _ => False
theorem tyV_is {pins : List (Addr × Obj)} {σ : St} {H : Hp} {s : Shared} {T : String} {x : V} {v : Value} (I : Inv X pins σ H s) (r : RelV x v) (ty : tyV X.K T x H) :
    s.TypeIs v T ∧ ∀ a, v = .ref a → ∃ ob, s.heap.get? a = some ob ∧ ob.dict = none := by
  cases x with
  | str z =>
    obtain ⟨t, rfl⟩ := r
    cases (show T = "str" from ty)
    exact ⟨typeIs_str s z t, fun _ e => nomatch e⟩
  | int i =>
    obtain ⟨t, rfl⟩ := r
    cases (show T = "int" from ty)
    exact ⟨typeIs_int s i t, fun _ e => nomatch e⟩
  | ref p =>
    cases r
    rcases ty with ⟨rfl, xs, hq⟩ | ⟨rfl, o, hk, hc, hd⟩ | ⟨rfl, hk⟩ | ⟨rfl, S, n, hk⟩
    · obtain ⟨its, _, pl, _⟩ := I.list hq
      refine ⟨pl.isList.typeIs, fun a e => ?_⟩
      cases e
      obtain ⟨o, n, e, c, hd, _⟩ := pl
      exact ⟨o, e, hd⟩
    · refine ⟨⟨o, I.kIn p o hk, hc⟩, fun a e => ?_⟩
      cases e
      exact ⟨o, I.kIn _ o hk, hd⟩
    · have z : ∃ o, s.heap.get? p = some o ∧ o.ExactDict := by
        rcases hk with ⟨kvs, hk⟩ | ⟨kvs, hk⟩
        · obtain ⟨_, _, _, _, o, _, _, e, ex, _⟩ := I.hok p _ hk
          exact ⟨o, e, ex⟩
        · obtain ⟨_, _, _, _, o, _, _, e, ex, _⟩ := I.hok p _ hk
          exact ⟨o, e, ex⟩
      obtain ⟨o, e, ex⟩ := z
      refine ⟨⟨o, e, ex.1⟩, fun a e2 => ?_⟩
      cases e2
      exact ⟨o, e, ex.2.1⟩
    · obtain ⟨o, _, _, _, e, ex, _⟩ := I.hok p _ hk
      refine ⟨⟨o, e, ex.1⟩, fun a e2 => ?_⟩
      cases e2
      exact ⟨o, e, ex.2.1⟩
  | _ => exact False.elim ty
def tBM (K : PySem.W.Frag) (T : String) (r : V → List V → Hp → VK → Prop) (to : TE) (t : TA) : TE := fun σ H Q => to σ H fun x H1 => tyV K T x H1 ∧ t σ H1 fun xs H2 => r x xs H2 Q
variable {o e : Expr} {es : List Expr} {to : TE} {t : TA} {name : Str} {apos cpos : Pos} {T id : String} {r : V → List V → Hp → VK → Prop}
theorem pe_bm (pa : PlainAttrs T) (slot : Slot T name id) (hty : typeOf (.builtin id) = pure (.type "method_descriptor")) (hm : MtR X id r) (ho : PE X o to) (ha : PA X (e :: es) t)
    (hbase : attributeBase o name X.env (eval o X.env) = eval o X.env := by rfl)
    (hfew : ((backTo cpos (starEach (e :: es) X.env)).all (fun x => !x.1) && (backToKw cpos (keywordEach [] X.env)).all (fun x => x.1.isSome)
      && decide ((e :: es).length + ([] : List Keyword).length + (if ([] : List Keyword).isEmpty then 0 else 1) < 30)) = true := by rfl)
    (hline : (apos.endLine == cpos.line) = true := by rfl) (hs : starEach (e :: es) X.env = (false, eval e X.env) :: starEach es X.env := by rfl) (hplain : (backTo cpos (starEach es X.env)).any (·.1) = false := by rfl) :
    PE X (.Call (.Attribute o name apos) (e :: es) [] cpos) (tBM X.K T r to t) := by
  intro pins s σ H Q I h
  refine wpAny_Call_method_late hbase hfew hline rfl (thn (ho pins s σ H _ I h) fun v s1 ⟨x, H1, I1, r1, ty, q1⟩ => ?_)
  obtain ⟨h1, h2⟩ := tyV_is I1 r1 ty
  refine ⟨T, id, pa, slot, hty, h1, h2, ?_⟩
  have hA := ha cpos pins s1 σ H1 _ I1 q1
  rw [hs] at hA ⊢
  refine Calls.callWith_builtin (by show (false || (backTo cpos (starEach es X.env)).any (·.1)) = false; rw [hplain] <;> rfl) (Calls.evalArgs_plain ?_)
  exact thn hA fun us s2 ⟨vs, H2, I2, r2, q2⟩ => hm pins s2 σ H2 x vs v us Q I2 r1 r2 q2
end
end L2
namespace L2
open PySem PySem.Spec PyProof.Rows
def MtM (X : Cx) (id : String) (r : V → List V → Hp → VK → Prop) : Prop :=
  ∀ (pins : List (Addr × Obj)) (s : Shared) (σ : St) (H : Hp) (x : V) (xs : List V) (v : Value) (us : List Value) (Q : VK), Inv X pins σ H s → RelV x v → Vals xs us → r x xs H Q →
    wpAny (model X.prog X.w) X.A (call (.builtin id) (v :: us)) (EP X pins σ Q) X.xe s
theorem Vals.one : ∀ {x : V} {us : List Value}, Vals [x] us → ∃ u, us = [u] ∧ RelV x u
  | _, _, .cons r .nil => ⟨_, rfl, r⟩
theorem Vals.two : ∀ {x y : V} {us : List Value}, Vals [x, y] us → ∃ u v, us = [u, v] ∧ RelV x u ∧ RelV y v
  | _, _, _, .cons r (.cons q .nil) => ⟨_, _, rfl, r, q⟩
theorem Vals.zero : ∀ {us : List Value}, Vals [] us → us = []
  | _, .nil => rfl
theorem Vals.rep {xs : List V} {us : List Value} (h : Vals xs us) : ∀ k : Nat, Vals (List.replicate k xs).flatten (List.replicate k us).flatten
  | 0 => .nil
  | k + 1 => by
    rw [List.replicate_succ, List.replicate_succ, List.flatten_cons, List.flatten_cons]
    exact Vals.append h (Vals.rep h k)
section
variable {X : Cx} {pins : List (Addr × Obj)} {σ : St} {H : Hp} {s : Shared} {l b : Addr} {xs ys zs : List V}
theorem Inv.lset {its its' : List Value} {n : Nat} {f : Array Value → Array Value} {t' : Nat} (I : Inv X pins σ H s) (hH : H l = some (.lst xs))
    (e : s.heap.get? l = some { cls := .type "list", data := .seq its.toArray n }) (hf : f its.toArray = its'.toArray) (hv : Vals ys its') (hz : ys.length ≤ sizeLine) :
    Inv X pins σ (upd H l (.lst ys)) { s with heap := s.heap.update l (Obj.mapSeq f), toks := t' } := by
  have q := PySem.IsL.update e f
  rw [hf] at q
  refine I.write (x := l) (e := l) (by rw [hH]; exact trivial) (.inl rfl) (fun b' u hb hu => (Heap.get?_update_other s.heap (Obj.mapSeq f) (Ne.symm hb)).trans hu) ⟨_, q⟩ ?_
  exact ⟨hz, its', _, hv, q⟩
theorem Inv.lnew {its : List Value} {t' : Nat} (I : Inv X pins σ H s) (hv : Vals ys its) (hz : ys.length ≤ sizeLine) :
    Inv X pins σ (upd H s.heap.objs.size (.lst ys)) { s with heap := s.heap.push { cls := .type "list", data := .seq its.toArray }, toks := t' } :=
  I.laid (fun _ _ q => Heap.get?_push_of_some _ q) (Nat.le_refl _) ⟨hz, its, 0, hv, Heap.get?_push_size _ rfl⟩
theorem Inv.fresh (I : Inv X pins σ H s) : H s.heap.objs.size = none := I.hok.fresh (Nat.le_refl _)
theorem Inv.lstM (I : Inv X pins σ H s) (hH : H l = some (.lst xs)) : xs.length ≤ sizeLine ∧ ∃ (its : List Value) (n : Nat), Vals xs its ∧ xs.length = its.length ∧ s.heap.get? l = some { cls := .type "list", data := .seq its.toArray n } := by
  obtain ⟨z, its, n, r, e⟩ := I.hok l _ hH
  exact ⟨z, its, n, r, r.length, e⟩
theorem notLongL {n : Nat} (h : n ≤ sizeLine) : Builtin.List.listTooLong n = false := by
  unfold Builtin.List.listTooLong
  exact decide_eq_false (by lia)
end
section
variable {X : Cx}
def rAppend : V → List V → Hp → VK → Prop := fun x vs H Q => ∃ l xs y, x = .ref l ∧ vs = [y] ∧ H l = some (.lst xs) ∧ xs.length < sizeLine ∧ Q .non (upd H l (.lst (xs ++ [y])))
theorem mt_append : MtM X "list.append" rAppend := by
  intro pins s σ H x vs v us Q I rx rv h
  obtain ⟨l, xs, y, rfl, rfl, hH, hz, q⟩ := h
  cases rx
  obtain ⟨u, rfl, ru⟩ := rv.one
  obtain ⟨z, its, n, r, hl, e⟩ := I.lstM hH
  refine call_meets F.slot_list_append ⟨_, e, rfl⟩ F.entry_list_append (F.args_list_append_2 _ _) (PySem.list_append l its.toArray n u (by rw [List.size_toArray]; lia)) ⟨e, ?_⟩
  refine ⟨.non, _, I.lset (its' := its ++ [u]) hH e (by simp) (r.append (.cons ru .nil)) ?_, rfl, q⟩
  rw [List.length_append, List.length_singleton]
  lia
end
section
variable {prog : Program} {w : World} {A : Around} {E : Value → Shared → Prop} {s : Shared}
theorem bounds_run {a c n : Nat} (hac : a ≤ c) (hc : c ≤ n) : sliceBounds (some (a : Int)) (some (c : Int)) none n = ((a : Int), (c : Int), 1) := by
  simp only [sliceBounds, Option.getD_none]
  have h1 : ¬ ((a : Int) < 0) := by lia
  have h2 : ¬ ((c : Int) < 0) := by lia
  simp only [h1, h2, if_false, show (1 : Int) > 0 by decide, if_true]
  congr 1
  · lia
  · congr 1; lia
set_option maxRecDepth 100000 in
theorem setItem_slice {l b sl : Addr} {items new : Array Value} {n n2 : Nat} {vl vu : Value} {a c : Nat} {Q : Unit → Shared → Prop}
    (e : s.heap.get? l = some { cls := .type "list", data := .seq items n }) (e2 : s.heap.get? b = some { cls := .type "list", data := .seq new n2 }) (hne : l ≠ b)
    (hs : s.heap.IsSliceOf sl vl vu .none) (pl : IsPart vl (some (a : Int))) (pu : IsPart vu (some (c : Int))) (hac : a ≤ c) (hc : c ≤ items.size)
    (hsz : items.size + new.size ≤ sizeLine) (h : Q () { s with heap := s.heap.update l (Obj.mapSeq fun xs => xs.extract 0 a ++ new ++ xs.extract c xs.size) }) :
    wpAny (model prog w) A (setItem (.ref l) (.ref sl) (.ref b)) Q E s := by
  have hl : s.heap.IsList l items := PySem.IsL.isList e
  have hb : s.heap.IsList b new := PySem.IsL.isList e2
  obtain ⟨os, hos, hcs, hds⟩ := id hs
  have hTs : s.TypeIs (.ref sl) "slice" := ⟨os, hos, hcs⟩
  have hstep : ¬ ((rawPart none == rawInt 0) = true) := Bool.false_ne_true
  have hsame : Builtin.List.listSameRef (.ref l) (.ref b) = false := by
    unfold Builtin.List.listSameRef
    exact beq_eq_false_iff_ne.mpr hne
  have hmax : (max (a : Int) (c : Int)).toNat = c := by lia
  have hz' : ((fun xs : Array Value => xs.extract 0 a ++ new ++ xs.extract c xs.size) items).size ≤ sizeLine + 1 := by
    simp only [Array.size_append, Array.size_extract]
    lia
  unfold setItem
  try with_reducible refine wpAny_holding ?_
  first | refine wpAny_bind (wpAny_pure ?_) | skip
  refine wpAny_bind (wpAny_sequenceKey hl.typeIs (by decide) ?_)
  refine wpAny_bind (wpAny_callSpecial?_slot (name := Str.ofString "__setitem__") hl.typeIs slot_list_setitem
    (wpAny_call_entry slot_list_setitem hl.typeIs entry_list_setitem ?_ (args_list_setitem _ _ _)))
  show wpAny _ _ (Builtin.List.listSubscript? (.ref sl) >>= _) _ _ s
  refine wpAny_bind ?_
  unfold Builtin.List.listSubscript?
  refine wpAny_bind (wpAny_specialOf hTs slice_no_index ?_)
  simp only [Option.isNone_none, if_true]
  refine wpAny_pure ?_
  show wpAny _ _ (typeOf (.ref sl) >>= _) _ _ s
  refine wpAny_bind (wpAny_typeOf hTs ?_)
  first
    | rw [if_neg (by decide)]
    | refine PySem.W.KFB.if_not (by decide) ?_
  rw [listSliceParts_eq]
  refine wpAny_bind (wpAny_bind (wpAny_field hos hds (x := .none) rfl (wpAny_bind (wpAny_listPart .none ?_))))
  rw [if_neg hstep]
  refine wpAny_bind (wpAny_field hos hds (x := vl) rfl (wpAny_bind (wpAny_listPart pl ?_)))
  refine wpAny_bind (wpAny_field hos hds (x := vu) rfl (wpAny_bind (wpAny_listPart pu (wpAny_pure ?_))))
  first
    | simp only [hsame, Bool.false_eq_true, if_false]
    | refine PySem.W.KFB.if_not hsame ?_
    | (dsimp only
       rw [if_neg (by rw [hsame]; exact Bool.false_ne_true)])
  refine wpAny_bind (m := Builtin.List.listAllItems (.ref b) "must assign iterable to extended slice") ?_
  unfold Builtin.List.listAllItems
  refine wpAny_bind (wpAny_typeOf hb.typeIs ?_)
  first
    | refine PySem.W.KFB.if_so (by decide) ?_
    | rw [if_pos (by decide)]
    | simp only [beq_self_eq_true, Bool.true_or, if_true]
  unfold Builtin.List.listItems
  refine wpAny_bind (wpAny_seqItems e2 rfl (wpAny_pure ?_))
  refine wpAny_bind (wpAny_bind (wpAny_seqItems e rfl (wpAny_pure ?_)))
  refine wpAny_bind (wpAny_of_eq ((sliceIndices_raw (some (a : Int)) (some (c : Int)) none items.size (by simp)).trans (congrArg (pure : Int × Int × Int → Sem (Int × Int × Int)) (bounds_run hac hc))) ?_)
  show wpAny _ _ (if ((1 : Int) == 1) = true then _ else _) _ _ s
  rw [if_pos (by decide)]
  refine wpAny_bind (wpAny_rule ?_)
  first
    | simp only [notLongL hsz, Bool.false_eq_true, if_false]
    | refine PySem.W.KFB.if_not (notLongL hsz) ?_
  first | refine wpAny_bind (wpAny_pure ?_) | skip
  show wpAny _ _ (updateSeq l (fun xs => xs.extract 0 ((a : Int)).toNat ++ new ++ xs.extract (max (a : Int) (c : Int)).toNat xs.size) >>= _) _ _ s
  rw [hmax, Int.toNat_natCast]
  refine wpAny_bind (wpAny_updateSeq (hz := Nat.le_trans (Nat.le_add_right _ _) hsz) (_hz' := hz') e rfl ?_)
  refine wpAny_bind (wpAny_letGo ?_)
  first
    | exact wpAny_bind (wpAny_pure (wpAny_pure ⟨.none, rfl, wpAny_pure h⟩))
    | exact wpAny_pure ⟨.none, rfl, wpAny_pure h⟩
end
section
variable {X : Cx}
end
end L2
namespace Att
open PySem PySem.W PySem.Calls PyProof.Rows
theorem ints_of_wellAll {P : Params} {h : Heap} : ∀ (ns : List Int) (vs : List Value), WellAll P h vs (ns.map WData.int) → IntsAre vs ns := by
  intro ns
  induction ns with
  | nil =>
    intro vs w
    rw [List.map_nil] at w
    cases w
    exact .nil
  | cons n ns ih =>
    intro vs w
    rw [List.map_cons] at w
    cases w with
    | cons a b =>
      cases a
      exact .cons _ _ (ih _ b)
theorem script_of {l : OpenLaw} {n : Nat} (hn : l.most = some n) {P : Params} {h : Heap} {args : List WData} {vals : List Value}
    (hpre : l.row.toRowW.claim.pre args = true) (hwl : WellAll P h vals args) :
    ∃ a vs ns, vals = [Value.ref a] ∧ args = [WData.list (ns.map WData.int)] ∧ h.get? a = some { cls := .type "list", data := .seq vs.toArray } ∧ IntsAre vs ns ∧ ns.length ≤ n := by
  have hsh : WShape.hasAll [] args [.list .int] = true := (pre_splitW hpre).1
  have hc : l.pre.holds [] { args := args } = true := (pre_splitW hpre).2
  obtain ⟨d, r, rfl, h1, h2⟩ := hasAllW_cons hsh
  obtain rfl := hasAllW_nil h2
  obtain ⟨xs, rfl, h3⟩ := hasW_list h1
  obtain ⟨ns, rfl⟩ := items_int h3
  have hlen : ns.length ≤ n := by
    unfold OpenLaw.pre at hc
    have h4 : (WTm.not (.lt (.lit (.int (n : Int))) (.len (.arg 0)))).holds [] { args := [.list (ns.map .int)] } = true := by
      have h4 := (holds_andW hc).1
      rw [hn] at h4
      exact h4
    have h5 := condW_of h4 (w_not (w_lt w_lit (w_len_list (w_arg rfl))))
    rw [List.length_map] at h5
    refine Nat.le_of_not_lt fun q => ?_
    have q' : (n : Int) < ((ns.length : Nat) : Int) := by lia
    first
      | (rw [decide_eq_true q'] at h5; exact absurd h5 (by decide))
      | (simp at h5; lia)
  cases hwl with
  | cons w1 w2 =>
    cases w2
    cases w1 with
    | list ho hall => exact ⟨_, _, ns, rfl, rfl, ho, ints_of_wellAll ns _ hall, hlen⟩
theorem post_true (l : OpenLaw) (args : List WData) : l.row.toRowW.claim.post args (.bool true) args = true :=
  postW_of (r := l.row.toRowW) (X := (true == true))
    (show WShape.has [] (.bool true) .bool = true by first | rfl | decide | simp [WShape.has, WShape.arms, WShape.armsAll])
    (show (WTm.eq .res (.lit (.bool true))).value [] { args := args, res := some (.bool true), after := args } = some (.bool (true == true)) from w_eq_bool (w_res rfl) w_lit) rfl
theorem attach_call {l : OpenLaw} {n : Nat} {q : Program} {loose : List Str} {XP : (Str → Option Value) → Heap → Prop} {YP : World → Heap → Prop} {d : DefRec}
    (hn : l.most = some n) (hdf : d.params.defaults = [])
    (call : ∀ (w : World) (s₀ s₁ : Shared) (mg mb : Str → Option Value) (fa : Addr) (o : Obj) (pm cd doc : Value) (a : Addr) (vs : List Value) (ns : List Int),
      Ground q loose [] XP w s₀ mg mb s₁.heap → YP w s₁.heap →
      s₁.heap.get? fa = some o → o.data = .func (docDef d.name d.params d.body d.scope pm cd doc) → s₁.heap.CodeRec cd d.name → mg d.name = some (.ref fa) →
      s₁.heap.get? a = some { cls := .type "list", data := .seq vs.toArray } → IntsAre vs ns → ns.length ≤ n → s₁.gens = #[] →
      codeAny (model l.prog w) callerA (.call (.ref fa) ⟨[.ref a], []⟩) (fun r s' => r = .ok (.ret (.bool true)) ∧ OldK s₁.heap s'.heap ∧ s'.os = s₁.os ∧ AllBare s'.gens) s₁) :
    WalkO q loose XP YP l.row.toRowW d [] (fun f vs => PySem.call f vs) := by
  intro w s₀ s₁ mg mb G Y fa o pm cd doc dV kV ho hd hcd hD hmg hg args vals as hpre hlay hrd hwl hlo
  obtain rfl : dV = .none := Dflts.none hD hdf
  obtain rfl : kV = .none := Dflts.noKw hD
  obtain ⟨a, vs, ns, rfl, rfl, hobj, hints, hlen⟩ := script_of hn hpre hwl
  refine enter_call (codeAny_mono (call w s₀ s₁ mg mb fa o pm cd doc a vs ns G Y ho (fd_plain hd) hcd hmg hobj hints hlen hg) fun r s' hq => ?_)
  obtain ⟨rfl, h2, h3, h4⟩ := hq
  exact ⟨.inl ⟨.bool true, .bool true, [], rfl, fun _ => rfl, .bool true, post_true l _, fun _ => ⟨List.Pairwise.nil, fun _ hm => (nomatch hm)⟩⟩, h2, h3, h4⟩
section
variable {prog : Program} {w : World} {A : Around} {E : Value → Shared → Prop} {s : Shared} {K : Frag}
end
end Att
namespace L2
open PySem PySem.Spec PyProof.Rows
theorem vals_ints : ∀ {vs : List Value} {ns : List Int}, IntsAre vs ns → Vals (ns.map V.int) vs
  | _, _, .nil => .nil
  | _, _, .cons n t h => .cons ⟨t, rfl⟩ (vals_ints h)
def Only (H : Hp) : Prop := ∀ b, H b = none ∨ ∃ o xs, H b = some (.frz o (.lst xs))
theorem law_call {P : Program} {w : World} {K : PySem.W.Frag} {mg mb : Str → Option Value} {CX : CXT} {k : Nat} {fa a : Addr} {fd : FuncData} {x : Str} {sp : Sp} {s₁ : Shared} {vs : List Value} {ns : List Int}
    (KX : K.In s₁.heap) (hns : s₁.heap.Ns mainGlobals mg) (hb : s₁.heap.Ns builtinsNs mb) (hbb : ∀ x : Str, x ≠ "__name__" → mb x = bootBuiltins x) (hlim : s₁.heap.NoLimit) (hg : s₁.gens = #[])
    (ha : s₁.heap.get? a = some { cls := .type "list", data := .seq vs.toArray }) (hi : IntsAre vs ns) (hl : ns.length ≤ sizeLine) (hr : Room k callerA)
    (F : ∀ base : Heap, K.In base → base.Ns mainGlobals mg → FnOk P w K mg base CX k fa fd [x] sp) (hbind : ∀ (s : Shared) (u : Value), BindsTo s fd ⟨[u], []⟩ [(x, u)])
    (hsp : ∀ H : Hp, Only H → SqL K H a (ns.map V.int) → sp [.ref a] H (fun v _ => v = .bl true) fun _ _ _ => False)
    (hCX : ∀ H e s', CX [] H s₁ (fun _ _ _ => False) e s' → False) :
    codeAny (model P w) callerA (.call (.ref fa) ⟨[.ref a], []⟩) (fun r s' => r = .ok (.ret (.bool true)) ∧ OldK s₁.heap s'.heap ∧ s'.os = s₁.os ∧ AllBare s'.gens) s₁ := by
  have rv := vals_ints hi
  have lenV := hi.length
  have core : ∀ H : Hp, Only H → SqL K H a (ns.map V.int) → HOk P w H s₁.heap → (∀ b, H b ≠ none → b = a) → (H a ≠ none → K.lookup a = none) →
      codeAny (model P w) callerA (.call (.ref fa) ⟨[.ref a], []⟩) (fun r s' => r = .ok (.ret (.bool true)) ∧ OldK s₁.heap s'.heap ∧ s'.os = s₁.os ∧ AllBare s'.gens) s₁ := by
    intro H hO hS hok hA hK
    have base_of : ∀ {b : Addr} {o : Obj}, s₁.heap.get? b = some o → H b = none → (hidT s₁.heap H).get? b = some o := fun e n => hidT_get e n
    have noA : ∀ {b : Addr} {o : Obj} {es : Array DictEntry} {ep : Nat}, s₁.heap.get? b = some o → o.data = .dict es ep → H b = none := fun {b o es ep} e d => by
      cases q : H b with
      | none => rfl
      | some u =>
        have e' : b = a := hA b (by rw [q]; simp)
        subst e'
        rw [ha] at e; cases e
        have d' : Data.seq vs.toArray _ = Data.dict es ep := d
        cases d'
    have nsK : ∀ {b : Addr} {m : Str → Option Value}, s₁.heap.Ns b m → (hidT s₁.heap H).Ns b m := fun {b m} ⟨o, es, ep, e, d, r⟩ => ⟨o, es, ep, base_of e (noA e d), d, r⟩
    have hKb : K.In (hidT s₁.heap H) := fun b o e => base_of (KX b o e) (by
      cases q : H b with
      | none => rfl
      | some u =>
        have e' : b = a := hA b (by rw [q]; simp)
        subst e'
        rw [hK (by rw [q]; simp)] at e; cases e)
    have hM : Mod K mg (hidT s₁.heap H) := ⟨hKb, nsK hns, ⟨mb, nsK hb, hbb⟩, let ⟨mc, h1, h2⟩ := hlim; ⟨mc, nsK h1, h2⟩⟩
    have e0 : Env0 P w K mg (hidT s₁.heap H) callerA [] s₁ H := ⟨rfl, hM, fun b o e => of_hidT e, Nat.le_of_eq (hidT_size _ _), trivial, fun b hb => absurd (show b ∈ ([] : List Addr) from hb) (by simp), hok, .of_eq hg⟩
    refine codeAny_mono ((F _ hKb (nsK hns)).run callerA [] s₁ H ⟨[.ref a], []⟩ [.ref a] [.ref a] _ _ hr e0 (hbind s₁ (.ref a)) (.cons rfl .nil) (hsp H hO hS)) fun r s' h => ?_
    cases r with
    | error e => exact (hCX H e s' h).elim
    | ok fl =>
      cases fl with
      | next => exact False.elim h
      | brk => exact False.elim h
      | cont => exact False.elim h
      | ret u =>
        obtain ⟨v, H', os, bare, un, hok', r', q⟩ := h
        have q' : v = .bl true := q
        subst q'
        obtain rfl : u = Value.bool true := r'
        refine ⟨rfl, OldK.of_keep fun b o e => ?_, os, bare⟩
        cases q : H b with
        | none => exact un.keep b o e q (by intro z; exact absurd (show b ∈ ([] : List Addr) from z) (by simp)) (by simp)
        | some u =>
          rcases hO b with z | ⟨ob, xs, z⟩
          · rw [q] at z; cases z
          · have z2 := un.frzs b ob _ z
            obtain ⟨e1, _⟩ := hok b _ z
            obtain ⟨e2, _⟩ := hok' b _ z2
            rw [e] at e1; cases e1
            exact e2
  cases hk : K.lookup a with
  | some o =>
    have e := KX a o hk
    rw [ha] at e
    cases e
    refine core (fun _ => none) (fun _ => .inl rfl) (.inr ⟨_, vs.toArray, _, hk, rfl, rfl, rfl, by rw [List.size_toArray, lenV]; exact hl, by simpa using rv⟩) (fun b u z => by have z' : (none : Option HO) = some u := z; cases z') (fun b z => absurd rfl z) fun z => absurd rfl z
  | none =>
    refine core (fun b => if b = a then some (.frz { cls := .type "list", data := .seq vs.toArray } (.lst (ns.map V.int))) else none) (fun b => ?_) (.inl (.inr ⟨{ cls := .type "list", data := .seq vs.toArray }, if_pos rfl⟩)) (fun b u z => ?_) (fun b z => ?_) fun _ => hk
    · by_cases hb : b = a
      · exact .inr ⟨_, _, if_pos hb⟩
      · exact .inl (if_neg hb)
    · by_cases hb : b = a
      · have z' := (if_pos hb).symm.trans z
        cases z'
        subst hb
        exact ⟨ha, by rw [List.length_map]; exact hl, vs, _, rv, ha⟩
      · have z' := (if_neg hb).symm.trans z
        cases z'
    · by_cases hb : b = a
      · exact hb
      · exact absurd (if_neg hb) z
end L2
namespace L2
open PySem PySem.Spec PyProof.Rows
theorem walk_of {l : PySem.W.OpenLaw} {n k : Nat} {q : Program} {loose : List Str} {XP : (Str → Option Value) → Heap → Prop} {YP : World → Heap → Prop} {d : DefRec} {K : Params → PySem.W.Frag} {CX : World → CXT} {sp : World → Sp} {x : Str}
    (hn : l.most = some n) (hn2 : n ≤ sizeLine) (hdf : d.params.defaults = []) (hr : Room k callerA)
    (hY : ∀ (w : World) (h : Heap), YP w h → (K w.params).In h)
    (F : ∀ (w : World) (mg : Str → Option Value) (fa : Addr) (h : Heap), (K w.params).In h → h.Ns mainGlobals mg → mg d.name = some (.ref fa) →
      ∃ fd : FuncData, (∀ (s : Shared) (u : Value), BindsTo s fd ⟨[u], []⟩ [(x, u)]) ∧
        ∀ base : Heap, (K w.params).In base → base.Ns mainGlobals mg → FnOk l.prog w (K w.params) mg base (CX w) k fa fd [x] (sp w))
    (hsp : ∀ (w : World) (H : Hp) (a : Addr) (ns : List Int), ns.length ≤ n → Only H → SqL (K w.params) H a (ns.map V.int) → sp w [.ref a] H (fun v _ => v = .bl true) fun _ _ _ => False)
    (hCX : ∀ (w : World) (H : Hp) (s : Shared) (e : Value) (s' : Shared), CX w [] H s (fun _ _ _ => False) e s' → False) :
    PySem.W.WalkO q loose XP YP l.row.toRowW d [] (fun f vs => PySem.call f vs) := by
  refine Att.attach_call hn hdf fun w s₀ s₁ mg mb fa o pm cd doc a vs ns G Y ho hd hcd hmg hobj hints hlen hg => ?_
  have KX := hY w _ Y
  obtain ⟨fd, hb, hF⟩ := F w mg fa _ KX G.T.g hmg
  exact law_call KX G.T.g G.T.b G.T.builtins G.T.nolimit hg hobj hints (Nat.le_trans hlen hn2) hr hF hb (fun H hO hS => hsp w H a ns hlen hO hS) fun H e s' => hCX w H s₁ e s'
end L2
namespace L2
open PySem PySem.Spec PyProof.Rows
def defArgs (s : Stmt) : Arguments := match s with
  | .FunctionDef _ a _ _ _ _ _ _ _ _ => a
  | _ => { posonlyargs := [], args := [], vararg := none, kwonlyargs := [], kw_defaults := [], kwarg := none, defaults := [] }
def defBody (s : Stmt) : List Stmt := match s with
  | .FunctionDef _ _ b _ _ _ _ _ _ _ => b
  | _ => []
def defScope (s : Stmt) : Scope := match s with
  | .FunctionDef _ _ _ _ _ _ sc _ _ _ => sc
  | _ => { kind := .function, names := [], isGenerator := false, isCoroutine := false }
abbrev CX0 : CXT := fun _ _ _ _ _ _ => False
abbrev E0 : XK := fun _ _ _ => False
theorem pass0 {X : Cx} : Passes CX0 X E0 := fun _ _ _ _ _ _ _ h => h.elim
structure Fun (K : PySem.W.Frag) (x qual : Str) (st : Stmt) (f : Addr) (fd : FuncData) : Prop where
  ex : ∃ (oc : Value) (od : Option Addr) (kV doc pm : Value) (an : Option Addr) (cdv ct : Value) (osl : Array (Option Value)),
    fd = PySem.W.fnOf x qual (defArgs st) (defBody st) (defScope st) .none kV doc pm an cdv ct ∧ K.lookup f = some ⟨oc, od, .func fd, osl⟩ ∧ PySem.W.codeIn K cdv qual = true
  kp : PySem.W.keepIn K (.ref f) = true
section
variable {P : Program} {w : World} {K : PySem.W.Frag} {mg : Str → Option Value} {base : Heap}
theorem Fun.ok {x qual : Str} {st : Stmt} {f : Addr} {fd : FuncData} {N ps : List Str} {k : Nat} {sp : Sp} (F : Fun K x qual st f fd) (S : FnScope N ps (defScope st)) (len : ∀ vs H Q E, sp vs H Q E → vs.length = ps.length)
    (hbody : ∀ (cdv : Value) (A : Around) (outer : List Env) (s : Shared) (H : Hp) (vs : List V) (Q : VK) (E : XK), Room k (A.deeper (envOfC qual (defScope st) s.heap.objs.size f cdv)) → sp vs H Q E →
      ∃ t, PSs (cxOf CX0 P w K mg base N qual (defScope st) f cdv A outer s H E).nox (defBody st) t ∧ t { nx := fun _ H' => Q .non H', rt := Q } (start N vs) H) : FnOk P w K mg base CX0 (k + 1) f fd ps sp := by
  obtain ⟨oc, od, kV, doc, pm, an, cdv, ct, osl, rfl, lk, hcd⟩ := F.ex
  refine fn_of lk hcd S len fun A outer s H vs Q E hr hsp => ?_
  obtain ⟨t, h, q⟩ := hbody cdv A outer s H vs Q E hr hsp
  exact ⟨t, h.nox, q⟩
theorem Fun.binds {x qual : Str} {st : Stmt} {f : Addr} {fd : FuncData} {ps : List Str} (F : Fun K x qual st f fd)
    (h : ∀ (kV doc pm : Value) (an : Option Addr) (cdv ct : Value) (us : List Value), us.length = ps.length → bindArgs (PySem.W.fnOf x qual (defArgs st) (defBody st) (defScope st) .none kV doc pm an cdv ct) ⟨us, []⟩ = pure (ps.zip us)) : Binds K fd ps [] := by
  obtain ⟨oc, od, kV, doc, pm, an, cdv, ct, osl, rfl, lk, hcd⟩ := F.ex
  exact .all (h kV doc pm an cdv ct)
theorem fun_mk {x qual : Str} {st : Stmt} {f : Addr} {oc : Value} {od an : Option Addr} {osl : Array (Option Value)} {kV doc pm cdv ct : Value} (l : K.lookup f = some ⟨oc, od, .func (PySem.W.fnOf x qual (defArgs st) (defBody st) (defScope st) .none kV doc pm an cdv ct), osl⟩)
    (c : PySem.W.codeIn K cdv qual = true) (k : PySem.W.keepIn K (.ref f) = true) : Fun K x qual st f (PySem.W.fnOf x qual (defArgs st) (defBody st) (defScope st) .none kV doc pm an cdv ct) := ⟨⟨oc, od, kV, doc, pm, an, cdv, ct, osl, rfl, l, c⟩, k⟩
end
section
variable {X : Cx}
theorem pv (i : Nat) {x : Str} {pos : Pos} (hN : X.N[i]? = some x := by rfl) (hv : Vis X.env.scope x := by first | exact Or.inl rfl | exact Or.inr (Or.inl rfl) | exact Or.inr (Or.inr rfl)) (hd : (x == ("__debug__" : Str)) = false := by decide)
    (hcd : (x == ("__classdict__" : Str)) = false := by decide) : PE X (.Name x pos) (tVar i) := pe_var hN hv hd hcd
end
theorem iteF {A B : Prop} (h : B) : if false = true then A else B := by
  rw [if_neg Bool.false_ne_true]
  exact h
theorem iteT {A B : Prop} (h : A) : if true = true then A else B := by
  rw [if_pos rfl]
  exact h
theorem ite2 {c A B : Prop} [Decidable c] (h1 : c → A) (h2 : ¬ c → B) : if c then A else B := by
  by_cases h : c
  · rw [if_pos h]
    exact h1 h
  · rw [if_neg h]
    exact h2 h
theorem iteNS {c A B : Prop} [Decidable c] (hc : c) (h : B) : if (!decide c) = true then A else B := by
  rw [decide_eq_true hc]
  exact iteF h
def Same (H H' : Hp) : Prop := ∀ b o, H b = some o → H' b = some o
theorem Same.refl (H : Hp) : Same H H := fun _ _ h => h
theorem Same.trans {H H1 H2 : Hp} (a : Same H H1) (b : Same H1 H2) : Same H H2 := fun c o h => b c o (a c o h)
theorem Same.free {H H' : Hp} (e : Same H H') {l : Addr} (h : H' l = Option.none) : H l = Option.none := by
  cases q : H l with
  | none => rfl
  | some o =>
    rw [e l o q] at h
    cases h
theorem Same.seq {K : PySem.W.Frag} {H H' : Hp} {a : Addr} {xs : List V} (e : Same H H') (h : SqL K H a xs) : SqL K H' a xs := by
  rcases h with (h | ⟨o, h⟩) | h
  · exact .inl (.inl (e _ _ h))
  · exact .inl (.inr ⟨o, e _ _ h⟩)
  · exact .inr h
end L2
namespace L2
open PySem PySem.Spec PyProof.Rows
section
variable {κ : Type} [DecidableEq κ]
def valV (kvs : List (κ × V)) (k : κ) : Option V := (kvs.find? fun kv => decide (kv.1 = k)).map (·.2)
def putK (kvs : List (κ × V)) (k : κ) (v : V) : List (κ × V) :=
  if (kvs.any fun kv => decide (kv.1 = k)) = true then kvs.map (fun kv => if kv.1 = k then (kv.1, v) else kv) else kvs ++ [(k, v)]
def dropK (kvs : List (κ × V)) (k : κ) : List (κ × V) := kvs.filter fun kv => decide (kv.1 ≠ k)
theorem valV_pos {p : κ × V} {r : List (κ × V)} {k : κ} (e : p.1 = k) : valV (p :: r) k = some p.2 := by simp [valV, List.find?_cons, e]
theorem valV_neg {p : κ × V} {r : List (κ × V)} {k : κ} (e : ¬ p.1 = k) : valV (p :: r) k = valV r k := by simp [valV, List.find?_cons, e]
theorem valV_any (k : κ) : ∀ kvs : List (κ × V), (kvs.any fun kv => decide (kv.1 = k)) = (valV kvs k).isSome
  | [] => rfl
  | p :: r => by
    rw [List.any_cons]
    by_cases e : p.1 = k
    · simp only [valV_pos e, decide_eq_true e, Bool.true_or, Option.isSome_some]
    · rw [valV_neg e, decide_eq_false e, Bool.false_or]; exact valV_any k r
theorem RelO.isSome_eq {o : Option V} {u : Option Value} (r : RelO o u) : o.isSome = u.isSome := by
  cases o with
  | none => cases u with
    | none => rfl
    | some _ => exact (show False from r).elim
  | some _ => cases u with
    | none => exact (show False from r).elim
    | some _ => rfl
theorem RelO.getD {o : Option V} {u : Option Value} {d : V} {d' : Value} (r : RelO o u) (rd : RelV d d') : RelV (o.getD d) (u.getD d') := by
  cases o with
  | none => cases u with
    | none => exact rd
    | some _ => exact (show False from r).elim
  | some _ => cases u with
    | none => exact (show False from r).elim
    | some _ => exact r
theorem KV.val {kvs : List (κ × V)} {vs : List (κ × Value)} (r : KV kvs vs) (k : κ) : RelO (valV kvs k) (valueAt vs k) := by
  unfold KV at r
  induction r with
  | nil => exact True.intro
  | @cons p q ps qs h t ih =>
    obtain ⟨h1, h2⟩ := h
    by_cases e : p.1 = k
    · have e' : q.1 = k := h1.symm.trans e
      have b : valueAt (q :: qs) k = some q.2 := by simp [valueAt, List.find?_cons, e']
      rw [valV_pos e, b]; exact h2
    · have e' : ¬ q.1 = k := fun z => e (h1.trans z)
      have b : valueAt (q :: qs) k = valueAt qs k := by simp [valueAt, List.find?_cons, e']
      rw [valV_neg e, b]; exact ih
theorem KV.any {kvs : List (κ × V)} {vs : List (κ × Value)} (r : KV kvs vs) (k : κ) : (kvs.any fun kv => decide (kv.1 = k)) = vs.any fun kv => decide (kv.1 = k) := by
  unfold KV at r
  induction r with
  | nil => rfl
  | cons h t ih => rw [List.any_cons, List.any_cons, ih, h.1]
theorem KV.repl {kvs : List (κ × V)} {vs : List (κ × Value)} (r : KV kvs vs) (k : κ) {y : V} {u : Value} (ry : RelV y u) :
    KV (kvs.map fun kv => if kv.1 = k then (kv.1, y) else kv) (vs.map fun kv => if kv.1 = k then (kv.1, u) else kv) := by
  unfold KV at r ⊢
  induction r with
  | nil => exact .nil
  | @cons p q ps qs h t ih =>
    rw [List.map_cons, List.map_cons]
    refine .cons ?_ ih
    obtain ⟨h1, h2⟩ := h
    by_cases e : p.1 = k
    · rw [if_pos e, if_pos (h1.symm.trans e)]; exact ⟨h1, ry⟩
    · rw [if_neg e, if_neg (fun z => e (h1.trans z))]; exact ⟨h1, h2⟩
theorem KV.put {kvs : List (κ × V)} {vs : List (κ × Value)} (r : KV kvs vs) (k : κ) {y : V} {u : Value} (ry : RelV y u) : KV (putK kvs k y) (stored vs k u) := by
  unfold putK stored
  rw [r.any k]
  by_cases e : (vs.any fun kv => decide (kv.1 = k)) = true
  · rw [if_pos e, if_pos e]; exact r.repl k ry
  · rw [if_neg e, if_neg e]; exact Paired.snoc r ⟨rfl, ry⟩
theorem KV.drop {kvs : List (κ × V)} {vs : List (κ × Value)} (r : KV kvs vs) (k : κ) : KV (dropK kvs k) (without vs k) := by
  unfold KV at r ⊢
  unfold dropK without
  induction r with
  | nil => exact .nil
  | @cons p q ps qs h t ih =>
    obtain ⟨h1, h2⟩ := h
    rw [List.filter_cons, List.filter_cons]
    by_cases e : p.1 = k
    · have a : ¬ decide (p.1 ≠ k) = true := by simp [e]
      have b : ¬ decide (q.1 ≠ k) = true := by simp [h1.symm.trans e]
      rw [if_neg a, if_neg b]; exact ih
    · have e' : ¬ q.1 = k := fun z => e (h1.trans z)
      have a : decide (p.1 ≠ k) = true := by simp [e]
      have b : decide (q.1 ≠ k) = true := by simp [e']
      rw [if_pos a, if_pos b]; exact .cons ⟨h1, h2⟩ ih
theorem KV.keys {kvs : List (κ × V)} {vs : List (κ × Value)} (r : KV kvs vs) : kvs.map (·.1) = vs.map (·.1) := by
  unfold KV at r
  induction r with
  | nil => rfl
  | cons h t ih => rw [List.map_cons, List.map_cons, ih, h.1]
theorem KV.length {kvs : List (κ × V)} {vs : List (κ × Value)} (r : KV kvs vs) : kvs.length = vs.length := Paired.length r
end
abbrev KT (H : Hp) : List (List Key × V) → List (List Key × Addr × Value) → Prop := Paired fun p q => p.1 = q.1 ∧ H q.2.1 = some (.tup (p.1.map kV)) ∧ RelV p.2 q.2.2
theorem KT.val {H : Hp} {kvs : List (List Key × V)} {xs : List (List Key × Addr × Value)} (r : KT H kvs xs) (k : List Key) : RelO (valV kvs k) ((atKey xs k).map (·.2)) := by
  induction r with
  | nil => exact True.intro
  | @cons p q ps qs h t ih =>
    obtain ⟨h1, _, h2⟩ := h
    by_cases e : p.1 = k
    · have e' : q.1 = k := h1.symm.trans e
      have b : atKey (q :: qs) k = some q.2 := by simp [atKey, List.find?_cons, e']
      rw [valV_pos e, b]; exact h2
    · have e' : ¬ q.1 = k := fun z => e (h1.trans z)
      have b : atKey (q :: qs) k = atKey qs k := by simp [atKey, List.find?_cons, e']
      rw [valV_neg e, b]; exact ih
theorem KT.repl {H : Hp} {kvs : List (List Key × V)} {xs : List (List Key × Addr × Value)} (r : KT H kvs xs) (k : List Key) {y : V} {u : Value} (ry : RelV y u) :
    KT H (kvs.map fun kv => if kv.1 = k then (kv.1, y) else kv) (xs.map (putAt k u)) := by
  induction r with
  | nil => exact .nil
  | @cons p q ps qs h t ih =>
    rw [List.map_cons, List.map_cons]
    refine .cons ?_ ih
    obtain ⟨h1, h2, h3⟩ := h
    unfold putAt
    by_cases e : p.1 = k
    · rw [if_pos e, if_pos (h1.symm.trans e)]; exact ⟨h1, h2, ry⟩
    · rw [if_neg e, if_neg (fun z => e (h1.trans z))]; exact ⟨h1, h2, h3⟩
theorem KT.put {H : Hp} {kvs : List (List Key × V)} {xs : List (List Key × Addr × Value)} (r : KT H kvs xs) (k : List Key) {b : Addr} {y : V} {u : Value} (hb : H b = some (.tup (k.map kV))) (ry : RelV y u) :
    KT H (putK kvs k y) (storedH xs k b u) := by
  have e : (kvs.any fun kv => decide (kv.1 = k)) = (atKey xs k).isSome := by
    rw [valV_any, (r.val k).isSome_eq, Option.isSome_map]
  unfold putK storedH
  rw [e]
  by_cases q : (atKey xs k).isSome = true
  · rw [if_pos q, if_pos q]; exact r.repl k ry
  · rw [if_neg q, if_neg q]; exact Paired.snoc r ⟨rfl, hb, ry⟩
theorem KT.keeps {H H' : Hp} {kvs : List (List Key × V)} {xs : List (List Key × Addr × Value)} (r : KT H kvs xs) (ht : ∀ b ys, H b = some (.tup ys) → H' b = some (.tup ys)) : KT H' kvs xs :=
  Paired.mapP r fun _ _ z => ⟨z.1, ht _ _ z.2.1, z.2.2⟩
section
variable {P : Program} {w : World} {H : Hp} {h : Heap} {a : Addr}
end
def DGet (H : Hp) (a : Addr) (y : V) (r : Option V) : Prop :=
  (∃ kvs k, Rd H a (.dK kvs) ∧ y = kV k ∧ r = valV kvs k) ∨ ∃ kvs k b, Rd H a (.dT kvs) ∧ y = .ref b ∧ H b = some (.tup (k.map kV)) ∧ r = valV kvs k
def DPut (H : Hp) (a : Addr) (y v : V) (H' : Hp) : Prop :=
  (∃ kvs k, H a = some (.dK kvs) ∧ y = kV k ∧ kvs.length < sizeLine ∧ H' = upd H a (.dK (putK kvs k v))) ∨
  ∃ kvs k b, H a = some (.dT kvs) ∧ y = .ref b ∧ H b = some (.tup (k.map kV)) ∧ kvs.length < sizeLine ∧ H' = upd H a (.dT (putK kvs k v))
theorem DGet.k {H : Hp} {a : Addr} {kvs : List (Key × V)} {k : Key} (e : H a = some (.dK kvs)) : DGet H a (kV k) (valV kvs k) := .inl ⟨kvs, k, .inl e, rfl, rfl⟩
theorem DGet.t {H : Hp} {a b : Addr} {kvs : List (List Key × V)} {k : List Key} (e : H a = some (.dT kvs)) (eb : H b = some (.tup (k.map kV))) : DGet H a (.ref b) (valV kvs k) := .inr ⟨kvs, k, b, .inl e, rfl, eb, rfl⟩
theorem DPut.k {H : Hp} {a : Addr} {kvs : List (Key × V)} {k : Key} {v : V} (e : H a = some (.dK kvs)) (hl : kvs.length < sizeLine) : DPut H a (kV k) v (upd H a (.dK (putK kvs k v))) := .inl ⟨kvs, k, e, rfl, hl, rfl⟩
theorem DPut.t {H : Hp} {a b : Addr} {kvs : List (List Key × V)} {k : List Key} {v : V} (e : H a = some (.dT kvs)) (eb : H b = some (.tup (k.map kV))) (hl : kvs.length < sizeLine) :
    DPut H a (.ref b) v (upd H a (.dT (putK kvs k v))) := .inr ⟨kvs, k, b, e, rfl, eb, hl, rfl⟩
section
variable {X : Cx} {pins : List (Addr × Obj)} {σ : St} {H : Hp} {s : Shared} {a : Addr} {y v : V} {u r : Value} {o : Option V} {A : Around} {E : Value → Shared → Prop}
theorem Inv.big (I : Inv X pins σ H s) : sysModules < s.heap.objs.size := by
  have h : mainGlobals < s.heap.objs.size := (I.mod.glob.keeps I.bk).lt
  exact Nat.lt_trans (by decide) h
end
section
variable {X : Cx} {pins : List (Addr × Obj)} {σ : St} {H : Hp} {s : Shared} {a : Addr} {kvs : List (Key × V)} {k : Key} {u : Value} {A : Around} {E : Value → Shared → Prop}
end
def NoSl (i : Expr) : Prop := ∀ ov iv, subscripted i false ov iv = operate [ov, iv] (getItem ov iv)
section
variable {X : Cx} {o i e value : Expr} {pos pos' tpos : Pos} {td ty tv : TE}
end
section
variable {X : Cx} {pos : Pos}
end
structure M1 (X : Cx) (o : Expr) (m : Str) (apos : Pos) (e : Expr) (cpos : Pos) : Prop where
  base : attributeBase o m X.env (eval o X.env) = eval o X.env
  few : ((backTo cpos (starEach [e] X.env)).all (fun x => !x.1) && (backToKw cpos (keywordEach [] X.env)).all (fun x => x.1.isSome)
    && decide (([e] : List Expr).length + ([] : List Keyword).length + (if ([] : List Keyword).isEmpty then 0 else 1) < 30)) = true
  line : (apos.endLine == cpos.line) = true
  trees : backTo cpos (starEach [e] X.env) = [(false, eval e X.env)]
structure M2 (X : Cx) (o : Expr) (m : Str) (apos : Pos) (e f : Expr) (cpos : Pos) : Prop where
  base : attributeBase o m X.env (eval o X.env) = eval o X.env
  few : ((backTo cpos (starEach [e, f] X.env)).all (fun x => !x.1) && (backToKw cpos (keywordEach [] X.env)).all (fun x => x.1.isSome)
    && decide (([e, f] : List Expr).length + ([] : List Keyword).length + (if ([] : List Keyword).isEmpty then 0 else 1) < 30)) = true
  line : (apos.endLine == cpos.line) = true
  trees : backTo cpos (starEach [e, f] X.env) = [(false, eval e X.env), (false, eval f X.env)]
section
variable {X : Cx} {pins : List (Addr × Obj)} {σ : St} {H : Hp} {s : Shared} {a : Addr} {y d : V} {u r : Value} {o : Option V} {A : Around} {E : Value → Shared → Prop}
end
section
variable {X : Cx} {o e f : Expr} {apos cpos : Pos} {td ty tx : TE}
end
section
variable {X : Cx} {pins : List (Addr × Obj)} {σ : St} {H : Hp} {s : Shared} {a : Addr} {kvs : List (Key × V)} {A : Around} {E : Value → Shared → Prop}
end
section
variable {X : Cx} {pins : List (Addr × Obj)} {σ : St} {H : Hp} {s : Shared} {a : Addr} {y : V} {u : Value} {A : Around} {E : Value → Shared → Prop}
end
end L2
namespace L2
open PySem PySem.Spec PyProof.Rows
def clos (cells : List (Str × Addr)) : List (Str × NameKind) → List (Str × Addr) → List (Str × Addr)
  | [], acc => acc
  | (n, k) :: r, acc => clos cells r (if (k == NameKind.free) = true then (match cells.lookup n with | some c => (n, c) :: acc | none => acc) else acc)
theorem closureFor_clos {env : Env} : ∀ (names : List (Str × NameKind)) (acc : List (Str × Addr)), (∀ y ∈ names, y.2 = .free → ∃ c, env.cells.lookup y.1 = some c) →
    (forIn (m := Sem) names acc fun (x : Str × NameKind) r => (match x with | (name, kind) => if (kind == NameKind.free) = true then (do let a ← cellOf env name; pure (ForInStep.yield ((name, a) :: r))) else pure (ForInStep.yield r))) = pure (clos env.cells names acc)
  | [], acc, _ => rfl
  | (n, k) :: r, acc, h => by
    rw [List.forIn_cons]
    unfold clos
    by_cases hk : (k == NameKind.free) = true
    · obtain ⟨c, e⟩ := h (n, k) List.mem_cons_self (by simpa using hk)
      simp only [hk, if_true]
      have e1 : cellOf env n = pure c := by unfold cellOf; rw [show env.cells.lookup n = some c from e]
      rw [e1, show env.cells.lookup n = some c from e]
      simp only [pure_bind]
      exact closureFor_clos r _ fun y hy => h y (List.mem_cons_of_mem _ hy)
    · have hk' : (k == NameKind.free) = false := by simpa using hk
      simp only [hk', Bool.false_eq_true, if_false, pure_bind]
      exact closureFor_clos r _ fun y hy => h y (List.mem_cons_of_mem _ hy)
theorem closure_of {env : Env} {scope : Scope} (h : ∀ y ∈ scope.names, y.2 = .free → ∃ c, env.cells.lookup y.1 = some c) : closureFor scope env = pure (clos env.cells scope.names []) := by
  have e := closureFor_clos (env := env) scope.names [] h
  unfold closureFor
  simp only [bind_pure]
  exact e
theorem clos_sub {cells : List (Str × Addr)} {x : Str} {c : Addr} : ∀ (names : List (Str × NameKind)) (acc : List (Str × Addr)), (∀ y d, acc.lookup y = some d → cells.lookup y = some d) → (clos cells names acc).lookup x = some c → cells.lookup x = some c
  | [], acc, ha, h => ha _ _ h
  | (n, k) :: r, acc, ha, h => by
    unfold clos at h
    refine clos_sub r _ (fun y d hy => ?_) h
    split at hy
    · split at hy
      · rename_i c' e'
        rw [List.lookup_cons] at hy
        cases hb : y == n with
        | true => rw [hb] at hy; cases hy; rw [beq_iff_eq.mp hb]; exact e'
        | false => rw [hb] at hy; exact ha _ _ hy
      · exact ha _ _ hy
    · exact ha _ _ hy
theorem lookup_cons_some {x n : Str} {c : Addr} {acc : List (Str × Addr)} (h : ∃ d, acc.lookup x = some d) : ∃ d, ((n, c) :: acc).lookup x = some d := by
  rw [List.lookup_cons]
  cases x == n with
  | true => exact ⟨_, rfl⟩
  | false => exact h
theorem clos_has {cells : List (Str × Addr)} {x : Str} : ∀ (names : List (Str × NameKind)) (acc : List (Str × Addr)), ((∃ d, acc.lookup x = some d) ∨ ((x, NameKind.free) ∈ names ∧ ∃ d, cells.lookup x = some d)) → ∃ d, (clos cells names acc).lookup x = some d
  | [], acc, h => by
    rcases h with h | ⟨h, _⟩
    · exact h
    · cases h
  | (n, k) :: r, acc, h => by
    unfold clos
    refine clos_has r _ ?_
    rcases h with h | ⟨h, d, hd⟩
    · refine .inl ?_
      split
      · split
        · exact lookup_cons_some h
        · exact h
      · exact h
    · rcases List.mem_cons.mp h with e | h
      · cases e
        refine .inl ?_
        rw [if_pos (by decide), hd]
        exact ⟨d, by rw [List.lookup_cons]; simp⟩
      · exact .inr ⟨h, d, hd⟩
theorem cellsFrom_app : ∀ (names : List (Str × NameKind)) (n : Nat) (acc : List (Str × Addr)), cellsFrom n names acc = cellsFrom n names [] ++ acc
  | [], n, acc => rfl
  | (x, k) :: r, n, acc => by
    unfold cellsFrom
    split
    · rw [cellsFrom_app r _ ((x, n) :: acc), cellsFrom_app r _ [(x, n)]]; simp
    · exact cellsFrom_app r n acc
theorem lookup_app {x : Str} {c : Addr} : ∀ {l l' : List (Str × Addr)}, (l ++ l').lookup x = some c → l.lookup x = some c ∨ l'.lookup x = some c
  | [], _, h => .inr h
  | (n, d) :: r, l', h => by
    rw [List.cons_append, List.lookup_cons] at h
    rw [List.lookup_cons]
    cases hb : x == n with
    | true => rw [hb] at h; exact .inl h
    | false => rw [hb] at h; exact lookup_app h
theorem cellsFrom_has {x : Str} : ∀ (names : List (Str × NameKind)) (n : Nat) (acc : List (Str × Addr)), ((∃ d, acc.lookup x = some d) ∨ (x, NameKind.cell) ∈ names) → ∃ d, (cellsFrom n names acc).lookup x = some d
  | [], n, acc, h => by
    rcases h with h | h
    · exact h
    · cases h
  | (y, k) :: r, n, acc, h =>
    by
    unfold cellsFrom
    rcases h with h | h
    · split
      · exact cellsFrom_has r _ _ (.inl (lookup_cons_some h))
      · exact cellsFrom_has r _ _ (.inl h)
    · rcases List.mem_cons.mp h with e | h
      · cases e
        rw [if_pos (by decide)]
        exact cellsFrom_has r _ _ (.inl ⟨n, by rw [List.lookup_cons]; simp⟩)
      · split
        · exact cellsFrom_has r _ _ (.inr h)
        · exact cellsFrom_has r _ _ (.inr h)
def cenv (scope : Scope) (C : Addr) (env : Env) : Env :=
  { scope := relabel scope env, locals := C, globals := env.globals, cells := cellsFrom (C + 1) scope.names (clos env.cells scope.names []), qual := env.qual, func := none, code := env.code, frame := env.frame, builtins := env.builtins }
theorem relabel_mem {scope : Scope} {env : Env} {x : Str} {k : NameKind} (h : (relabel scope env).names.lookup x = some k) : ∃ k', (x, k') ∈ scope.names ∧ (k' = k ∨ (k' = .free ∧ k = .cell ∧ env.kindOf x = some .cell)) := by
  have h' := List.mem_map.mp (mem_of_lookup h)
  obtain ⟨⟨n, q⟩, hm, e⟩ := h'
  dsimp only at e
  split at e
  · rename_i hc
    injection e with e1 e2
    subst e1
    refine ⟨q, hm, .inr ?_⟩
    simp only [Bool.and_eq_true, beq_iff_eq] at hc
    exact ⟨hc.1.1, e2.symm, hc.2⟩
  · injection e with e1 e2
    subst e1
    exact ⟨q, hm, .inl e2⟩
def compCx (X : Cx) (scope : Scope) (N' : List Str) (s : Shared) (H : Hp) (fp : List Addr) : Cx where
  prog := X.prog
  w := X.w
  K := X.K
  mg := X.mg
  base := X.base
  A := X.A
  N := N'
  s₀ := s
  H₀ := H
  env := cenv scope s.heap.objs.size X.env
  outer := X.stack
  stack := X.stack
  ex := fp
  calm := X.calm
  fn := fun x => decide ((x, NameKind.cell) ∈ scope.names ∧ (x, NameKind.free) ∉ scope.names)
  pn := []
  xe := fun _ _ => False
def sub (n : Nat) (fi : List Nat) (σ : St) : St := List.replicate n none ++ fi.map fun k => (σ[k]?).join
theorem sub_len (n : Nat) (fi : List Nat) (σ : St) : (sub n fi σ).length = n + fi.length := by simp [sub]
structure CScope (X : Cx) (scope : Scope) (N' : List Str) (n : Nat) (fi : List Nat) : Prop where
  kind : scope.kind = .function
  names : ∀ y ∈ scope.names, y.2 = .local → scope.names.lookup y.1 = some .local
  free : ∀ y ∈ scope.names, y.2 = .free → X.env.kindOf y.1 = some .cell ∨ X.env.kindOf y.1 = some .free
  len : N'.length = n + fi.length
  at' : ∀ (j : Nat) (k : Nat), fi[j]? = some k → ∃ x, N'[n + j]? = some x ∧ X.N[k]? = some x ∧ scope.names.lookup x = some .free ∧ (x, NameKind.cell) ∉ scope.names
theorem newEnvC {M : Model} {A : Around} {E : Value → Shared → Prop} {s : Shared} {scope : Scope} {globals : Addr} {cl : List (Str × Addr)} {qual : Str} {env : Env} {Q : Env → Shared → Prop}
    (h : ∀ h', h'.Ns s.heap.objs.size (fun _ => none) → (∀ b o, s.heap.get? b = some o → h'.get? b = some o) → CellsOk h' (s.heap.objs.size + 1) (cellsFrom (s.heap.objs.size + 1) scope.names []) →
      Q { scope, locals := s.heap.objs.size, globals, cells := cellsFrom (s.heap.objs.size + 1) scope.names cl, qual, func := none, code := env.code, frame := env.frame, builtins := env.builtins } { s with heap := h' }) :
    wpAny M A (newFunctionEnv scope globals cl [] qual none .none (some env)) Q E s := by
  have size : (s.heap.push { cls := .type "dict", data := .dict #[] }).objs.size = s.heap.objs.size + 1 := Heap.size_push ..
  have before : ∀ b o, s.heap.get? b = some o → (s.heap.push { cls := .type "dict", data := .dict #[] }).get? b = some o := fun b o e => Heap.get?_push_of_some _ e
  have names := Heap.Ns.new s.heap (.type "dict")
  simp only [newFunctionEnv, if_true, Option.isSome_some]
  (refine wpAny_bind (wpAny_alloc ?_))
  generalize s.heap.push { cls := .type "dict", data := .dict #[] } = h1 at size before names
  have none' : CellsOk h1 (s.heap.objs.size + 1) [] := ⟨(fun _ _ z => by cases z), List.Pairwise.nil⟩
  have laid := cellsFrom_ok scope.names h1 _ [] none' (Nat.le_of_eq size.symm)
  have more := pushCells_keeps scope.names h1
  rw [size] at laid
  refine wpAny_bind (wpAny_layCells _ (fun _ kind _ => ?_) scope.names cl { s with heap := h1 } _ (wpAny_bind (wpAny_pure (wpAny_pure ?_))))
  · cases e : kind == NameKind.cell <;> simp [e]
  · show Q { scope, locals := s.heap.objs.size, globals, cells := cellsFrom h1.objs.size scope.names cl, qual, func := none, code := env.code, frame := env.frame, builtins := env.builtins } _
    rw [size]
    exact h _ (names.keeps more) (fun b o e => more b o (before b o e)) laid
section
variable {X : Cx} {pins : List (Addr × Obj)} {σ : St} {H : Hp} {s : Shared} {scope : Scope} {N' : List Str} {n : Nat} {fi : List Nat} {fp : List Addr} {h' : Heap}
theorem CScope.clHas (S : CScope X scope N' n fi) (ok : X.Ok) : ∀ y ∈ scope.names, y.2 = .free → ∃ c, X.env.cells.lookup y.1 = some c := fun y hy hk => ok.has _ (S.free y hy hk)
theorem cenv_cell {C : Addr} {x : Str} {c : Addr} (h : (cenv scope C X.env).cells.lookup x = some c) : (cellsFrom (C + 1) scope.names []).lookup x = some c ∨ X.env.cells.lookup x = some c := by
  have h1 : (cellsFrom (C + 1) scope.names (clos X.env.cells scope.names [])).lookup x = some c := h
  rw [cellsFrom_app] at h1
  rcases lookup_app h1 with z | z
  · exact .inl z
  · exact .inr (clos_sub _ _ (fun _ _ q => by cases q) z)
theorem cellsFrom_names {x : Str} {c : Addr} : ∀ (names : List (Str × NameKind)) (k : Nat) (acc : List (Str × Addr)), (x, c) ∈ cellsFrom k names acc → (x, NameKind.cell) ∈ names ∨ (x, c) ∈ acc
  | [], _, _, h => .inr h
  | (y, q) :: r, k, acc, h => by
    unfold cellsFrom at h
    split at h
    · rename_i hq
      have hq' : q = .cell := by simpa using hq
      subst hq'
      rcases cellsFrom_names r _ _ h with z | z
      · exact .inl (List.mem_cons_of_mem _ z)
      · rcases List.mem_cons.mp z with e | z
        · cases e; exact .inl List.mem_cons_self
        · exact .inr z
    · rcases cellsFrom_names r _ _ h with z | z
      · exact .inl (List.mem_cons_of_mem _ z)
      · exact .inr z
theorem inv_block (I : Inv X pins σ H s) (S : CScope X scope N' n fi) (hf : ∀ b ∈ fp, FpOk X pins H b) (ho : ∀ b ∈ fp, ∃ o, s.heap.get? b = some o)
    (hns : h'.Ns s.heap.objs.size (fun _ => none)) (hk : ∀ b o, s.heap.get? b = some o → h'.get? b = some o) (hc : CellsOk h' (s.heap.objs.size + 1) (cellsFrom (s.heap.objs.size + 1) scope.names [])) :
    Inv (compCx X scope N' s H fp) [] (sub n fi σ) H { s with heap := h' } := by
  have ltC : ∀ {b : Addr} {o : Obj}, s.heap.get? b = some o → b < s.heap.objs.size := fun e => Heap.lt_size e
  have oldcell : ∀ {x : Str} {c : Addr}, X.env.cells.lookup x = some c → c < s.heap.objs.size := fun {x c} e => by
    obtain ⟨v, q⟩ := I.cell x c e
    exact q.lt
  have newcell : ∀ {x : Str} {c : Addr}, (cellsFrom (s.heap.objs.size + 1) scope.names []).lookup x = some c → h'.IsCell c none ∧ s.heap.objs.size + 1 ≤ c := fun {x c} e => hc.empty x c (PySem.mem_of_lookup e)
  refine ⟨⟨I.ok.mod, S.kind, I.ok.glob, I.ok.blt, Nat.le_refl _, fun x y c h1 h2 => ?_, fun x hx => ?_, fun x c hx h => ?_, I.ok.hd, I.ok.frames, .inl rfl, fun b hb => ?_, fun b o e => ?_, ?_, fun b o e hb => ?_, fun b hb hz => ?_, I.stack, I.stkFree⟩,
    rfl, I.bare, Un.kept hk, ⟨_, hns, fun i x v h1 h2 h3 => ?_⟩, fun x c h => ?_, I.hok.fresh (Nat.le_refl _), fun x c h => ?_, fun p hp => absurd (show p ∈ ([] : List (Addr × Obj)) from hp) (by simp), I.hok.kept hk, ?_⟩
  · rcases cenv_cell h1 with z1 | z1 <;> rcases cenv_cell h2 with z2 | z2
    · exact name_of_addr hc.apart (PySem.mem_of_lookup z1) (PySem.mem_of_lookup z2)
    · exact absurd (Nat.lt_trans (oldcell z2) (newcell z1).2) (Nat.lt_irrefl _)
    · exact absurd (Nat.lt_trans (oldcell z1) (newcell z2).2) (Nat.lt_irrefl _)
    · exact I.ok.inj x y c z1 z2
  · have hx : (relabel scope X.env).names.lookup x = some .cell ∨ (relabel scope X.env).names.lookup x = some .free := hx
    have go : ∀ k, (relabel scope X.env).names.lookup x = some k → (k = .cell ∨ k = .free) → ∃ c, (cellsFrom (s.heap.objs.size + 1) scope.names (clos X.env.cells scope.names [])).lookup x = some c := fun k e hk => by
      obtain ⟨k', hm, hkk⟩ := relabel_mem e
      have : k' = .cell ∨ k' = .free := by
        rcases hkk with z | z
        · rw [z]; exact hk
        · exact .inr z.1
      rcases this with z | z
      · exact cellsFrom_has _ _ _ (.inr (z ▸ hm))
      · exact cellsFrom_has _ _ _ (.inl (clos_has _ _ (.inr ⟨z ▸ hm, S.clHas I.ok (x, k') hm z⟩)))
    rcases hx with z | z
    · exact go _ z (.inl rfl)
    · exact go _ z (.inr rfl)
  · have hx' : (x, NameKind.cell) ∈ scope.names ∧ (x, NameKind.free) ∉ scope.names := of_decide_eq_true hx
    have h1 : (cellsFrom (s.heap.objs.size + 1) scope.names (clos X.env.cells scope.names [])).lookup x = some c := h
    rw [cellsFrom_app] at h1
    obtain ⟨d, hd⟩ := cellsFrom_has (x := x) scope.names (s.heap.objs.size + 1) [] (.inr hx'.1)
    have e2 : (cellsFrom (s.heap.objs.size + 1) scope.names [] ++ clos X.env.cells scope.names []).lookup x = some d := by
      have lk : ∀ (l l' : List (Str × Addr)), l.lookup x = some d → (l ++ l').lookup x = some d := by
        intro l
        induction l with
        | nil => intro l' q; cases q
        | cons p r ih =>
          obtain ⟨n, q⟩ := p
          intro l' e
          rw [List.cons_append, List.lookup_cons]
          rw [List.lookup_cons] at e
          cases hb : x == n with
          | true => rw [hb] at e; exact e
          | false => rw [hb] at e; exact ih l' e
      exact lk _ _ hd
    rw [h1] at e2
    cases e2
    exact Nat.le_of_lt (newcell hd).2
  · refine ⟨?_, fun x c e z => ?_⟩
    · obtain ⟨o, e⟩ := ho b hb
      exact Nat.ne_of_lt (ltC e)
    · obtain ⟨o, eo⟩ := ho b hb
      rcases cenv_cell e with q | q
      · have h1 := (newcell q).2
        have h2 := ltC eo
        rw [z] at h1
        exact Nat.lt_irrefl _ (Nat.lt_trans h2 h1)
      · exact (hf b hb).2.2.2.2.1 x c q z
  · exact I.bs b o e
  · exact Nat.le_trans I.ok.bsz I.sz
  · rcases (hf b hb).2.2.2.1 with z | z
    · exact I.ok.noex b o e z
    · exact absurd (Nat.lt_of_lt_of_le (Heap.lt_size (I.ok.bs b o e).1) z) (Nat.lt_irrefl _)
  · rcases List.mem_cons.mp (I.stkSub b hz) with z | z
    · exact (hf b hb).2.1 z
    · exact (hf b hb).2.2.1 z
  · have hi : n ≤ i := by
      by_cases hi : n ≤ i
      · exact hi
      · unfold sub at h2
        rw [List.getElem?_append_left (by simp; lia), List.getElem?_replicate] at h2
        split at h2 <;> cases h2
    have h2' : (fi.map fun k => (σ[k]?).join)[i - n]? = some (some v) := by
      unfold sub at h2
      rw [List.getElem?_append_right (by simpa using hi)] at h2
      simpa using h2
    rw [List.getElem?_map] at h2'
    cases ek : fi[i - n]? with
    | none => rw [ek] at h2'; cases h2'
    | some k =>
      rw [ek] at h2'
      have h2'' : (σ[k]?).join = some v := Option.some.inj h2'
      have hσ : σ[k]? = some (some v) := by
        cases q : σ[k]? with
        | none => rw [q] at h2''; cases h2''
        | some w' => rw [q] at h2''; exact congrArg some h2''
      obtain ⟨x', e1, e2, e3, e4⟩ := S.at' (i - n) k ek
      have e1' : N'[i]? = some x' := by rw [← e1]; congr 1; lia
      have h1' : N'[i]? = some x := h1
      rw [e1'] at h1'
      cases h1'
      have hm : (x, NameKind.free) ∈ scope.names := by
        generalize scope.names = l at e3
        induction l with
        | nil => cases e3
        | cons p r ih =>
          obtain ⟨n', q⟩ := p
          rw [List.lookup_cons] at e3
          cases hb : x == n' with
          | true => rw [hb] at e3; cases e3; rw [beq_iff_eq.mp hb]; exact List.mem_cons_self
          | false => rw [hb] at e3; exact List.mem_cons_of_mem _ (ih e3)
      have kx := S.free _ hm rfl
      have vis : Vis X.env.scope x := kx.elim (fun z => .inr (.inl z)) fun z => .inr (.inr z)
      obtain ⟨m0, hn0, hl0⟩ := I.loc
      obtain ⟨u, ru, lk⟩ := hl0 k x v e2 hσ vis
      refine ⟨u, ru, .inr ⟨?_, ?_⟩⟩
      · have h3 : Vis (relabel scope X.env) x := h3
        rcases h3 with z | z | z
        · obtain ⟨k', hm', hk'⟩ := relabel_mem z
          rcases hk' with q | q
          · exfalso
            have := S.names (x, k') hm' (by rw [q])
            rw [show scope.names.lookup x = some .free from e3] at this
            cases this
          · cases q.2.1
        · exact .inl z
        · exact .inr z
      · rcases lk with ⟨kl, _⟩ | ⟨_, c, ec, hcell⟩
        · rcases kx with z | z <;> (rw [show X.env.kindOf x = _ from kl] at z; cases z)
        · refine ⟨c, ?_, hcell.keeps hk⟩
          show (cellsFrom (s.heap.objs.size + 1) scope.names (clos X.env.cells scope.names [])).lookup x = some c
          obtain ⟨d, hd⟩ := cellsFrom_has (x := x) scope.names (s.heap.objs.size + 1) (clos X.env.cells scope.names []) (.inl (clos_has _ _ (.inr ⟨hm, c, ec⟩)))
          rw [hd]
          have hd' := hd
          rw [cellsFrom_app] at hd'
          rcases lookup_app hd' with z | z
          · rcases cellsFrom_names _ _ _ (PySem.mem_of_lookup z) with q | q
            · exact absurd q e4
            · cases q
          · have := clos_sub _ _ (fun _ _ q => by cases q) z
            rw [ec] at this
            exact this.symm
  · rcases cenv_cell h with z | z
    · exact ⟨none, (newcell z).1⟩
    · obtain ⟨v, q⟩ := I.cell x c z
      exact ⟨v, q.keeps hk⟩
  · rcases cenv_cell h with z | z
    · exact I.hok.fresh (Nat.le_of_lt (newcell z).2)
    · exact I.freeC x c z
  · show (sub n fi σ).length = N'.length
    rw [sub_len, S.len]
end
end L2
namespace L2
open PySem PySem.Spec PyProof.Rows
def PIfs (X : Cx) (ifs : List Expr) (t : TT) : Prop :=
  ∀ (pins : List (Addr × Obj)) (s : Shared) (σ : St) (H : Hp) (Q : Bool → Hp → Prop), Inv X pins σ H s → t σ H Q →
    wpAny (model X.prog X.w) X.A (forIn ifs true fun c r => if r = true then do let ok ← isTrue c X.env (eval c X.env); pure (ForInStep.yield ok) else pure (ForInStep.yield r)) (TP X pins σ Q) X.xe s
def tYes : TT := fun _ H Q => Q true H
theorem pifs_nil {X : Cx} : PIfs X [] tYes := fun _ _ _ H _ I h => wpAny_tests_nil ⟨H, I, h⟩
theorem pifs_one {X : Cx} {c : Expr} {t : TT} (h : PT X c t) : PIfs X [c] t := fun pins s σ H Q I q => wpAny_tests_one (h pins s σ H Q I q)
def CompW (g : TG) (tt : TT) (te : TE) (J : It) (D : Addr) (Q : VK) (σ : St) (H : Hp) : Prop :=
  ∃ W : Nat → Nat → St → Hp → Prop, (∃ m, W 0 m σ H) ∧ ∀ i m σ H, W i m σ H →
    (J.stop i H ∧ Q (.ref D) H) ∨ (J.go i H ∧ ∃ N : St → Hp → Prop, (∀ σ' H', N σ' H' → ∃ m', m' < m ∧ W (i + 1) m' σ' H') ∧
      ∀ x H', J.yld i H x H' → g x σ H' fun σ2 H2 => tt σ2 H2 fun b H3 => if b = true then te σ2 H3 fun v H4 => ∃ xs, H4 D = some (.lst xs) ∧ xs.length < sizeLine ∧ N σ2 (upd H4 D (.lst (xs ++ [v]))) else N σ2 H3)
def tComp (wi : TI) (g : TG) (tt : TT) (te : TE) (n : Nat) (fi : List Nat) : TE := fun σ H Q =>
  wi σ H fun J H1 => ∀ D, H1 D = none → CompW g tt te J D Q (sub n fi σ) (upd H1 D (.lst []))
section
variable {X : Cx} {elt tg iter : Expr} {ifs : List Expr} {scope : Scope} {pos : Pos}
theorem comp_loop {Y : Cx} {g : TG} {tt : TT} {te : TE} {J : It} {D it : Addr} {fp : List Addr} {tn : Nat → Heap → Prop} {Qr : VK} {σ : St} {H : Hp} {s : Shared} (hc : Y.calm = true) (hxe : ∀ e s, ¬ Y.xe e s)
    (hg : PG Y tg g) (hi : PIfs Y ifs tt) (he : PE Y elt te) (T : Turn Y.prog Y.w Y.K tg J fp it tn) (I : Inv Y [] σ H s) (st : tn 0 s.heap) (hf : ∀ b ∈ fp, FpOk Y [] H b) (hw : CompW g tt te J D Qr σ H) :
    codeAny (model Y.prog Y.w) Y.A (.compLoop (.ListComp elt [⟨tg, iter, ifs, 0⟩] scope pos) 0 (.ref it) (.ref D) Y.env) (fun r s' => r = .ok .next ∧ ∃ σ' H', Inv Y [] σ' H' s' ∧ Qr (.ref D) H') s := by
  obtain ⟨W, ⟨m0, w0⟩, turn⟩ := hw
  have stat : ∀ {H' : Hp}, (∀ b ∈ fp, H' b = none) → ∀ b ∈ fp, FpOk Y [] H' b := fun hn b hb => ⟨hn b hb, (hf b hb).2⟩
  refine codeAny_loop rfl (fun n s' => ∃ i σ' H', Inv Y [] σ' H' s' ∧ tn i s'.heap ∧ (∀ b ∈ fp, H' b = none) ∧ W i n σ' H') ?_ m0 ⟨0, σ, H, I, st, fun b hb => (hf b hb).1, w0⟩
  rintro n s3 ⟨i, σ3, H3, I3, st3, fr3, w3⟩
  show wpAny _ Y.A ((compTurn (.ListComp elt [⟨tg, iter, ifs, 0⟩] scope pos) 0 (.ref it) (.ref D) Y.env).onRaise (fun x => do noteFrame x Y.env; theTreesLotGoes x)) _ _ s3
  refine wpAny_noted ?_
  rw [compTurn_list]
  (refine wpAny_bind (wpAny_standAt (wpAny_bind ?_)))
  rcases turn i n σ3 H3 w3 with ⟨stop, qn⟩ | ⟨go, N, hN, step⟩
  · refine thn (T.done Y rfl rfl rfl hc i [] s3 σ3 H3 _ I3 (stat fr3) st3 stop) fun r s4 ⟨hr, I4⟩ => ?_
    subst hr
    exact wpAny_pure ⟨rfl, σ3, H3, I4, qn⟩
  · refine thn (T.item Y rfl rfl rfl hc i [] s3 σ3 H3 _ I3 (stat fr3) st3 go) fun r s4 ⟨u, hr, h4⟩ => ?_
    subst hr
    refine wpAny_bind (thn h4 fun _ s5 ⟨x, H5, I5, r5, y5, st5, fr5⟩ => ?_)
    have I5' := I5.pinned (stat fr5) (T.obj _ _ st5)
    have again' : ∀ {σ7 : St} {H7 : Hp} {s7 : Shared}, Inv Y ([] ++ pinsAt fp s5.heap) σ7 H7 s7 → N σ7 H7 → ∃ m, m < n ∧ ∃ i σ' H', Inv Y [] σ' H' s7 ∧ tn i s7.heap ∧ (∀ b ∈ fp, H' b = none) ∧ W i m σ' H' := fun {σ7 H7 s7} I7 n7 => by
      obtain ⟨m', hm, w7⟩ := hN σ7 H7 n7
      refine ⟨m', hm, i + 1, σ7, H7, I7.unpinned, T.keep _ _ _ st5 fun b hb o e => (I7.pin (b, o) (List.mem_append_right _ (List.mem_append_right _ (mem_pinsAt hb e)))).1, fun b hb => ?_, w7⟩
      obtain ⟨o, e, d⟩ := T.obj _ _ st5 b hb
      exact (I7.pin (b, o) (List.mem_append_right _ (List.mem_append_right _ (mem_pinsAt hb e)))).2.1
    refine wpAny_bind (wpAny_mono (hg _ s5 σ3 H5 x u _ I5' r5 (step x H5 y5)) (fun _ s6 ⟨σ6, H6, I6, q6⟩ => ?_) fun e s' z => (hxe e s' z).elim)
    refine wpAny_bind (wpAny_mono (hi _ s6 σ6 H6 _ I6 q6) (fun ok s7 ⟨H7, I7, q7⟩ => ?_) fun e s' z => (hxe e s' z).elim)
    cases ok with
    | false =>
      exact wpAny_pure ⟨rfl, again' I7 q7⟩
    | true =>
      refine wpAny_bind (wpAny_bind (wpAny_mono (he _ s7 σ6 H7 _ I7 q7) (fun u8 s8 ⟨v8, H8, I8, r8, xs, e8, z8, n8⟩ => ?_) fun e s' z => (hxe e s' z).elim))
      refine wpAny_bind (wpAny_mono (mt_append (X := Y) _ s8 σ6 H8 (.ref D) [v8] (.ref D) [u8] (fun _ H9 => N σ6 H9) I8 rfl (.cons r8 .nil) ⟨D, xs, v8, rfl, rfl, e8, z8, n8⟩) (fun u9 s9 h9 => ?_) fun e s' z => (hxe e s' z).elim)
      obtain ⟨v9, H9, I9, _, n9⟩ := h9
      exact wpAny_pure (wpAny_pure ⟨rfl, again' I9 n9⟩)
theorem Inv.letGo {pins : List (Addr × Obj)} {σ : St} {H : Hp} {s : Shared} {C : Addr} {h' : Heap} (I : Inv X pins σ H s) (hs : Heap.SameBut C s.heap h') (hn : H C = none) (hC : X.s₀.heap.objs.size ≤ C) (hL : C ≠ X.env.locals)
    (h2 : ∀ x c, X.env.cells.lookup x = some c → c ≠ C) (h3 : ∀ p ∈ X.pn ++ pins, p.1 ≠ C) : Inv X pins σ H { s with heap := h' } :=
  I.turned (t' := s.toks) (fun b o hb e => hs.extBut b o hb e) hn hL (.inr hC) h2 h3
theorem comp_core {N' : List Str} {n : Nat} {fi : List Nat} {wi : TI} {g : TG} {tt : TT} {te : TE} {use : Option (Value → Sem Unit)} {Q : Value → Shared → Prop} {Qr : VK} {epos : Pos} {pins : List (Addr × Obj)} {σ : St} {H : Hp} {s : Shared}
    (hcalm : X.calm = true) (S : CScope X scope N' n fi) (hit : ∀ R, wi σ H R → wpAny (model X.prog X.w) X.A (eval iter X.env) (fun v s1 => wpAny (model X.prog X.w) X.A (pyIter v) (PIE X pins σ tg R) X.xe s1) X.xe s)
    (hg : ∀ s H fp, PG (compCx X scope N' s H fp) tg g) (hi : ∀ s H fp, PIfs (compCx X scope N' s H fp) ifs tt) (he : ∀ s H fp, PE (compCx X scope N' s H fp) elt te)
    (I : Inv X pins σ H s) (hw : tComp wi g tt te n fi σ H Qr) (hs : ∀ x, foldedSetIterable iter X.env x = pure x)
    (post : ∀ (D C : Addr) (s' : Shared) (H' : Hp) (m : Str → Option Value), Inv X pins σ H' s' → s'.heap.Ns C m → H' C = none → X.s₀.heap.objs.size ≤ C → C ≠ X.env.locals → (∀ x c, X.env.cells.lookup x = some c → c ≠ C) → (∀ p ∈ X.pn ++ pins, p.1 ≠ C) → Qr (.ref D) H' →
      compPost (model X.prog X.w) X.A X.xe use Q (.ref D) C (.ok .next) s') :
    wpAny (model X.prog X.w) X.A (comprehension (.ListComp elt [⟨tg, iter, ifs, 0⟩] scope pos) scope X.env epos (newList []) false (eval iter X.env) use) Q X.xe s := by
  refine wpAny_comprehension_free (use := use) (g := ⟨tg, iter, ifs, 0⟩) (gs := []) rfl hs (closure_of (S.clHas I.ok)) S.kind S.names ?_
  refine thn (hit _ hw) fun v s1 h1 => thn h1 fun itv s2 h2 => ?_
  obtain ⟨it, fp, tn, J, H2, e, I2, T, st2, f2, hw2⟩ := h2
  subst e
  refine wpAny_newList ?_ (Nat.zero_le _)
  have hD : H2 s2.heap.objs.size = none := I2.hok.fresh (Nat.le_refl _)
  have I3 : Inv X pins σ (upd H2 s2.heap.objs.size (.lst [])) { s2 with heap := s2.heap.push { cls := .type "list", data := .seq ([] : List Value).toArray } } :=
    I2.laid (t' := s2.toks) (fun b u e => Heap.get?_push_of_some _ e) (Nat.le_refl _) ⟨Nat.zero_le _, [], 0, .nil, Heap.get?_push_size _ rfl⟩
  have hw3 := hw2 _ hD
  have u23 : Un (frs X.stack) fp H2 (upd H2 s2.heap.objs.size (.lst [])) s2.heap (s2.heap.push { cls := .type "list", data := .seq ([] : List Value).toArray }) :=
    Un.laid (fun b u e => Heap.get?_push_of_some _ e) (Nat.le_refl _) hD
  generalize hs3 : ({ s2 with heap := s2.heap.push { cls := .type "list", data := .seq ([] : List Value).toArray } } : Shared) = s3 at I3 ⊢
  have hh3 : s3.heap = s2.heap.push { cls := .type "list", data := .seq ([] : List Value).toArray } := by rw [← hs3]
  have ho3 : s3.os = s2.os := by rw [← hs3]
  have hz3 : s3.heap.objs.size = s2.heap.objs.size + 1 := by rw [hh3, Heap.size_push]
  rw [← hh3] at u23
  have hH3 : ∀ b, b ≠ s2.heap.objs.size → upd H2 s2.heap.objs.size (.lst []) b = H2 b := fun b hb => upd_ne hb
  generalize upd H2 s2.heap.objs.size (.lst []) = H3 at *
  have fpold : ∀ b ∈ fp, ∃ o, s2.heap.get? b = some o := fun b hb => let ⟨o, e, _⟩ := T.obj _ _ st2 b hb; ⟨o, e⟩
  have k23 : ∀ b u, s2.heap.get? b = some u → s3.heap.get? b = some u := fun b u e => by rw [hh3]; exact Heap.get?_push_of_some _ e
  have hfp3 : ∀ b ∈ fp, FpOk X pins H3 b := fun b hb => by
    obtain ⟨o, e⟩ := fpold b hb
    exact ⟨(hH3 b (Nat.ne_of_lt (Heap.lt_size e))).trans (f2 b hb).1, (f2 b hb).2⟩
  refine newEnvC fun h4 hns hk hc => ?_
  show codeAny _ _ (.compStart _ 0 _ _ (cenv scope s3.heap.objs.size X.env)) _ _
  have I4 := inv_block I3 S hfp3 (fun b hb => let ⟨o, e⟩ := fpold b hb; ⟨o, k23 b o e⟩) hns hk hc
  have hfY : ∀ b ∈ fp, FpOk (compCx X scope N' s3 H3 fp) [] H3 b := fun b hb => ⟨(hfp3 b hb).1, (I4.ok.exf b hb).1, I4.ok.exfs b hb, .inl hb, (I4.ok.exf b hb).2, fun p hp => absurd (show p ∈ ([] : List (Addr × Obj)) from hp) (by simp)⟩
  have st4 : tn 0 h4 := T.keep _ _ _ st2 fun b hb o e => hk b o (k23 b o e)
  have loop := comp_loop (Y := compCx X scope N' s3 H3 fp) (elt := elt) (tg := tg) (iter := iter) (ifs := ifs) (scope := scope) (pos := pos) hcalm (fun _ _ z => z) (hg s3 H3 fp) (hi s3 H3 fp) (he s3 H3 fp) T I4 st4 hfY hw3
  have fin : codeAny (model X.prog X.w) X.A (.compLoop (.ListComp elt [⟨tg, iter, ifs, 0⟩] scope pos) 0 (.ref it) (.ref s2.heap.objs.size) (cenv scope s3.heap.objs.size X.env)) (compPost (model X.prog X.w) X.A X.xe use Q (.ref s2.heap.objs.size) s3.heap.objs.size) { s3 with heap := h4 } := by
    refine codeAny_mono loop fun r s' ⟨hr, σ', H', J5, q5⟩ => ?_
    subst hr
    have u5 : Un (frs X.stack) fp H3 H' s3.heap s'.heap := J5.base
    have I5 : Inv X pins σ H' s' := I2.call' (ch := fp) (J5.os.trans ho3) (u23.trans u5) J5.hok J5.bare fun b hb => ⟨(f2 b hb).2.2.2.1, (f2 b hb).2.1, (f2 b hb).2.2.2.2.1, (f2 b hb).2.2.2.2.2⟩
    obtain ⟨m, hm, _⟩ := J5.loc
    refine post _ _ s' H' m I5 hm J5.free I3.sz (Nat.ne_of_gt I3.lt) (fun x c e => ?_) (fun p hp => ?_) q5
    · obtain ⟨v, q⟩ := I3.cell x c e
      exact Nat.ne_of_lt q.lt
    · exact Nat.ne_of_lt (Heap.lt_size (I3.pin p hp).1)
  exact codeAny_compStart_list fin (T.self _ 0 _ _ _ st4 fin)
theorem pe_comp {N' : List Str} {n : Nat} {fi : List Nat} {wi : TI} {g : TG} {tt : TT} {te : TE} (hcalm : X.calm = true) (S : CScope X scope N' n fi) (hit : PI X tg iter wi)
    (hg : ∀ s H fp, PG (compCx X scope N' s H fp) tg g) (hi : ∀ s H fp, PIfs (compCx X scope N' s H fp) ifs tt) (he : ∀ s H fp, PE (compCx X scope N' s H fp) elt te)
    (hs : ∀ x, foldedSetIterable iter X.env x = pure x := by intro _; rfl) : PE X (.ListComp elt [⟨tg, iter, ifs, 0⟩] scope pos) (tComp wi g tt te n fi) := by
  intro pins s σ H Q I h
  rw [eval_ListComp]
  refine comp_core (use := none) hcalm S (fun R z => hit pins s σ H R I z) hg hi he I h hs fun D C s' H' m I' hm hn hC hL h2 h3 q => ⟨m, hm, fun h' hs' => ?_⟩
  exact ⟨.ref D, H', I'.letGo hs' hn hC hL h2 h3, rfl, q⟩
theorem ps_comp {N' : List Str} {n i : Nat} {fi : List Nat} {wi : TI} {g : TG} {tt : TT} {te : TE} {x : Str} {pos' spos : Pos} (hN : X.N.Nodup) (hxi : X.N[i]? = some x) (hx : Loc X.env.scope x) (hcalm : X.calm = true) (S : CScope X scope N' n fi) (hit : PI X tg iter wi)
    (hg : ∀ s H fp, PG (compCx X scope N' s H fp) tg g) (hi : ∀ s H fp, PIfs (compCx X scope N' s H fp) ifs tt) (he : ∀ s H fp, PE (compCx X scope N' s H fp) elt te)
    (hsw : swapsWith (.ListComp elt [⟨tg, iter, ifs, 0⟩] scope pos) (some (.Name x pos')) spos.line X.env = pure true := by rfl)
    (hs : ∀ x, foldedSetIterable iter X.env x = pure x := by intro _; rfl) (hf : X.fn x = true ∨ X.env.scope.names.lookup x = some .local := by first | exact .inl rfl | exact .inr rfl | assumption) :
    PS X (.Assign [.Name x pos'] (.ListComp elt [⟨tg, iter, ifs, 0⟩] scope pos) spos) (tAsg (tComp wi g tt te n fi) (gName i)) := by
  intro pins s σ H D I h
  (rw [exec_Assign_Name_used _ _ _ _ hsw])
  (refine wpAny_bind (wpAny_standAt (wpAny_bind ?_)))
  show wpAny _ X.A (do let _ ← comprehension (.ListComp elt [⟨tg, iter, ifs, 0⟩] scope pos) scope X.env _ (newList []) false (eval iter X.env) (some (assign (.Name x pos') X.env))) _ _ s
  refine wpAny_bind (thn (comp_core (use := some (assign (.Name x pos') X.env)) (Q := fun _ s' => SP X pins D .next s') hcalm S (fun R z => hit pins s σ H R I z) hg hi he I h hs fun Da C s' H' m I' hm hn hC hL h2 h3 q => ?_) fun _ s' q => wpAny_pure (wpAny_pure q))
  show wpAny _ _ (assign (.Name x pos') X.env (.ref Da)) _ _ s'
  refine wpAny_assign_Name (store_ok2 (v := .ref Da) I' hN hxi hx rfl (fun s2 I2 ⟨a, hsb, ha⟩ => ?_) hf)
  have hCa : C ≠ a := by
    rcases ha with z | z
    · rw [z]; exact hL
    · exact (h2 x a z).symm
  exact ⟨m, hm.sameBut hsb hCa, fun h' hs' => ⟨_, H', I2.letGo hs' hn hC hL h2 h3, q⟩⟩
end
end L2
namespace L2
open PySem PySem.Spec PyProof.Rows
section
variable {X : Cx}
theorem Inv.turnedL {pins : List (Addr × Obj)} {σ : St} {H : Hp} {s : Shared} {h' : Heap} {t' : Nat} {wr : List Addr} (I : Inv X pins σ H s) (hf : ∀ b ∈ wr, FpOk X pins H b) (k : ∀ b o, b ∉ wr → s.heap.get? b = some o → h'.get? b = some o) :
    Inv X pins σ H { s with heap := h', toks := t' } := by
  have nit : ∀ b u, H b = some u → b ∉ wr := fun b u e z => by rw [(hf b z).1] at e; cases e
  refine I.step (g' := s.gens) (d' := s.drawn) (ch := wr) (fun b hb => ⟨(hf b hb).2.2.2.1, (hf b hb).2.1, (hf b hb).2.2.2.2.1, (hf b hb).2.2.2.2.2⟩) (fun b o _ _ hc e _ => k b o hc e) (fun b o _ _ hc e _ => ⟨o.slots, k b o hc e⟩) (fun _ _ _ _ n => n)
    (fun b o hc e => ⟨o, k b o hc e⟩) (fun _ _ e => e) (fun _ _ _ e => e) (fun b ps e => ⟨#[], by rw [e]; simp⟩) (fun m hm => ?_) (fun b u e => ?_) I.bare
  · obtain ⟨o, es, ep, ho, r⟩ := hm
    exact ⟨o, es, ep, k _ o (fun z => (hf _ z).2.1 rfl) ho, r⟩
  · refine (I.hok b u e).stay (fun c v hc q => k c v ?_ q) (fun _ q => q) fun _ _ q => q
    rcases hc with z | z
    · rw [z]; exact nit b u e
    · exact nit c _ z
def Its (z : Str) : It := ⟨fun i _ => i < z.length, fun i H x H' => H' = H ∧ ∃ c, z.cps[i]? = some c ∧ x = .str ⟨#[c]⟩, fun i _ => z.length ≤ i⟩
theorem turn_str {P : Program} {w : World} {K : PySem.W.Frag} {tg : Expr} {ty : String} (it : Addr) (z : Str) (t : Tok)
    (hW : ∀ A : Around, A.handled = none → Walks P w A it [it] [it] z.cps.size (SignAt z) (fun i h => h.IsStrIter it ty z t i))
    (hty : ["enumerate", "zip", "dict_itemiterator", "dict_reverseitemiterator", "odict_iterator", "itertools.zip_longest", "itertools.pairwise"].contains ty = false)
    (hself : ∀ (A : Around) (i : Nat) (s : Shared) (Q : Value → Shared → Prop) (E : Value → Shared → Prop), s.heap.IsStrIter it ty z t i → Q (.ref it) s → wpAny (model P w) A (pyIter (.ref it)) Q E s) :
    Turn P w K tg (Its z) [it] it (fun i h => i ≤ z.length ∧ h.IsStrIter it ty z t i) where
  mem := by simp
  obj := fun i h st b hb => by
    have e : b = it := by simpa using hb
    subst e
    obtain ⟨_, o, e, c, d⟩ := st
    exact ⟨o, e, fun v z => by rw [d] at z; cases z⟩
  keep := fun i h h' st k => by
    obtain ⟨hi, o, e, c, d⟩ := st
    exact ⟨hi, o, k it (by simp) o e, c, d⟩
  item := by
    intro X hP hw hK hc i pins s σ H E I hf st hg
    subst hP hw hK
    refine (hW X.A (I.ok.hd hc)).item i s _ _ hg st.2 fun v h' tk hv st' kk => ?_
    obtain ⟨c, u, ec, rfl⟩ := hv
    have I1 : Inv X pins σ H { s with heap := h', toks := tk } := I.turnedL hf kk
    obtain ⟨o, e, cl, d⟩ := id st'
    exact ⟨_, rfl, go_of (s := { s with heap := h', toks := tk }) e cl d hty ⟨.str ⟨#[c]⟩, H, I1, ⟨u, rfl⟩, ⟨rfl, c, ec, rfl⟩, ⟨hg, st'⟩, fun b hb => (hf b hb).1⟩⟩
  done := by
    intro X hP hw hK hc i pins s σ H E I hf st hg
    subst hP hw hK
    have e : i = z.cps.size := Nat.le_antisymm st.1 hg
    subst e
    exact (hW X.A (I.ok.hd hc)).done s _ _ st.2 fun h' tk kk => ⟨rfl, I.turnedL hf kk⟩
  self := fun A i s Q E st h => hself A i s Q E st.2 h
def iStr (tl : TE) : TI := fun σ H R => tl σ H fun x H1 => ∃ z, x = .str z ∧ R (Its z) H1
theorem iter_str {tg : Expr} {z : Str} {t : Tok} {pins : List (Addr × Obj)} {s : Shared} {σ : St} {H : Hp} {R : It → Hp → Prop} (I : Inv X pins σ H s) (q : R (Its z) H) : wpAny (model X.prog X.w) X.A (pyIter (.str z t)) (PIE X pins σ tg R) X.xe s := by
  have fp : ∀ b ∈ [s.heap.objs.size], FpOk X pins H b := fun b hb => by
    have e : b = s.heap.objs.size := by simpa using hb
    subst e
    exact I.fpOk (Nat.le_refl _) (I.hok.fresh (Nat.le_refl _))
  cases ha : z.cps.all (· < 128) with
  | false =>
    refine wpAny_pyIter_wide ha ?_
    exact ⟨s.heap.objs.size, [s.heap.objs.size], _, _, H, rfl, I.kept (t' := s.toks) fun b o e => Heap.get?_push_of_some _ e, turn_str (ty := "str_iterator") _ z t (fun A hA => Walks.strWide hA _ z t) (by decide) (fun A i s Q E st h => wpAny_pyIter_striter_wide st h),
      ⟨Nat.zero_le _, _, Heap.get?_push_size _ rfl, rfl, rfl⟩, fp, q⟩
  | true =>
    refine wpAny_pyIter_ascii ha ?_
    exact ⟨s.heap.objs.size, [s.heap.objs.size], _, _, H, rfl, I.kept (t' := s.toks) fun b o e => Heap.get?_push_of_some _ e, turn_str (ty := "str_ascii_iterator") _ z t (fun A hA => Walks.strAscii hA _ z t) (by decide) (fun A i s Q E st h => wpAny_pyIter_striter_ascii st h),
      ⟨Nat.zero_le _, _, Heap.get?_push_size _ rfl, rfl, rfl⟩, fp, q⟩
theorem pi_str {tg l : Expr} {tl : TE} (hl : PE X l tl) : PI X tg l (iStr tl) := by
  intro pins s σ H R I h
  refine thn (hl pins s σ H _ I h) fun v s1 ⟨x, H1, I1, r1, z, e, q⟩ => ?_
  subst e
  obtain ⟨t, rfl⟩ := r1
  exact iter_str I1 q
end
end L2
set_option autoImplicit false
namespace L2
open PySem PySem.Spec PyProof.Rows
mutual
inductive Den (K : PySem.W.Frag) (H : Hp) : V → PyData → Prop
  | non : Den K H .non .none
  | bl (b : Bool) : Den K H (.bl b) (.bool b)
  | int (i : Int) : Den K H (.int i) (.int i)
  | str {x : Str} (h : PyData.strOk x = true) : Den K H (.str x) (.str x)
  | lst {a : Addr} {xs : List V} {ds : List PyData} (h : SqL K H a xs) (t : Dens K H xs ds) : Den K H (.ref a) (.list ds)
  | tup {a : Addr} {xs : List V} {ds : List PyData} (h : SqT K H a xs) (t : Dens K H xs ds) : Den K H (.ref a) (.tuple ds)
inductive Dens (K : PySem.W.Frag) (H : Hp) : List V → List PyData → Prop
  | nil : Dens K H [] []
  | cons {x : V} {xs : List V} {d : PyData} {ds : List PyData} (h : Den K H x d) (t : Dens K H xs ds) : Dens K H (x :: xs) (d :: ds)
end
section
variable {K : PySem.W.Frag} {H H' : Hp}
theorem Dens.length : ∀ {xs : List V} {ds : List PyData}, Dens K H xs ds → xs.length = ds.length
  | _, _, .nil => rfl
  | _, _, .cons _ t => by rw [List.length_cons, List.length_cons, t.length]
theorem Dens.append : ∀ {xs ys : List V} {ds es : List PyData}, Dens K H xs ds → Dens K H ys es → Dens K H (xs ++ ys) (ds ++ es)
  | _, _, _, _, .nil, s => s
  | _, _, _, _, .cons r t, s => .cons r (t.append s)
theorem Dens.get : ∀ {xs : List V} {ds : List PyData} {i : Nat} {x : V}, Dens K H xs ds → xs[i]? = some x → ∃ d, ds[i]? = some d ∧ Den K H x d
  | _, _, _, _, .nil, e => by simp at e
  | _, _, 0, _, .cons r _, e => by simp at e; subst e; exact ⟨_, rfl, r⟩
  | _, _, i + 1, x, .cons _ t, e => by
    obtain ⟨u, h1, h2⟩ := Dens.get (i := i) (x := x) t (by simpa using e)
    exact ⟨u, by simpa using h1, h2⟩
theorem Dens.getD : ∀ {xs : List V} {ds : List PyData} {i : Nat} {d : PyData}, Dens K H xs ds → ds[i]? = some d → ∃ x, xs[i]? = some x ∧ Den K H x d
  | _, _, _, _, .nil, e => by simp at e
  | _, _, 0, _, .cons r _, e => by simp at e; subst e; exact ⟨_, rfl, r⟩
  | _, _, i + 1, x, .cons _ t, e => by
    obtain ⟨u, h1, h2⟩ := Dens.getD (i := i) t (by simpa using e)
    exact ⟨u, by simpa using h1, h2⟩
mutual
theorem Den.keep (h1 : ∀ a xs, SqL K H a xs → SqL K H' a xs) (h2 : ∀ a xs, SqT K H a xs → SqT K H' a xs) : ∀ {v : V} {d : PyData}, Den K H v d → Den K H' v d
  | _, _, .non => .non
  | _, _, .bl b => .bl b
  | _, _, .int i => .int i
  | _, _, .str h => .str h
  | _, _, .lst h t => .lst (h1 _ _ h) (Dens.keep h1 h2 t)
  | _, _, .tup h t => .tup (h2 _ _ h) (Dens.keep h1 h2 t)
theorem Dens.keep (h1 : ∀ a xs, SqL K H a xs → SqL K H' a xs) (h2 : ∀ a xs, SqT K H a xs → SqT K H' a xs) : ∀ {v : List V} {d : List PyData}, Dens K H v d → Dens K H' v d
  | _, _, .nil => .nil
  | _, _, .cons r t => .cons (Den.keep h1 h2 r) (Dens.keep h1 h2 t)
end
theorem Same.seqT {a : Addr} {xs : List V} (e : Same H H') (h : SqT K H a xs) : SqT K H' a xs := by
  rcases h with (h | ⟨o, h⟩) | h
  · exact .inl (.inl (e _ _ h))
  · exact .inl (.inr ⟨o, e _ _ h⟩)
  · exact .inr h
theorem Den.same {v : V} {d : PyData} (e : Same H H') (h : Den K H v d) : Den K H' v d := h.keep (fun _ _ q => e.seq q) fun _ _ q => e.seqT q
theorem Dens.same {v : List V} {d : List PyData} (e : Same H H') (h : Dens K H v d) : Dens K H' v d := h.keep (fun _ _ q => e.seq q) fun _ _ q => e.seqT q
mutual
theorem Den.lay : ∀ {v : V} {d : PyData}, Den K H v d → d.canLay0 = true
  | _, _, .non => rfl
  | _, _, .bl b => rfl
  | _, _, .int i => rfl
  | _, _, .str h => h
  | _, _, .lst h t => Dens.lay t
  | _, _, .tup h t => Dens.lay t
theorem Dens.lay : ∀ {v : List V} {d : List PyData}, Dens K H v d → PyData.canLayAll0 d = true
  | _, _, .nil => rfl
  | _, _, .cons r t => by rw [PyData.canLayAll0, Den.lay r, Dens.lay t]; rfl
end
end
section
variable {X : Cx} {pins : List (Addr × Obj)} {σ : St} {H : Hp} {s : Shared}
mutual
theorem Inv.reads (I : Inv X pins σ H s) : ∀ {v : V} {d : PyData} {u : Value}, Den X.K H v d → RelV v u → ∃ as, Reads s.heap u d as
  | _, _, _, .non, r => by cases r; exact ⟨_, .none⟩
  | _, _, _, .bl b, r => by cases r; exact ⟨_, .bool b⟩
  | _, _, _, .int i, r => by obtain ⟨t, rfl⟩ := r; exact ⟨_, .int i t⟩
  | _, _, _, .str (x := x) h, r => by obtain ⟨t, rfl⟩ := r; exact ⟨_, .str x t⟩
  | _, _, _, .lst h t, r => by
    cases r
    obtain ⟨its, rv, ⟨o, n, e, c, _, d⟩, _⟩ := I.list h
    obtain ⟨as, ra⟩ := I.readsAll t rv
    exact ⟨_, .list e c d (by simpa using ra)⟩
  | _, _, _, .tup h t, r => by
    cases r
    obtain ⟨its, rv, ⟨o, e, c, n, d⟩, _⟩ := I.tuple h
    obtain ⟨as, ra⟩ := I.readsAll t rv
    exact ⟨_, .tuple e c d (by simpa using ra)⟩
theorem Inv.readsAll (I : Inv X pins σ H s) : ∀ {vs : List V} {ds : List PyData} {us : List Value}, Dens X.K H vs ds → Vals vs us → ∃ as, ReadsAll s.heap us ds as
  | _, _, _, .nil, .nil => ⟨_, .nil⟩
  | _, _, _, .cons h t, .cons r rr => by
    obtain ⟨as, ra⟩ := I.reads h r
    obtain ⟨bs, rb⟩ := I.readsAll t rr
    exact ⟨_, .cons ra rb⟩
end
def rEqD (K : PySem.W.Frag) : R2 := fun x y H Q => ∃ d e, Den K H x d ∧ Den K H y e ∧ d.depth ≤ 100 ∧ Q (.bl (PyData.eqv d e)) H
def rNeD (K : PySem.W.Frag) : R2 := fun x y H Q => ∃ d e, Den K H x d ∧ Den K H y e ∧ d.depth ≤ 100 ∧ Q (.bl (!PyData.eqv d e)) H
theorem units_depth {k a b : Nat} {A : Around} (hr : Room k A) (h : a ≤ 100) : A.units + min a b < cLine := by
  have := hr.un
  have : min a b ≤ a := Nat.min_le_left _ _
  lia
theorem op_eqD {k : Nat} (hr : Room k X.A) : OpR X (compareOp .Eq) (rEqD X.K) := by
  intro pins s σ H x y v u Q I rx ry h
  obtain ⟨d, e, hd, he, hl, q⟩ := h
  obtain ⟨as, ra⟩ := I.reads hd rx
  obtain ⟨bs, rb⟩ := I.reads he ry
  exact SeqAt.compareEq_reads ra rb hd.lay he.lay (units_depth hr hl) ⟨.bl _, H, I, rfl, q⟩
theorem op_neD {k : Nat} (hr : Room k X.A) : OpR X (compareOp .NotEq) (rNeD X.K) := by
  intro pins s σ H x y v u Q I rx ry h
  obtain ⟨d, e, hd, he, hl, q⟩ := h
  obtain ⟨as, ra⟩ := I.reads hd rx
  obtain ⟨bs, rb⟩ := I.reads he ry
  exact SeqAt.compareNe_reads ra rb hd.lay he.lay (units_depth hr hl) ⟨.bl _, H, I, rfl, q⟩
theorem op_le_str : OpR X (compareOp .LtE) (fun x y H Q => ∃ i j, x = .str i ∧ y = .str j ∧ Q (.bl (!decide (j.cps.toList < i.cps.toList))) H) := by
  intro pins s σ H x y v u Q I rx ry h
  obtain ⟨i, j, rfl, rfl, q⟩ := h
  obtain ⟨t, rfl⟩ := rx
  obtain ⟨t', rfl⟩ := ry
  exact PySem.P.le_str ⟨.bl _, H, I, rfl, q⟩
def rSlS : V → Option Int → Option Int → Hp → VK → Prop := fun x lo hi H Q => ∃ z, x = .str z ∧ z.length ≤ sizeLine ∧ Q (.str (Txt.slice z lo hi)) H
theorem sl_str : SlR X rSlS := by
  intro pins s σ H x v vl vu lo hi sl Q I rx hs pl pu h
  obtain ⟨z, rfl, hz, q⟩ := h
  obtain ⟨t, rfl⟩ := rx
  refine ⟨"str", _, F.slot_str_getitem.lookup, typeIs_str _ _ _, ?_⟩
  have fin : ∀ t' k, EP X pins σ Q (.str (Txt.slice z lo hi) t') { s with toks := k } := fun t' k => ⟨.str _, H, I.tok _, ⟨_, rfl⟩, q⟩
  cases pl with
  | none =>
    cases pu with
    | none => exact wpAny_getItem_str_slice (l := none) (u := none) (st := none) hs rfl (post_val_or_str ⟨Nat.le_trans (Txt.slice_le z _ _) hz, fin⟩)
    | int j u => exact wpAny_getItem_str_slice (l := none) (u := some (j, u)) (st := none) hs rfl (post_val_or_str ⟨Nat.le_trans (Txt.slice_le z _ _) hz, fin⟩)
  | int i t1 =>
    cases pu with
    | none => exact wpAny_getItem_str_slice (l := some (i, t1)) (u := none) (st := none) hs rfl (post_val_or_str ⟨Nat.le_trans (Txt.slice_le z _ _) hz, fin⟩)
    | int j u => exact wpAny_getItem_str_slice (l := some (i, t1)) (u := some (j, u)) (st := none) hs rfl (post_val_or_str ⟨Nat.le_trans (Txt.slice_le z _ _) hz, fin⟩)
theorem vals_strs : ∀ (l : List (Str × Tok)), Vals ((l.map (·.1)).map V.str) (strValues l)
  | [] => .nil
  | p :: r => .cons ⟨p.2, rfl⟩ (vals_strs r)
def rSplit : V → List V → Hp → VK → Prop := fun x vs H Q => ∃ z y, x = .str z ∧ vs = [.str y] ∧ y.length ≠ 0 ∧ z.length + 2 ≤ sizeLine ∧ ∀ l, H l = none → Q (.ref l) (upd H l (.lst ((Txt.split z y).map V.str)))
theorem split_len (z y : Str) (hz : z.length + 2 ≤ sizeLine) : (Builtin.Str.partsBetween z (Builtin.Str.occurrences z y 0 z.length (z.length + 1)) y.length).length ≤ sizeLine := by
  have e1 := StrLaws.occ_length_le z y 0 z.length (z.length + 1)
  (rw [length_partsBetween]; lia)
theorem mt_split : MtR X "str.split" rSplit := by
  intro pins s σ H x vs v us Q I rx rv h
  obtain ⟨z, y, rfl, rfl, hy, hz, q⟩ := h
  obtain ⟨t, rfl⟩ := rx
  obtain ⟨u, rfl, ru⟩ := rv.one
  obtain ⟨t', rfl⟩ := ru
  have hn := split_len z y hz
  have fin : ∀ (l : List (Str × Tok)) (tk : Nat), l.map (·.1) = Txt.split z y → EP X pins σ Q (.ref s.heap.objs.size) { s with heap := s.heap.push { cls := .type "list", data := .seq (strValues l).toArray }, toks := tk } := fun l tk e => by
    have hl : ((Txt.split z y).map V.str).length ≤ sizeLine := by
      rw [List.length_map]
      unfold Txt.split
      split
      · show 1 ≤ sizeLine; lia
      · split
        · show 1 ≤ sizeLine; lia
        · exact hn
    refine ⟨.ref s.heap.objs.size, _, I.laid (o := .lst ((Txt.split z y).map V.str)) (fun b ob e => Heap.get?_push_of_some _ e) (Nat.le_refl _) ⟨hl, strValues l, 0, ?_, Heap.get?_push_size _ rfl⟩, rfl, q _ (I.hok.fresh (Nat.le_refl _))⟩
    rw [← e]
    exact vals_strs l
  have hy' : (y.length == 0) = false := by simpa using hy
  cases h1 : (decide (z.length < y.length) || decide (Builtin.Str.strKind z < Builtin.Str.strKind y))
  · cases hf : (Builtin.Str.occurrences z y 0 z.length (z.length + 1)).isEmpty
    · refine call_meets F.slot_str_split (typeIs_str _ _ _) F.entry_str_split (F.args_str_split_2 _ _) (meets_str_split_sep z y t t' h1 hy' hf (by lia) hn) ?_
      show wants (EP X pins σ Q) X.xe _ { s with toks := _, heap := s.heap.push { cls := .type "list", data := .seq (strsFrom s.toks (Builtin.Str.partsBetween z (Builtin.Str.occurrences z y 0 z.length (z.length + 1)) y.length)).toArray } }
      rw [strsFrom_eq]
      exact fin (numbered s.toks _) _ ((numbered_texts _ _).trans ((if_neg (ne_true_of_eq_false h1)).trans (if_neg (ne_true_of_eq_false hf))).symm)
    · exact call_meets F.slot_str_split (typeIs_str _ _ _) F.entry_str_split (F.args_str_split_2 _ _) (meets_str_split_not_found z y t t' h1 hy' hf)
        (fin [(z, t)] s.toks ((if_neg (ne_true_of_eq_false h1)).trans (if_pos hf)).symm)
  · exact call_meets F.slot_str_split (typeIs_str _ _ _) F.entry_str_split (F.args_str_split_2 _ _) (meets_str_split_cannot_occur z y t t' h1)
      (fin [(z, t)] s.toks (if_pos h1).symm)
theorem strs_of : ∀ {ys : List Str} {us : List Value}, Vals (ys.map V.str) us → ∃ l : List (Str × Tok), us = strValues l ∧ l.map (·.1) = ys
  | [], _, .nil => ⟨[], rfl, rfl⟩
  | y :: ys, _, .cons r t => by
    obtain ⟨tk, rfl⟩ := r
    obtain ⟨l, rfl, rfl⟩ := strs_of t
    exact ⟨(y, tk) :: l, rfl, rfl⟩
def rJoin (K : PySem.W.Frag) : V → List V → Hp → VK → Prop := fun x vs H Q => ∃ z l ys, x = .str z ∧ vs = [.ref l] ∧ SqL K H l (ys.map V.str) ∧ JoinOk z ys = true ∧ Q (.str (Txt.join z ys)) H
theorem mt_join : MtR X "str.join" (rJoin X.K) := by
  intro pins s σ H x vs v us Q I rx rv h
  obtain ⟨z, l, ys, rfl, rfl, hl, hok, q⟩ := h
  obtain ⟨t, rfl⟩ := rx
  obtain ⟨u, rfl, ru⟩ := rv.one
  cases ru
  obtain ⟨its, r, pl, _⟩ := I.list hl
  obtain ⟨l', rfl, e⟩ := strs_of r
  exact SC.join pl.isList e hok fun t' k => ⟨.str _, H, I.tok _, ⟨_, rfl⟩, q⟩
end
end L2
namespace L2
open PySem PySem.Spec PyProof.Rows
mutual
def ltv : PyData → PyData → Bool
  | .int a, .int b => decide (a < b)
  | .str x, .str y => decide (x.cps.toList < y.cps.toList)
  | .list xs, .list ys => ltvAll xs ys
  | .tuple xs, .tuple ys => ltvAll xs ys
  | _, _ => false
def ltvAll : List PyData → List PyData → Bool
  | [], [] => false
  | [], _ :: _ => true
  | _ :: _, [] => false
  | x :: xs, y :: ys => if PyData.eqv x y = true then ltvAll xs ys else ltv x y
end
mutual
def cmpb : PyData → PyData → Bool
  | .int _, .int _ => true
  | .str _, .str _ => true
  | .list xs, .list ys => cmpAll xs ys
  | .tuple xs, .tuple ys => cmpAll xs ys
  | _, _ => false
def cmpAll : List PyData → List PyData → Bool
  | [], _ => true
  | _ :: _, [] => true
  | x :: xs, y :: ys => if PyData.eqv x y = true then cmpAll xs ys else cmpb x y
end
theorem ltvAll_cons (x y : PyData) (xs ys : List PyData) : ltvAll (x :: xs) (y :: ys) = if PyData.eqv x y = true then ltvAll xs ys else ltv x y := by rw [ltvAll]
theorem cmpAll_cons (x y : PyData) (xs ys : List PyData) : cmpAll (x :: xs) (y :: ys) = if PyData.eqv x y = true then cmpAll xs ys else cmpb x y := by rw [cmpAll]
def LtAt (A : Around) (s : Shared) (y x : Value) (b : Bool) : Prop :=
  ∀ (prog : Program) (w : World) (E : Value → Shared → Prop) (Q : Value → Shared → Prop), Q (.bool b) s → wpAny (model prog w) A (richCompare .Lt y x) Q E s
def LtAll (xs ys : List PyData) : Prop := ∀ x y, x ∈ xs → y ∈ ys → cmpb x y = true → ∀ (A : Around) (s : Shared) (a b : Value) (as bs : List Addr), Reads s.heap a x as → Reads s.heap b y bs → x.canLay0 = true → y.canLay0 = true → A.units + x.depth < cLine → LtAt A s a b (ltv x y)
theorem LtAll.tail {x y : PyData} {xs ys : List PyData} (h : LtAll (x :: xs) (y :: ys)) : LtAll xs ys := fun a b ha hb => h a b (List.mem_cons_of_mem _ ha) (List.mem_cons_of_mem _ hb)
section
open PySem.SeqAt
open PySem.AutoSeq1 (wpAny_loadPart')
open PySem.MeetsSeq PySem.MeetsSeq2 PySem.MeetsSeq3
theorem depth_head {x : PyData} {xs : List PyData} {k : Nat} (h : k + PyData.depthAll (x :: xs) < cLine) : k + x.depth < cLine := by
  rw [PyData.depthAll] at h
  have := Nat.le_max_left x.depth (PyData.depthAll xs)
  lia
theorem depth_tail {x : PyData} {xs : List PyData} {k : Nat} (h : k + PyData.depthAll (x :: xs) < cLine) : k + PyData.depthAll xs < cLine := by
  rw [PyData.depthAll] at h
  have := Nat.le_max_right x.depth (PyData.depthAll xs)
  lia
theorem eq_room {k a b : Nat} (h : k + a < cLine) : k + min a b < cLine := by
  have := Nat.min_le_left a b
  lia
def Sq (T : String) (hp : Heap) (a : Addr) (its : Array Value) : Prop := ∃ n dd sl, hp.get? a = some { cls := .type T, dict := dd, data := .seq its n, slots := sl }
structure Sqs (hp : Heap) (i : Nat) (its its2 : Array Value) (xs ys : List PyData) : Prop where
  in1 : i ≤ its.size
  in2 : i ≤ its2.size
  r1 : ∃ as, ReadsAll hp (its.toList.drop i) xs as
  r2 : ∃ bs, ReadsAll hp (its2.toList.drop i) ys bs
theorem none_at {its : Array Value} {i : Nat} (h : its.size ≤ i) : its[((i : Nat) : Int).toNat]? = none := by
  rw [Int.toNat_natCast]
  exact Array.getElem?_eq_none h
theorem some_at {its : Array Value} {i : Nat} (h : i < its.size) : its[((i : Nat) : Int).toNat]? = some its[i] := by
  rw [Int.toNat_natCast]
  exact Array.getElem?_eq_getElem h
theorem next_nat (i : Nat) : ((i : Int) + 1) = ((i + 1 : Nat) : Int) := rfl
theorem Sqs.size1 {hp : Heap} {i : Nat} {its its2 : Array Value} {xs ys : List PyData} (q : Sqs hp i its its2 xs ys) : xs.length = its.size - i := by
  obtain ⟨as, r⟩ := q.r1
  have := ReadsAll.length _ _ _ r
  rw [List.length_drop, Array.length_toList] at this
  exact this.symm
theorem Sqs.size2 {hp : Heap} {i : Nat} {its its2 : Array Value} {xs ys : List PyData} (q : Sqs hp i its its2 xs ys) : ys.length = its2.size - i := by
  obtain ⟨bs, r⟩ := q.r2
  have := ReadsAll.length _ _ _ r
  rw [List.length_drop, Array.length_toList] at this
  exact this.symm
theorem Sqs.over {hp : Heap} {i : Nat} {its its2 : Array Value} {xs ys : List PyData} (q : Sqs hp i its its2 xs ys) (h : its.size ≤ i ∨ its2.size ≤ i) : ltvAll xs ys = decide (its.size < its2.size) ∧ ltvAll ys xs = decide (its.size > its2.size) := by
  have z1 := q.size1
  have z2 := q.size2
  have i1 := q.in1
  have i2 := q.in2
  cases xs with
  | nil =>
    rw [List.length_nil] at z1
    cases ys with
    | nil =>
      rw [List.length_nil] at z2
      rw [ltvAll]
      exact ⟨(decide_eq_false (by lia)).symm, (decide_eq_false (by lia)).symm⟩
    | cons y ys =>
      rw [List.length_cons] at z2
      rw [ltvAll, ltvAll]
      exact ⟨(decide_eq_true (by lia)).symm, (decide_eq_false (by lia)).symm⟩
  | cons x xs =>
    rw [List.length_cons] at z1
    cases ys with
    | nil =>
      rw [List.length_nil] at z2
      rw [ltvAll, ltvAll]
      exact ⟨(decide_eq_false (by lia)).symm, (decide_eq_true (by lia)).symm⟩
    | cons y ys =>
      rw [List.length_cons] at z2
      lia
theorem Sqs.next {hp : Heap} {i : Nat} {its its2 : Array Value} {xs ys : List PyData} (q : Sqs hp i its its2 xs ys) (h1 : i < its.size) (h2 : i < its2.size) : ∃ x xs' y ys', xs = x :: xs' ∧ ys = y :: ys' ∧ (∃ as, Reads hp its[i] x as) ∧ (∃ bs, Reads hp its2[i] y bs) ∧ Sqs hp (i + 1) its its2 xs' ys' := by
  obtain ⟨_, _, ⟨as, ra⟩, bs, rb⟩ := q
  rw [List.drop_eq_getElem_cons (by rw [Array.length_toList]; exact h1), Array.getElem_toList] at ra
  rw [List.drop_eq_getElem_cons (by rw [Array.length_toList]; exact h2), Array.getElem_toList] at rb
  cases ra with
  | cons r1 t1 =>
    cases rb with
    | cons r2 t2 => exact ⟨_, _, _, _, rfl, rfl, ⟨_, r1⟩, ⟨_, r2⟩, h1, h2, ⟨_, t1⟩, ⟨_, t2⟩⟩
theorem lay_cons {x : PyData} {xs : List PyData} (h : PyData.canLayAll0 (x :: xs) = true) : x.canLay0 = true ∧ PyData.canLayAll0 xs = true := by simpa [PyData.canLayAll0] using h
theorem tuple_lt_data (l b : Addr) (items items2 : Array Value) (xs ys : List PyData) (ih : LtAll xs ys) (hcmp : cmpAll xs ys = true) (hlx : PyData.canLayAll0 xs = true) (hly : PyData.canLayAll0 ys = true) :
    Meets (Builtin.«tuple.__lt__» ⟨[.ref l, .ref b], []⟩)
      (fun A R s => Sq "tuple" s.heap l items ∧ Sq "tuple" s.heap b items2 ∧ Sqs s.heap 0 items items2 xs ys ∧ A.in1.units + PyData.depthAll xs < cLine ∧ R (.ok (.ret (.bool (ltvAll xs ys)))) s) :=
  .of_wp fun prog w A R s h => by
    (obtain ⟨hp, g, d, tk, os⟩ := s)
    obtain ⟨⟨n, dd, sl, hl⟩, ⟨n2, dd2, sl2, hb⟩, ⟨_, _, ⟨as, hra⟩, bs, hrb⟩, hu, h⟩ := h
    rw [List.drop_zero] at hra hrb
    have f2 := AutoSeq1.sub_tuple_tuple
    have z1 : items.size = xs.length := by rw [← ReadsAll.length _ _ _ hra]; simp
    have z2 : items2.size = ys.length := by rw [← ReadsAll.length _ _ _ hrb]; simp
    wp_walk using wpAny_loadPart' hl, wpAny_loadPart' hb, wpAny_forIn_list _ (fun rest b s' => b.1 = none ∧ s' = ⟨hp, g, d, tk, os⟩ ∧ ∃ (vs ws : List Value) (xs' ys' : List PyData) (as bs : List Addr), rest = vs.zip ws ∧
      ReadsAll hp vs xs' as ∧ ReadsAll hp ws ys' bs ∧ LtAll xs' ys' ∧ cmpAll xs' ys' = true ∧ PyData.canLayAll0 xs' = true ∧ PyData.canLayAll0 ys' = true ∧ A.in1.units + PyData.depthAll xs' < cLine ∧ xs'.length + items2.size = ys'.length + items.size ∧ R (.ok (.ret (.bool (ltvAll xs' ys')))) ⟨hp, g, d, tk, os⟩) _
    case turn =>
      rintro ⟨y, x⟩ rest b s' ⟨hb', rfl, vs, ws, xs', ys', as, bs, hz, hvi, hwi, iht, hct, hlx', hly', hu', hlen, hR⟩
      cases hvi with
      | nil => rw [List.zip_nil_left] at hz; cases hz
      | @cons v0 vs0 d0 ds0 as0 as1 r1 hvi' =>
        cases hwi with
        | nil => rw [List.zip_nil_right] at hz; cases hz
        | @cons w0 ws0 e0 es0 bs0 bs1 r2 hwi' =>
          rw [List.zip_cons_cons] at hz
          injection hz with hyx hrest
          injection hyx with hy hx
          subst hy hx
          rw [ltvAll_cons] at hR
          rw [cmpAll_cons] at hct
          have hlx2 : d0.canLay0 = true ∧ PyData.canLayAll0 ds0 = true := by simpa [PyData.canLayAll0] using hlx'
          have hly2 : e0.canLay0 = true ∧ PyData.canLayAll0 es0 = true := by simpa [PyData.canLayAll0] using hly'
          simp only [List.length_cons] at hlen
          have he := eqAt_reads d0 e0 A.in1 ⟨hp, g, d, tk, os⟩ y x as0 bs0 r1 r2 hlx2.1 hly2.1 (eq_room (depth_head hu'))
          refine wpAny_bind (he prog w _ _ ?_)
          cases hq : PyData.eqv d0 e0 with
          | true =>
            rw [hq, if_pos rfl] at hR hct
            wp_walk
            exact ⟨rfl, rfl, _, _, _, _, _, _, hrest, hvi', hwi', iht.tail, hct, hlx2.2, hly2.2, depth_tail hu', by lia, hR⟩
          | false =>
            rw [hq, if_neg Bool.false_ne_true] at hR hct
            have hri := iht d0 e0 List.mem_cons_self List.mem_cons_self hct A.in1 ⟨hp, g, d, tk, os⟩ y x as0 bs0 r1 r2 hlx2.1 hly2.1 (depth_head hu') prog w
            wp_walk using hri
            exact ⟨_, rfl, by simpa using hR⟩
    case fin =>
      rintro ⟨b1, b2⟩ s' ⟨hb', rfl, vs, ws, xs', ys', as, bs, hz, hvi, hwi, _, _, _, _, _, hlen, hR⟩
      simp only at hb'
      subst hb'
      have hv : ltvAll xs' ys' = decide (items.size < items2.size) := by
        cases hvi with
        | nil =>
          cases hwi with
          | nil =>
            simp only [List.length_nil] at hlen
            rw [ltvAll]
            exact (decide_eq_false (by lia)).symm
          | cons _ _ =>
            simp only [List.length_nil, List.length_cons] at hlen
            rw [ltvAll]
            exact (decide_eq_true (by lia)).symm
        | cons _ _ =>
          cases hwi with
          | nil =>
            simp only [List.length_nil, List.length_cons] at hlen
            rw [ltvAll]
            exact (decide_eq_false (by lia)).symm
          | cons _ _ =>
            rw [List.zip_cons_cons] at hz
            cases hz
      rw [hv] at hR
      wp_walk
      exact ⟨_, rfl, by simpa [Builtin.Tuple.tupleCompareSizes] using hR⟩
    case h =>
      exact ⟨rfl, rfl, items.toList, items2.toList, xs, ys, as, bs, rfl, hra, hrb, ih, hcmp, hlx, hly, hu, by lia, h⟩
theorem list_lt_loop (l b : Addr) (items items2 : Array Value) (k : Nat) : ∀ (i : Nat) (xs ys : List PyData), items.size - i = k → LtAll xs ys → cmpAll xs ys = true → PyData.canLayAll0 xs = true → PyData.canLayAll0 ys = true →
    Meets (Builtin.«list.__eq__.loop» ⟨[.ref l, .ref b, rawInt i, rawInt 0], []⟩)
      (fun A R s => Sq "list" s.heap l items ∧ Sq "list" s.heap b items2 ∧ Sqs s.heap i items items2 xs ys ∧ A.in1.units + PyData.depthAll xs < cLine ∧ R (.ok (.ret (.bool (ltvAll xs ys)))) s) := by
  induction k with
  | zero =>
    intro i xs ys hk _ _ _ _ prog w A R s h
    (obtain ⟨hp, g, d, tk, os⟩ := s)
    obtain ⟨⟨n, dd, sl, hl⟩, ⟨n2, dd2, sl2, hb⟩, sq, _, h⟩ := h
    rw [(sq.over (.inl (by lia))).1] at h
    (wp_walk using wpAny_loadPart' hl, wpAny_loadPart' hb)
    rw [none_at (its := items) (i := i) (by lia)]
    (wp_walk using wpAny_loadPart' hl, wpAny_loadPart' hb)
    exact h
  | succ k ihk =>
    intro i xs ys hk ih hcmp hlx hly prog w A R s h
    (obtain ⟨hp, g, d, tk, os⟩ := s)
    obtain ⟨L1, L2, sq, hu, h⟩ := h
    obtain ⟨n, dd, sl, hl⟩ := id L1
    obtain ⟨n2, dd2, sl2, hb⟩ := id L2
    have lt1 : i < items.size := by lia
    (wp_walk using wpAny_loadPart' hl, wpAny_loadPart' hb)
    rw [some_at lt1]
    rcases Nat.lt_or_ge i items2.size with lt2 | ge2
    · obtain ⟨x, xs, y, ys, rfl, rfl, ⟨as, rx⟩, ⟨bs, ry⟩, sq'⟩ := sq.next lt1 lt2
      obtain ⟨lx, lxs⟩ := lay_cons hlx
      obtain ⟨ly, lys⟩ := lay_cons hly
      rw [ltvAll_cons] at h
      rw [cmpAll_cons] at hcmp
      rw [some_at lt2]
      refine wpAny_bind (eqAt_reads x y A.in1 _ _ _ as bs rx ry lx ly (eq_room (depth_head hu)) prog w _ _ ?_)
      cases hq : PyData.eqv x y
      · simp only [hq, Bool.false_eq_true, if_false] at h hcmp
        have less := ih x y List.mem_cons_self List.mem_cons_self hcmp A.in1 ⟨hp, g, d, tk, os⟩ _ _ as bs rx ry lx ly (depth_head hu) prog w
        (wp_walk using wpAny_loadPart' hl, wpAny_loadPart' hb)
        rw [some_at lt1, some_at lt2]
        wp_walk using less
        exact h
      · simp only [hq, if_true] at h hcmp
        wp_walk
        rw [next_nat]
        have on := ihk (i + 1) xs ys (by lia) ih.tail hcmp lxs lys prog w A R _ ⟨L1, L2, sq', depth_tail hu, h⟩
        exact ⟨plainId_quiet plain_eq_loop _, codeAny_builtin entry_eq_loop (by rw [Around.under_plainId plain_eq_loop]; exact on)⟩
    · rw [(sq.over (.inr ge2)).1] at h
      rw [none_at (its := items2) (i := i) ge2]
      (wp_walk using wpAny_loadPart' hl, wpAny_loadPart' hb)
      exact h
theorem list_lt_data (l b : Addr) (items items2 : Array Value) (xs ys : List PyData) (ih : LtAll xs ys) (hcmp : cmpAll xs ys = true) (hlx : PyData.canLayAll0 xs = true) (hly : PyData.canLayAll0 ys = true) :
    Meets (Builtin.«list.__lt__» ⟨[.ref l, .ref b], []⟩)
      (fun A R s => Sq "list" s.heap l items ∧ Sq "list" s.heap b items2 ∧ Sqs s.heap 0 items items2 xs ys ∧ A.in1.units + PyData.depthAll xs < cLine ∧ R (.ok (.ret (.bool (ltvAll xs ys)))) s) := by
  intro prog w A R s h
  have on := list_lt_loop l b items items2 _ 0 xs ys rfl ih hcmp hlx hly prog w A R s h
  (obtain ⟨hp, g, d, tk, os⟩ := s)
  obtain ⟨⟨n, dd, sl, hl⟩, ⟨n2, dd2, sl2, hb⟩, _⟩ := h
  have both := AutoSeq1.sub_list_list
  (wp_walk using wpAny_loadPart' hl, wpAny_loadPart' hb)
  exact ⟨plainId_quiet plain_eq_loop _, codeAny_builtin entry_eq_loop (by rw [Around.under_plainId plain_eq_loop]; exact on)⟩
theorem depth_mem {x : PyData} : ∀ {xs : List PyData}, x ∈ xs → x.depth ≤ PyData.depthAll xs
  | y :: ys, h => by
    rw [PyData.depthAll]
    (rcases List.mem_cons.mp h with e | h)
    · subst e; exact Nat.le_max_left _ _
    · exact Nat.le_trans (depth_mem h) (Nat.le_max_right _ _)
end
end L2
namespace L2
open PySem PySem.Spec PyProof.Rows
section
open PySem.SeqAt
open PySem.MeetsSeq PySem.MeetsSeq2 PySem.MeetsSeq3
theorem ltAt_lists {A : Around} {s : Shared} {l b : Addr} {o o2 : Obj} {vs ws : Array Value} {n n2 : Nat} {xs ys : List PyData} {as bs : List Addr} (h1 : s.heap.get? l = some o) (c1 : o.cls = .type "list") (d1 : o.data = .seq vs n) (h2 : s.heap.get? b = some o2) (c2 : o2.cls = .type "list") (d2 : o2.data = .seq ws n2)
    (ra : ReadsAll s.heap vs.toList xs as) (rb : ReadsAll s.heap ws.toList ys bs) (ih : LtAll xs ys) (hcmp : cmpAll xs ys = true) (hlx : PyData.canLayAll0 xs = true) (hly : PyData.canLayAll0 ys = true) (hu : A.units + (PyData.depthAll xs + 1) < cLine) : LtAt A s (.ref l) (.ref b) (ltvAll xs ys) := fun prog w E Q h => by
  obtain ⟨cls, dd, data, sl⟩ := o
  obtain ⟨cls2, dd2, data2, sl2⟩ := o2
  simp only at c1 d1 c2 d2
  subst c1 d1 c2 d2
  exact richCompare_meets_room (op := .Lt) ⟨_, h1, rfl⟩ ⟨_, h2, rfl⟩ F.slot_list_lt F.entry_list_lt (F.args_list_lt_2 _ _) (list_lt_data l b vs ws xs ys ih hcmp hlx hly)
    ⟨⟨_, _, _, h1⟩, ⟨_, _, _, h2⟩, ⟨Nat.zero_le _, Nat.zero_le _, ⟨_, ra⟩, ⟨_, rb⟩⟩, by show A.units + 1 + PyData.depthAll xs < cLine; lia, show Value.bool (ltvAll xs ys) ≠ Value.notImplemented ∧ Q (.bool (ltvAll xs ys)) s from ⟨(fun x => nomatch x), h⟩⟩ (by lia)
theorem ltAt_tuples {A : Around} {s : Shared} {l b : Addr} {o o2 : Obj} {vs ws : Array Value} {n n2 : Nat} {xs ys : List PyData} {as bs : List Addr} (h1 : s.heap.get? l = some o) (c1 : o.cls = .type "tuple") (d1 : o.data = .seq vs n) (h2 : s.heap.get? b = some o2) (c2 : o2.cls = .type "tuple") (d2 : o2.data = .seq ws n2)
    (ra : ReadsAll s.heap vs.toList xs as) (rb : ReadsAll s.heap ws.toList ys bs) (ih : LtAll xs ys) (hcmp : cmpAll xs ys = true) (hlx : PyData.canLayAll0 xs = true) (hly : PyData.canLayAll0 ys = true) (hu : A.units + (PyData.depthAll xs + 1) < cLine) : LtAt A s (.ref l) (.ref b) (ltvAll xs ys) := fun prog w E Q h => by
  obtain ⟨cls, dd, data, sl⟩ := o
  obtain ⟨cls2, dd2, data2, sl2⟩ := o2
  simp only at c1 d1 c2 d2
  subst c1 d1 c2 d2
  exact richCompare_meets_room (op := .Lt) ⟨_, h1, rfl⟩ ⟨_, h2, rfl⟩ F.slot_tuple_lt F.entry_tuple_lt (F.args_tuple_lt_2 _ _) (tuple_lt_data l b vs ws xs ys ih hcmp hlx hly)
    ⟨⟨_, _, _, h1⟩, ⟨_, _, _, h2⟩, ⟨Nat.zero_le _, Nat.zero_le _, ⟨_, ra⟩, ⟨_, rb⟩⟩, by show A.units + 1 + PyData.depthAll xs < cLine; lia, show Value.bool (ltvAll xs ys) ≠ Value.notImplemented ∧ Q (.bool (ltvAll xs ys)) s from ⟨(fun x => nomatch x), h⟩⟩ (by lia)
theorem ltAt_int {A : Around} {s : Shared} {a b : Value} {i j : Int} {as bs : List Addr} (ra : Reads s.heap a (.int i) as) (rb : Reads s.heap b (.int j) bs) : LtAt A s a b (ltv (.int i) (.int j)) := by
  cases ra with
  | int i t =>
    cases rb with
    | int j u => intro prog w E Q h; exact HT.rcLt_int A s i t j u prog w E Q (by rw [ltv] at h; exact h)
theorem ltAt_str {A : Around} {s : Shared} {a b : Value} {x y : Str} {as bs : List Addr} (ra : Reads s.heap a (.str x) as) (rb : Reads s.heap b (.str y) bs) : LtAt A s a b (ltv (.str x) (.str y)) := by
  cases ra with
  | str x t =>
    cases rb with
    | str y u => intro prog w E Q h; exact (PyProof.Rows.lt_str (by rw [ltv] at h; exact h) : wpAny (model prog w) A (compareOp .Lt (.str x t) (.str y u)) Q E s)
theorem cmp_cases {da db : PyData} (h : cmpb da db = true) : (∃ i j, da = .int i ∧ db = .int j) ∨ (∃ x y, da = .str x ∧ db = .str y) ∨ (∃ xs ys, da = .list xs ∧ db = .list ys ∧ cmpAll xs ys = true) ∨ ∃ xs ys, da = .tuple xs ∧ db = .tuple ys ∧ cmpAll xs ys = true := by
  unfold cmpb at h
  split at h
  · exact .inl ⟨_, _, rfl, rfl⟩
  · exact .inr (.inl ⟨_, _, rfl, rfl⟩)
  · exact .inr (.inr (.inl ⟨_, _, rfl, rfl, h⟩))
  · exact .inr (.inr (.inr ⟨_, _, rfl, rfl, h⟩))
  · cases h
theorem ltAt_reads : ∀ (n : Nat) (da db : PyData), da.depth ≤ n → cmpb da db = true → ∀ (A : Around) (s : Shared) (a b : Value) (as bs : List Addr), Reads s.heap a da as → Reads s.heap b db bs → da.canLay0 = true → db.canLay0 = true → A.units + da.depth < cLine → LtAt A s a b (ltv da db) := by
  intro n
  induction n with
  | zero =>
    intro da db hd hc A s a b as bs ra rb ha hb hu
    rcases cmp_cases hc with ⟨i, j, rfl, rfl⟩ | ⟨x, y, rfl, rfl⟩ | ⟨xs, ys, rfl, rfl, hc⟩ | ⟨xs, ys, rfl, rfl, hc⟩
    · exact ltAt_int ra rb
    · exact ltAt_str ra rb
    · rw [PyData.depth] at hd; lia
    · rw [PyData.depth] at hd; lia
  | succ n ih =>
    intro da db hd hc A s a b as bs ra rb ha hb hu
    rcases cmp_cases hc with ⟨i, j, rfl, rfl⟩ | ⟨x, y, rfl, rfl⟩ | ⟨xs, ys, rfl, rfl, hc⟩ | ⟨xs, ys, rfl, rfl, hc⟩
    · exact ltAt_int ra rb
    · exact ltAt_str ra rb
    · rw [PyData.depth] at hd hu
      cases ra with
      | @list a o vs k xs as1 h1 c1 d1 r1 =>
        cases rb with
        | @list b o2 ws k2 ys bs1 h2 c2 d2 r2 =>
          rw [ltv]
          exact ltAt_lists h1 c1 d1 h2 c2 d2 r1 r2 (fun x y hx hy hxy A' s' a' b' as' bs' ra' rb' la lb hu' => ih x y (by have := depth_mem hx; lia) hxy A' s' a' b' as' bs' ra' rb' la lb hu') hc ha hb hu
    · rw [PyData.depth] at hd hu
      cases ra with
      | @tuple a o vs k xs as1 h1 c1 d1 r1 =>
        cases rb with
        | @tuple b o2 ws k2 ys bs1 h2 c2 d2 r2 =>
          rw [ltv]
          exact ltAt_tuples h1 c1 d1 h2 c2 d2 r1 r2 (fun x y hx hy hxy A' s' a' b' as' bs' ra' rb' la lb hu' => ih x y (by have := depth_mem hx; lia) hxy A' s' a' b' as' bs' ra' rb' la lb hu') hc ha hb hu
variable {prog : Program} {w : World} {A : Around} {E : Value → Shared → Prop} {s : Shared}
theorem oneLt_any {x y : Value} {b : Bool} {Q : Bool → Shared → Prop} (h : LtAt A s x y b) (q : Q b s) : wpAny (model prog w) A (oneLt' false x y) Q E s :=
  PySem.W.kat_one x y (h prog w E _ q)
theorem oneLt_str {x y : Str} {t u : Tok} {Q : Bool → Shared → Prop} (q : Q (decide (x.cps.toList < y.cps.toList)) s) : wpAny (model prog w) A (oneLt' true (.str x t) (.str y u)) Q E s := by
  have := PySem.W.kas_lt_str (prog := prog) (w := w) (A := A) (E := E) (s := s) (a := x) (c := y) (t := t) (u := u) (Q := Q) q
  rwa [keyLt'_oneType] at this
theorem keyLt_data {b : Bool} {x y : Addr} {ox oy : Obj} {vx vy : Array Value} {n k : Nat} {xs ys : List PyData} {as bs : List Addr} {Q : Bool → Shared → Prop} (hx : s.heap.get? x = some ox) (dx : ox.data = .seq vx n) (hy : s.heap.get? y = some oy) (dy : oy.data = .seq vy k)
    (ra : ReadsAll s.heap vx.toList xs as) (rb : ReadsAll s.heap vy.toList ys bs) (ha : PyData.canLayAll0 xs = true) (hb : PyData.canLayAll0 ys = true) (hc : cmpAll xs ys = true) (hf : ∀ d e, xs.head? = some d → ys.head? = some e → (b = true → (∃ i j, d = .int i ∧ e = .int j) ∨ ∃ i j, d = .str i ∧ e = .str j))
    (hu : A.units + PyData.depthAll xs < cLine) (q : Q (ltvAll xs ys) s) : wpAny (model prog w) A (keyLt' (tuples' b) (.ref x) (.ref y)) Q E s := by
  refine PySem.W.kat_lt hx dx hy dy ?_
  have z1 : vx.size = xs.length := by rw [← ReadsAll.length _ _ _ ra]; simp
  have z2 : vy.size = ys.length := by rw [← ReadsAll.length _ _ _ rb]; simp
  have key : ∀ (vs ws : List Value) (xs' ys' : List PyData) (as bs : List Addr) (i : Nat), ReadsAll s.heap vs xs' as → ReadsAll s.heap ws ys' bs → PyData.canLayAll0 xs' = true → PyData.canLayAll0 ys' = true → cmpAll xs' ys' = true → A.units + PyData.depthAll xs' < cLine →
      xs'.length + vy.size = ys'.length + vx.size → (i = 0 → xs' = xs ∧ ys' = ys) → Q (ltvAll xs' ys') s → PySem.W.KatLex prog w A b (decide (vx.size < vy.size)) Q (vs.zip ws) i s := by
    intro vs
    induction vs with
    | nil =>
      intro ws xs' ys' as bs i r1 r2 l1 l2 c u hl h0 hq
      cases r1
      rw [List.zip_nil_left]
      refine PySem.W.kat_nil ?_
      cases r2 with
      | nil =>
        rw [ltvAll] at hq
        simp only [List.length_nil] at hl
        rw [decide_eq_false (by lia)]; exact hq
      | cons _ _ =>
        rw [ltvAll] at hq
        simp only [List.length_nil, List.length_cons] at hl
        rw [decide_eq_true (by lia)]; exact hq
    | cons v vs ihv =>
      intro ws xs' ys' as bs i r1 r2 l1 l2 c u hl h0 hq
      cases r1 with
      | @cons _ _ d0 ds0 as0 as1 r1 r1' =>
      cases r2 with
      | nil =>
        rw [List.zip_nil_right]
        refine PySem.W.kat_nil ?_
        rw [ltvAll] at hq
        simp only [List.length_nil, List.length_cons] at hl
        rw [decide_eq_false (by lia)]; exact hq
      | @cons w0 ws0 e0 es0 bs0 bs1 r2 r2' =>
        rw [List.zip_cons_cons]
        rw [ltvAll_cons] at hq
        rw [cmpAll_cons] at c
        have l1' : d0.canLay0 = true ∧ PyData.canLayAll0 ds0 = true := by simpa [PyData.canLayAll0] using l1
        have l2' : e0.canLay0 = true ∧ PyData.canLayAll0 es0 = true := by simpa [PyData.canLayAll0] using l2
        refine PySem.W.kat_cons (eqAt_reads d0 e0 A s v w0 as0 bs0 r1 r2 l1'.1 l2'.1 (eq_room (depth_head u)) prog w _ _ ?_)
        cases hq' : PyData.eqv d0 e0 with
        | true =>
          rw [hq', if_pos rfl] at hq c
          refine PySem.W.kat_yes (ihv ws0 ds0 es0 _ _ (i + 1) r1' r2' l1'.2 l2'.2 c (depth_tail u) ?_ (fun z => by lia) hq)
          simp only [List.length_cons] at hl
          lia
        | false =>
          rw [hq', if_neg Bool.false_ne_true] at hq c
          refine PySem.W.kat_no ?_
          by_cases hbi : (b && i == 0) = true
          · have hb1 : b = true := by simp at hbi; exact hbi.1
            have hi0 : i = 0 := by simp at hbi; exact hbi.2
            obtain ⟨e1, e2⟩ := h0 hi0
            rw [hbi]
            rcases hf d0 e0 (by rw [← e1]; rfl) (by rw [← e2]; rfl) hb1 with ⟨p, q', rfl, rfl⟩ | ⟨p, q', rfl, rfl⟩
            · cases r1
              cases r2
              rw [ltv] at hq
              exact oneLt_int hq
            · cases r1
              cases r2
              rw [ltv] at hq
              exact oneLt_str hq
          · have : (b && i == 0) = false := by simpa using hbi
            rw [this]
            exact oneLt_any (ltAt_reads _ d0 e0 (Nat.le_refl _) c A s v w0 as0 bs0 r1 r2 l1'.1 l2'.1 (depth_head u)) hq
  exact key vx.toList vy.toList xs ys as bs 0 ra rb ha hb hc hu (by lia) (fun _ => ⟨rfl, rfl⟩) q
end
end L2
namespace L2
open PySem PySem.Spec PyProof.Rows PySem.W
structure Weak (n : Nat) (lt : Nat → Nat → Bool) : Prop where
  irrefl : ∀ a, a < n → lt a a = false
  negTrans : ∀ a b c, a < n → b < n → c < n → lt a c = true → lt a b = true ∨ lt b c = true
  asymm : ∀ a b, a < n → b < n → lt a b = true → lt b a = false
def AllLt (n : Nat) (p : Array Nat) : Prop := ∀ i, p.getD i 0 < n
def UpTo (lt : Nat → Nat → Bool) (p : Array Nat) (k : Nat) : Prop := ∀ i j, i ≤ j → j < k → lt (p.getD j 0) (p.getD i 0) = false
def DownTo (lt : Nat → Nat → Bool) (p : Array Nat) (k : Nat) : Prop := ∀ i j, i ≤ j → j < k → lt (p.getD i 0) (p.getD j 0) = false
theorem AllLt.perm {n : Nat} {p q : Array Nat} (h : AllLt n p) (hn : 0 < n) (r : q.Perm p) : AllLt n q := by
  intro i
  by_cases hi : i < q.size
  · have e : q.getD i 0 = q[i] := by simp [Array.getD, hi]
    rw [e]
    have hm : q[i] ∈ p.toList := (Array.perm_iff_toList_perm.mp r).mem_iff.mp (by simp)
    obtain ⟨j, hj, e2⟩ := List.mem_iff_getElem.mp hm
    have := h j
    have e3 : p.getD j 0 = q[i] := by
      have hj' : j < p.size := by simpa using hj
      have : p.getD j 0 = p[j] := by simp [Array.getD, hj']
      rw [this, ← e2]; simp
    rw [← e3]; exact this
  · have e : q.getD i 0 = 0 := by simp [Array.getD, hi]
    rw [e]; exact hn
section
variable {n : Nat} {lt : Nat → Nat → Bool} {cmp : Nat → Nat → (Bool → Shared → Prop) → Shared → Prop} {P : Shared → Prop}
theorem Weak.trans (W : Weak n lt) {a b c : Nat} (ha : a < n) (hb : b < n) (hc : c < n) (h1 : lt b a = false) (h2 : lt c b = false) : lt c a = false := by
  cases q : lt c a with
  | false => rfl
  | true =>
    rcases W.negTrans c b a hc hb ha q with z | z
    · rw [h2] at z; cases z
    · rw [h1] at z; cases z
theorem UpTo.of_step (W : Weak n lt) {p : Array Nat} (hp : AllLt n p) {k m : Nat} (h : UpTo lt p k) (hk : 1 ≤ k) (hs : ∀ i, k ≤ i → i < m → lt (p.getD i 0) (p.getD (i - 1) 0) = false) : UpTo lt p m := by
  have key : ∀ d i j, j = i + d → j < m → lt (p.getD j 0) (p.getD i 0) = false := by
    intro d
    induction d with
    | zero => intro i j e hj; rw [e]; exact W.irrefl _ (hp _)
    | succ d ih =>
      intro i j e hj
      by_cases hjk : j < k
      · exact h i j (by lia) hjk
      · exact W.trans (hp _) (hp (j - 1)) (hp _) (ih i (j - 1) (by lia) (by lia)) (hs j (by lia) hj)
  intro i j hij hj
  exact key (j - i) i j (by lia) hj
theorem getD_bubble {p : Array Nat} {k l : Nat} (hk : k < p.size) (hl : l ≤ k) (i : Nat) : (bubble p k (k - l)).getD i 0 = if i < l then p.getD i 0 else if i = l then p.getD k 0 else if i ≤ k then p.getD (i - 1) 0 else p.getD i 0 := by
  have h := getElem?_bubble (xs := p) hk (k - l) (by lia) i
  rw [Array.getD_eq_getD_getElem?, h]
  rw [show k - (k - l) = l by lia]
  simp only [Array.getD_eq_getD_getElem?]
  repeat' split
  all_goals first | rfl | (exfalso; lia) | skip
theorem getD_rev {p : Array Nat} {i j : Nat} (hj : j ≤ p.size) (k : Nat) : (kas_rev p i j).getD k 0 = if i ≤ k ∧ k < j then p.getD (i + j - 1 - k) 0 else p.getD k 0 := by
  have h := getElem?_mirror_all (xs := p) (i := i) hj k
  unfold kas_rev
  rw [Array.getD_eq_getD_getElem?, h]
  simp only [Array.getD_eq_getD_getElem?]
  repeat' split
  all_goals first | rfl | (exfalso; lia) | skip
theorem asc_wp (hcmp : ∀ i j C s, i < n → j < n → P s → (∀ s', P s' → C (lt i j) s') → cmp i j C s) {p : Array Nat} (hp : AllLt n p) {Q : Nat → Shared → Prop} : ∀ (f k : Nat) (s : Shared), P s →
    (∀ m s', P s' → k ≤ m → m ≤ k + f → (∀ i, k ≤ i → i < m → lt (p.getD i 0) (p.getD (i - 1) 0) = false) → (m < k + f → lt (p.getD m 0) (p.getD (m - 1) 0) = true) → Q m s') → (kas_asc p f k).kasWp cmp Q s
  | 0, k, s, hs, h => h k s hs (Nat.le_refl _) (Nat.le_refl _) (fun i h1 h2 => by lia) fun h1 => by lia
  | f + 1, k, s, hs, h => by
    refine hcmp _ _ _ s (hp _) (hp _) hs fun s' hs' => ?_
    cases hc : lt (p.getD k 0) (p.getD (k - 1) 0) with
    | true =>
      show KasT.kasWp cmp (if true = true then KasT.ret k else kas_asc p f (k + 1)) Q s'
      rw [if_pos rfl]
      exact h k s' hs' (Nat.le_refl _) (by lia) (fun i h1 h2 => by lia) fun _ => hc
    | false =>
      show KasT.kasWp cmp (if false = true then KasT.ret k else kas_asc p f (k + 1)) Q s'
      rw [if_neg Bool.false_ne_true]
      refine (asc_wp hcmp hp f (k + 1) s' hs' fun m s'' hs'' h1 h2 h3 h4 => h m s'' hs'' (by lia) (by lia) (fun i h5 h6 => ?_) fun h5 => h4 (by lia))
      by_cases e : i = k
      · rw [e]; exact hc
      · exact h3 i (by lia) h6
def Alike (lt : Nat → Nat → Bool) (p : Array Nat) (k q : Nat) : Prop := ∀ i, k - (q + 1) ≤ i → i < k → lt (p.getD (k - 1) 0) (p.getD i 0) = false
theorem rev_alike (W : Weak n lt) {p : Array Nat} {k q : Nat} (hp : AllLt n p) (hk : k ≤ p.size) (hq : q + 1 ≤ k) (hd : DownTo lt p k) (ha : Alike lt p k q) : DownTo lt (kas_rev p (k - (q + 1)) k) k := by
  intro i j hij hj
  rw [getD_rev hk, getD_rev hk]
  have eqv : ∀ a b, k - (q + 1) ≤ a → a < k → k - (q + 1) ≤ b → b < k → lt (p.getD a 0) (p.getD b 0) = false := fun a b h1 h2 h3 h4 =>
    W.trans (hp b) (hp (k - 1)) (hp a) (ha b h3 h4) (hd a (k - 1) (by lia) (by lia))
  by_cases hi : k - (q + 1) ≤ i
  · rw [if_pos ⟨hi, by lia⟩, if_pos ⟨by lia, hj⟩]
    exact eqv _ _ (by lia) (by lia) (by lia) (by lia)
  · rw [if_neg (by lia)]
    by_cases hj2 : k - (q + 1) ≤ j
    · rw [if_pos ⟨hj2, hj⟩]
      exact hd _ _ (by lia) (by lia)
    · rw [if_neg (by lia)]
      exact hd i j hij hj
theorem down_more (W : Weak n lt) {p : Array Nat} {k : Nat} (hp : AllLt n p) (h1 : 1 ≤ k) (hd : DownTo lt p k) (h : lt (p.getD (k - 1) 0) (p.getD k 0) = false) : DownTo lt p (k + 1) := by
  intro i j hij hj
  by_cases e : j = k
  · subst e
    by_cases e2 : i = j
    · subst e2; exact W.irrefl _ (hp _)
    · exact W.trans (hp _) (hp (j - 1)) (hp _) h (hd i (j - 1) (by lia) (by lia))
  · exact hd i j hij (by lia)
theorem desc_wp (W : Weak n lt) (hcmp : ∀ i j C s, i < n → j < n → P s → (∀ s', P s' → C (lt i j) s') → cmp i j C s) (hn : 0 < n) {Q : Array Nat × Nat × Nat → Shared → Prop} : ∀ (f : Nat) (p : Array Nat) (k q : Nat) (s : Shared), P s → AllLt n p → k + f ≤ p.size → q + 1 ≤ k → DownTo lt p k → Alike lt p k q →
    (∀ p' k' q' s', P s' → p'.Perm p → k ≤ k' → k' ≤ k + f → q' + 1 ≤ k' → DownTo lt p' k' → Alike lt p' k' q' → Q (p', k', q') s') → (kas_desc f p k q).kasWp cmp Q s
  | 0, p, k, q, s, hs, hp, hz, hq, hd, ha, h => h p k q s hs (Array.Perm.refl _) (Nat.le_refl _) (Nat.le_refl _) hq hd ha
  | f + 1, p, k, q, s, hs, hp, hz, hq, hd, ha, h => by
    refine hcmp _ _ _ s (hp _) (hp _) hs fun s' hs' => ?_
    cases hc : lt (p.getD k 0) (p.getD (k - 1) 0) with
    | true =>
      have hlt : lt (p.getD (k - 1) 0) (p.getD k 0) = false := W.asymm _ _ (hp _) (hp _) hc
      show KasT.kasWp cmp (if true = true then (if q > 0 then kas_desc f (kas_rev p (k - (q + 1)) k) (k + 1) 0 else kas_desc f p (k + 1) 0) else _) Q s'
      rw [if_pos rfl]
      split
      · have hperm : (kas_rev p (k - (q + 1)) k).Perm p := mirror_perm _ _ _ _
        have hp2 := hp.perm hn hperm
        have hsz : (kas_rev p (k - (q + 1)) k).size = p.size := mirror_size _ _ _ _
        have hd2 := rev_alike W hp (by lia) hq hd ha
        refine desc_wp W hcmp hn f _ (k + 1) 0 s' hs' hp2 (by rw [hsz]; lia) (by lia) (down_more W hp2 (by lia) hd2 ?_) (fun i h1 h2 => ?_) fun p' k' q' s'' a b c d e => h p' k' q' s'' a (b.trans hperm) (by lia) (by lia) e
        · rw [getD_rev (by lia), getD_rev (by lia), if_pos ⟨by lia, by lia⟩, if_neg (by lia)]
          refine W.trans (hp _) (hp (k - 1)) (hp _) hlt ?_
          exact hd _ _ (by lia) (by lia)
        · have : i = k + 1 - 1 := by lia
          rw [this]; exact W.irrefl _ (hp2 _)
      · refine desc_wp W hcmp hn f _ (k + 1) 0 s' hs' hp (by lia) (by lia) (down_more W hp (by lia) hd hlt) (fun i h1 h2 => ?_) fun p' k' q' s'' a b c d e => h p' k' q' s'' a b (by lia) (by lia) e
        have : i = k + 1 - 1 := by lia
        rw [this]; exact W.irrefl _ (hp _)
    | false =>
      show KasT.kasWp cmp (if false = true then _ else KasT.ask (p.getD (k - 1) 0) (p.getD k 0) fun d => if d = true then KasT.ret (p, k, q) else kas_desc f p (k + 1) (q + 1)) Q s'
      rw [if_neg Bool.false_ne_true]
      refine hcmp _ _ _ s' (hp _) (hp _) hs' fun s2 hs2 => ?_
      cases hc2 : lt (p.getD (k - 1) 0) (p.getD k 0) with
      | true =>
        show KasT.kasWp cmp (if true = true then KasT.ret (p, k, q) else _) Q s2
        rw [if_pos rfl]
        exact h p k q s2 hs2 (Array.Perm.refl _) (Nat.le_refl _) (by lia) hq hd ha
      | false =>
        show KasT.kasWp cmp (if false = true then _ else kas_desc f p (k + 1) (q + 1)) Q s2
        rw [if_neg Bool.false_ne_true]
        refine desc_wp W hcmp hn f _ (k + 1) (q + 1) s2 hs2 hp (by lia) (by lia) (down_more W hp (by lia) hd hc2) (fun i h1 h2 => ?_) fun p' k' q' s'' a b c d e => h p' k' q' s'' a b (by lia) (by lia) e
        rw [show k + 1 - 1 = k by lia]
        by_cases e : i = k
        · rw [e]; exact W.irrefl _ (hp _)
        · exact W.trans (hp _) (hp (k - 1)) (hp _) (ha i (by lia) (by lia)) hc
theorem tail3_wp (W : Weak n lt) (hcmp : ∀ i j C s, i < n → j < n → P s → (∀ s', P s' → C (lt i j) s') → cmp i j C s) (hn : 0 < n) {p : Array Nat} {k nrem : Nat} {s : Shared} {Q : Nat × Array Nat → Shared → Prop} (hs : P s) (hp : AllLt n p) (hk : k ≤ nrem) (h1 : 1 ≤ k) (hz : nrem ≤ p.size) (hd : DownTo lt p k)
    (h : ∀ m p' s', P s' → p'.Perm p → 1 ≤ m → m ≤ nrem → UpTo lt p' m → Q (m, p') s') : (kas_tail3 k nrem p).kasWp cmp Q s := by
  unfold kas_tail3
  rw [KasT.kasWp_bind]
  have hperm : (kas_rev p 0 k).Perm p := mirror_perm _ _ _ _
  have hp2 := hp.perm hn hperm
  have up : UpTo lt (kas_rev p 0 k) k := fun i j hij hj => by
    rw [getD_rev (by lia), getD_rev (by lia), if_pos ⟨by lia, hj⟩, if_pos ⟨by lia, by lia⟩]
    exact hd _ _ (by lia) (by lia)
  refine asc_wp hcmp hp2 _ _ s hs fun m s' hs' a b c d => ?_
  exact h m _ s' hs' hperm (by lia) (by lia) (up.of_step W hp2 h1 c)
theorem descPart_wp (W : Weak n lt) (hcmp : ∀ i j C s, i < n → j < n → P s → (∀ s', P s' → C (lt i j) s') → cmp i j C s) (hn : 0 < n) {p : Array Nat} {k nrem : Nat} {s : Shared} {Q : Nat × Array Nat → Shared → Prop} (hs : P s) (hp : AllLt n p) (hk : k + 1 ≤ nrem) (h1 : 1 ≤ k) (hz : nrem ≤ p.size) (hd : DownTo lt p (k + 1))
    (h : ∀ m p' s', P s' → p'.Perm p → 1 ≤ m → m ≤ nrem → UpTo lt p' m → Q (m, p') s') : (kas_descPart k nrem p).kasWp cmp Q s := by
  unfold kas_descPart
  rw [KasT.kasWp_bind]
  refine desc_wp W hcmp hn _ p (k + 1) 0 s hs hp (by lia) (by lia) hd (fun i h2 h3 => ?_) fun p' k' q' s' hs' hperm a b c d e => ?_
  · have : i = k + 1 - 1 := by lia
    rw [this]; exact W.irrefl _ (hp _)
  · have hsz : p'.size = p.size := hperm.size_eq
    have hp' := hp.perm hn hperm
    dsimp only
    split
    · have hperm2 : (kas_rev p' (k' - (q' + 1)) k').Perm p' := mirror_perm _ _ _ _
      have hsz2 : (kas_rev p' (k' - (q' + 1)) k').size = p'.size := mirror_size _ _ _ _
      exact tail3_wp W hcmp hn hs' (hp'.perm hn hperm2) (by lia) (by lia) (by lia) (rev_alike W hp' (by lia) c d e) fun m p2 s2 x y z w v => h m p2 s2 x (y.trans (hperm2.trans hperm)) z w v
    · exact tail3_wp W hcmp hn hs' hp' (by lia) (by lia) (by lia) d fun m p2 s2 x y z w v => h m p2 s2 x (y.trans hperm) z w v
theorem count_wp (W : Weak n lt) (hcmp : ∀ i j C s, i < n → j < n → P s → (∀ s', P s' → C (lt i j) s') → cmp i j C s) (hn : 0 < n) {p : Array Nat} {nrem : Nat} {s : Shared} {Q : Nat × Array Nat → Shared → Prop} (hs : P s) (hp : AllLt n p) (h1 : 1 ≤ nrem) (hz : nrem ≤ p.size)
    (h : ∀ m p' s', P s' → p'.Perm p → 1 ≤ m → m ≤ nrem → UpTo lt p' m → Q (m, p') s') : (kas_count nrem p).kasWp cmp Q s := by
  unfold kas_count
  rw [KasT.kasWp_bind]
  refine asc_wp hcmp hp _ _ s hs fun m s' hs' a b c d => ?_
  have up1 : UpTo lt p 1 := fun i j hij hj => by
    have : i = 0 := by lia
    have : j = 0 := by lia
    subst_vars; exact W.irrefl _ (hp _)
  have up : UpTo lt p m := up1.of_step W hp (Nat.le_refl _) c
  by_cases e : m = nrem
  · rw [if_pos (by simpa using e)]
    exact h m p s' hs' (Array.Perm.refl _) a (by lia) up
  · rw [if_neg (by simpa using e)]
    have hlt : lt (p.getD m 0) (p.getD (m - 1) 0) = true := d (by lia)
    have hle : lt (p.getD (m - 1) 0) (p.getD m 0) = false := W.asymm _ _ (hp _) (hp _) hlt
    split
    · refine hcmp _ _ _ s' (hp _) (hp _) hs' fun s2 hs2 => ?_
      cases hc : lt (p.getD 0 0) (p.getD (m - 1) 0) with
      | true =>
        show KasT.kasWp cmp (if true = true then KasT.ret (m, p) else _) Q s2
        rw [if_pos rfl]
        exact h m p s2 hs2 (Array.Perm.refl _) a (by lia) up
      | false =>
        show KasT.kasWp cmp (if false = true then _ else kas_descPart m nrem (kas_rev p 0 m)) Q s2
        rw [if_neg Bool.false_ne_true]
        have hperm : (kas_rev p 0 m).Perm p := mirror_perm _ _ _ _
        have hsz : (kas_rev p 0 m).size = p.size := mirror_size _ _ _ _
        have hp2 := hp.perm hn hperm
        have al : ∀ i j, i < m → j < m → lt (p.getD i 0) (p.getD j 0) = false := fun i j hi hj => by
          have x1 : lt (p.getD i 0) (p.getD (m - 1) 0) = false := W.trans (hp _) (hp 0) (hp _) hc (by
            have y1 : lt (p.getD (m - 1) 0) (p.getD i 0) = false := up i (m - 1) (by lia) (by lia)
            cases q : lt (p.getD i 0) (p.getD 0 0) with
            | false => rfl
            | true =>
              have y2 := up 0 i (Nat.zero_le _) hi
              rw [y2] at q; cases q)
          exact W.trans (hp _) (hp (m - 1)) (hp _) (up j (m - 1) (by lia) (by lia)) x1
        refine descPart_wp W hcmp hn hs2 hp2 (by lia) a (by lia) (down_more W hp2 a (fun i j hij hj => ?_) ?_) fun m' p2 s3 x y z w v => h m' p2 s3 x (y.trans hperm) z w v
        · rw [getD_rev (by lia), getD_rev (by lia), if_pos ⟨by lia, by lia⟩, if_pos ⟨by lia, by lia⟩]
          exact al _ _ (by lia) (by lia)
        · rw [getD_rev (by lia), getD_rev (by lia), if_pos ⟨by lia, by lia⟩, if_neg (by lia)]
          exact W.trans (hp _) (hp (m - 1)) (hp _) hle (al _ _ (by lia) (by lia))
    · have hm : m = 1 := by lia
      refine descPart_wp W hcmp hn hs' hp (by lia) a hz (down_more W hp a (fun i j hij hj => ?_) hle) h
      have : i = 0 := by lia
      have : j = 0 := by lia
      subst_vars; exact W.irrefl _ (hp _)
theorem place_wp (W : Weak n lt) (hcmp : ∀ i j C s, i < n → j < n → P s → (∀ s', P s' → C (lt i j) s') → cmp i j C s) {p : Array Nat} (hp : AllLt n p) {k : Nat} (up : UpTo lt p k) {Q : Nat → Shared → Prop} : ∀ (f l r : Nat) (s : Shared), P s → l ≤ r → r ≤ k → r - l ≤ f →
    (∀ i, i < l → lt (p.getD k 0) (p.getD i 0) = false) → (∀ i, r ≤ i → i < k → lt (p.getD k 0) (p.getD i 0) = true) →
    (∀ m s', P s' → m ≤ k → (∀ i, i < m → lt (p.getD k 0) (p.getD i 0) = false) → (∀ i, m ≤ i → i < k → lt (p.getD k 0) (p.getD i 0) = true) → Q m s') → (kas_place p k f l r).kasWp cmp Q s
  | 0, l, r, s, hs, h1, h2, h3, h4, h5, h => h l s hs (by lia) h4 fun i a b => h5 i (by lia) b
  | f + 1, l, r, s, hs, h1, h2, h3, h4, h5, h => by
    unfold kas_place
    by_cases e : l ≥ r
    · rw [if_pos e]
      exact h l s hs (by lia) h4 fun i a b => h5 i (by lia) b
    · rw [if_neg e]
      refine hcmp _ _ _ s (hp _) (hp _) hs fun s' hs' => ?_
      cases hc : lt (p.getD k 0) (p.getD ((l + r) / 2) 0) with
      | true =>
        show KasT.kasWp cmp (if true = true then kas_place p k f l ((l + r) / 2) else _) Q s'
        rw [if_pos rfl]
        refine place_wp W hcmp hp up f l ((l + r) / 2) s' hs' (by lia) (by lia) (by lia) h4 (fun i a b => ?_) h
        rcases W.negTrans _ (p.getD i 0) _ (hp _) (hp _) (hp _) hc with z | z
        · exact z
        · have := up ((l + r) / 2) i a b
          rw [this] at z; cases z
      | false =>
        show KasT.kasWp cmp (if false = true then _ else kas_place p k f ((l + r) / 2 + 1) r) Q s'
        rw [if_neg Bool.false_ne_true]
        refine place_wp W hcmp hp up f ((l + r) / 2 + 1) r s' hs' (by lia) (by lia) (by lia) (fun i a => ?_) h5 h
        exact W.trans (hp _) (hp ((l + r) / 2)) (hp _) (up i ((l + r) / 2) (by lia) (by lia)) hc
theorem bin_wp (W : Weak n lt) (hcmp : ∀ i j C s, i < n → j < n → P s → (∀ s', P s' → C (lt i j) s') → cmp i j C s) (hn : 0 < n) {Q : Array Nat → Shared → Prop} : ∀ (f : Nat) (p : Array Nat) (k : Nat) (s : Shared), P s → AllLt n p → k + f ≤ p.size → UpTo lt p k →
    (∀ p' s', P s' → p'.Perm p → UpTo lt p' (k + f) → Q p' s') → (kas_bin f p k).kasWp cmp Q s
  | 0, p, k, s, hs, hp, hz, up, h => h p s hs (Array.Perm.refl _) up
  | f + 1, p, k, s, hs, hp, hz, up, h => by
    unfold kas_bin
    rw [KasT.kasWp_bind]
    refine place_wp W hcmp hp up k 0 k s hs (Nat.zero_le _) (Nat.le_refl _) (by lia) (fun i a => by lia) (fun i a b => by lia) fun l s' hs' hl lo hi => ?_
    have hperm : (bubble p k (k - l)).Perm p := bubble_perm _ _ _
    have hsz : (bubble p k (k - l)).size = p.size := bubble_size _ _ _
    refine bin_wp W hcmp hn f _ (k + 1) s' hs' (hp.perm hn hperm) (by rw [hsz]; lia) (fun i j hij hj => ?_) fun p' s2 a b c => h p' s2 a (b.trans hperm) (by rw [show k + (f + 1) = k + 1 + f by lia]; exact c)
    rw [getD_bubble (by lia) hl, getD_bubble (by lia) hl]
    by_cases i1 : i < l
    · rw [if_pos i1]
      by_cases j1 : j < l
      · rw [if_pos j1]; exact up i j hij (by lia)
      · rw [if_neg j1]
        by_cases j2 : j = l
        · rw [if_pos j2]; exact lo i i1
        · rw [if_neg j2, if_pos (by lia)]; exact up i (j - 1) (by lia) (by lia)
    · rw [if_neg i1, if_neg (show ¬ j < l by lia)]
      by_cases i2 : i = l
      · rw [if_pos i2]
        by_cases j2 : j = l
        · rw [if_pos j2]; exact W.irrefl _ (hp _)
        · rw [if_neg j2, if_pos (by lia)]
          exact W.asymm _ _ (hp _) (hp _) (hi (j - 1) (by lia) (by lia))
      · rw [if_neg i2, if_pos (show i ≤ k by lia), if_neg (show ¬ j = l by lia), if_pos (show j ≤ k by lia)]
        exact up (i - 1) (j - 1) (by lia) (by lia)
theorem sort_wp (W : Weak n lt) (hcmp : ∀ i j C s, i < n → j < n → P s → (∀ s', P s' → C (lt i j) s') → cmp i j C s) (hn : 0 < n) {s : Shared} {Q : Array Nat → Shared → Prop} (hs : P s)
    (h : ∀ p s', P s' → p.toList.Perm (List.range n) → UpTo lt p n → Q p s') : (kas_sort n).kasWp cmp Q s := by
  unfold kas_sort
  rw [KasT.kasWp_bind]
  have hp : AllLt n (List.toArray (List.range n)) := fun i => by
    by_cases hi : i < n
    · simp [Array.getD, hi]
    · simp [Array.getD, hi]; exact hn
  have hz : (List.toArray (List.range n)).size = n := by simp
  refine count_wp W hcmp hn hs hp (by lia) (by rw [hz]; exact Nat.le_refl _) fun m p' s' hs' hperm a b up => ?_
  have hsz : p'.size = n := by rw [hperm.size_eq]; exact hz
  have toL : ∀ {q : Array Nat}, q.Perm (List.toArray (List.range n)) → q.toList.Perm (List.range n) := fun r => by simpa using Array.perm_iff_toList_perm.mp r
  dsimp only
  split
  · rw [show max m 1 = m by lia]
    exact bin_wp W hcmp hn _ p' m s' hs' (hp.perm hn hperm) (by lia) up fun p2 s2 x y z => h p2 s2 x (toL (y.trans hperm)) (by rw [show m + (n - m) = n by lia] at z; exact z)
  · have : m = n := by lia
    subst this
    exact h p' s' hs' (toL hperm) up
end
end L2
namespace L2
open PySem PySem.Spec PyProof.Rows PySem.W
inductive Sh where
  | int | str | list (e : Sh) | tnil | tcons (a r : Sh)
def Sh.has : Sh → PyData → Prop
  | .int, d => ∃ i, d = .int i
  | .str, d => ∃ x, d = .str x
  | .list e, d => ∃ ds, d = .list ds ∧ ∀ x ∈ ds, Sh.has e x
  | .tnil, d => d = .tuple []
  | .tcons a r, d => ∃ x ds, d = .tuple (x :: ds) ∧ Sh.has a x ∧ Sh.has r (.tuple ds)
structure ShOk (S : PyData → Prop) : Prop where
  cmp : ∀ d e, S d → S e → cmpb d e = true
  eqv : ∀ d e, S d → S e → (PyData.eqv d e = true ↔ d = e)
  irr : ∀ d, S d → ltv d d = false
  tot : ∀ d e, S d → S e → ltv d e = false → ltv e d = false → d = e
  trans : ∀ d e f, S d → S e → S f → ltv d e = true → ltv e f = true → ltv d f = true
theorem ShOk.asymm {S : PyData → Prop} (o : ShOk S) {d e : PyData} (hd : S d) (he : S e) (h : ltv d e = true) : ltv e d = false := by
  cases q : ltv e d with
  | false => rfl
  | true =>
    have := o.trans d e d hd he hd h q
    rw [o.irr d hd] at this; cases this
theorem ShOk.neg {S : PyData → Prop} (o : ShOk S) {a b c : PyData} (ha : S a) (hb : S b) (hc : S c) (h : ltv a c = true) : ltv a b = true ∨ ltv b c = true := by
  cases q : ltv a b with
  | true => exact .inl rfl
  | false =>
    cases q2 : ltv b a with
    | true => exact .inr (o.trans b a c hb ha hc q2 h)
    | false =>
      have := o.tot a b ha hb q q2
      subst this
      exact .inr h
structure ShAll (S : PyData → Prop) (L : List PyData → Prop) : Prop where
  cmp : ∀ d e, L d → L e → cmpAll d e = true
  eqv : ∀ d e, L d → L e → (PyData.eqvAll d e = true ↔ d = e)
  irr : ∀ d, L d → ltvAll d d = false
  tot : ∀ d e, L d → L e → ltvAll d e = false → ltvAll e d = false → d = e
  trans : ∀ d e f, L d → L e → L f → ltvAll d e = true → ltvAll e f = true → ltvAll d f = true
theorem list_lex {a b : PyData} {S : PyData → Prop} (o : ShOk S) : ShAll S (fun l => ∀ x ∈ l, S x) where
  cmp := by
    intro d
    induction d with
    | nil => intro e _ _; rw [cmpAll]
    | cons x xs ih =>
      intro e hd he
      cases e with
      | nil => rw [cmpAll]
      | cons y ys =>
        rw [cmpAll_cons]
        split
        · exact ih ys (fun z hz => hd z (List.mem_cons_of_mem _ hz)) fun z hz => he z (List.mem_cons_of_mem _ hz)
        · exact o.cmp x y (hd x List.mem_cons_self) (he y List.mem_cons_self)
  eqv := by
    intro d
    induction d with
    | nil =>
      intro e _ _
      cases e with
      | nil => simp [PyData.eqvAll]
      | cons y ys => simp [PyData.eqvAll]
    | cons x xs ih =>
      intro e hd he
      cases e with
      | nil => simp [PyData.eqvAll]
      | cons y ys =>
        rw [PyData.eqvAll, Bool.and_eq_true, o.eqv x y (hd x List.mem_cons_self) (he y List.mem_cons_self), ih ys (fun z hz => hd z (List.mem_cons_of_mem _ hz)) fun z hz => he z (List.mem_cons_of_mem _ hz)]
        simp
  irr := by
    intro d
    induction d with
    | nil => intro _; rw [ltvAll]
    | cons x xs ih =>
      intro hd
      rw [ltvAll_cons, if_pos ((o.eqv x x (hd x List.mem_cons_self) (hd x List.mem_cons_self)).mpr rfl)]
      exact ih fun z hz => hd z (List.mem_cons_of_mem _ hz)
  tot := by
    intro d
    induction d with
    | nil =>
      intro e _ _ h1 h2
      cases e with
      | nil => rfl
      | cons y ys => rw [ltvAll] at h1; cases h1
    | cons x xs ih =>
      intro e hd he h1 h2
      cases e with
      | nil => rw [ltvAll] at h2; cases h2
      | cons y ys =>
        have sx := hd x List.mem_cons_self
        have sy := he y List.mem_cons_self
        rw [ltvAll_cons] at h1 h2
        by_cases e1 : x = y
        · subst e1
          rw [if_pos ((o.eqv x x sx sx).mpr rfl)] at h1 h2
          rw [ih ys (fun z hz => hd z (List.mem_cons_of_mem _ hz)) (fun z hz => he z (List.mem_cons_of_mem _ hz)) h1 h2]
        · rw [if_neg (fun z => e1 ((o.eqv x y sx sy).mp z))] at h1
          rw [if_neg (fun z => e1 ((o.eqv y x sy sx).mp z).symm)] at h2
          exact absurd (o.tot x y sx sy h1 h2) e1
  trans := by
    intro d
    induction d with
    | nil =>
      intro e f _ _ _ h1 h2
      cases f with
      | nil => cases e <;> (rw [ltvAll] at h2; cases h2)
      | cons z zs => rw [ltvAll]
    | cons x xs ih =>
      intro e f hd he hf h1 h2
      cases e with
      | nil => rw [ltvAll] at h1; cases h1
      | cons y ys =>
        cases f with
        | nil => rw [ltvAll] at h2; cases h2
        | cons z zs =>
          have sx := hd x List.mem_cons_self
          have sy := he y List.mem_cons_self
          have sz := hf z List.mem_cons_self
          rw [ltvAll_cons] at h1 h2 ⊢
          by_cases e1 : x = y
          · subst e1
            rw [if_pos ((o.eqv x x sx sx).mpr rfl)] at h1
            by_cases e2 : x = z
            · subst e2
              rw [if_pos ((o.eqv x x sx sx).mpr rfl)] at h2 ⊢
              exact ih ys zs (fun w hw => hd w (List.mem_cons_of_mem _ hw)) (fun w hw => he w (List.mem_cons_of_mem _ hw)) (fun w hw => hf w (List.mem_cons_of_mem _ hw)) h1 h2
            · rw [if_neg (fun w => e2 ((o.eqv x z sx sz).mp w))] at h2 ⊢
              exact h2
          · rw [if_neg (fun w => e1 ((o.eqv x y sx sy).mp w))] at h1
            by_cases e2 : y = z
            · subst e2
              rw [if_neg (fun w => e1 ((o.eqv x y sx sy).mp w))]
              exact h1
            · rw [if_neg (fun w => e2 ((o.eqv y z sy sz).mp w))] at h2
              by_cases e3 : x = z
              · subst e3
                have := o.asymm sx sy h1
                rw [this] at h2; cases h2
              · rw [if_neg (fun w => e3 ((o.eqv x z sx sz).mp w))]
                exact o.trans x y z sx sy sz h1 h2
theorem str_lt_tri {x y : Str} (h1 : decide (x.cps.toList < y.cps.toList) = false) (h2 : decide (y.cps.toList < x.cps.toList) = false) : x = y := by
  have e : x.cps.toList = y.cps.toList := List.le_antisymm (by simpa using h2) (by simpa using h1)
  cases x; cases y
  simp only [Str.mk.injEq]
  exact Array.toList_inj.mp e
theorem Sh.ok : ∀ sh : Sh, ShOk sh.has
  | .int => by
    refine ⟨?_, ?_, ?_, ?_, ?_⟩
    · rintro _ _ ⟨i, rfl⟩ ⟨j, rfl⟩; rw [cmpb]
    · rintro _ _ ⟨i, rfl⟩ ⟨j, rfl⟩; simp [PyData.eqv]
    · rintro _ ⟨i, rfl⟩; rw [ltv]; simp
    · rintro _ _ ⟨i, rfl⟩ ⟨j, rfl⟩ h1 h2
      rw [ltv] at h1 h2
      have : i = j := by simp at h1 h2; lia
      rw [this]
    · rintro _ _ _ ⟨i, rfl⟩ ⟨j, rfl⟩ ⟨k, rfl⟩ h1 h2
      rw [ltv] at h1 h2 ⊢
      simp at h1 h2 ⊢; lia
  | .str => by
    refine ⟨?_, ?_, ?_, ?_, ?_⟩
    · rintro _ _ ⟨i, rfl⟩ ⟨j, rfl⟩; rw [cmpb]
    · rintro _ _ ⟨i, rfl⟩ ⟨j, rfl⟩; simp [PyData.eqv]
    · rintro _ ⟨i, rfl⟩; rw [ltv]; exact decide_eq_false (List.lt_irrefl _)
    · rintro _ _ ⟨i, rfl⟩ ⟨j, rfl⟩ h1 h2
      rw [ltv] at h1 h2
      rw [str_lt_tri h1 h2]
    · rintro _ _ _ ⟨i, rfl⟩ ⟨j, rfl⟩ ⟨k, rfl⟩ h1 h2
      rw [ltv] at h1 h2 ⊢
      exact decide_eq_true (List.lt_trans (of_decide_eq_true h1) (of_decide_eq_true h2))
  | .list e => by
    have L := list_lex (a := .none) (b := .none) (Sh.ok e)
    refine ⟨?_, ?_, ?_, ?_, ?_⟩
    · rintro _ _ ⟨i, rfl, hi⟩ ⟨j, rfl, hj⟩; rw [cmpb]; exact L.cmp i j hi hj
    · rintro _ _ ⟨i, rfl, hi⟩ ⟨j, rfl, hj⟩; rw [PyData.eqv, L.eqv i j hi hj]; simp
    · rintro _ ⟨i, rfl, hi⟩; rw [ltv]; exact L.irr i hi
    · rintro _ _ ⟨i, rfl, hi⟩ ⟨j, rfl, hj⟩ h1 h2
      rw [ltv] at h1 h2
      rw [L.tot i j hi hj h1 h2]
    · rintro _ _ _ ⟨i, rfl, hi⟩ ⟨j, rfl, hj⟩ ⟨k, rfl, hk⟩ h1 h2
      rw [ltv] at h1 h2 ⊢
      exact L.trans i j k hi hj hk h1 h2
  | .tnil => by
    refine ⟨?_, ?_, ?_, ?_, ?_⟩
    · rintro _ _ rfl rfl; rw [cmpb, cmpAll]
    · rintro _ _ rfl rfl; simp [PyData.eqv, PyData.eqvAll]
    · rintro _ rfl; rw [ltv, ltvAll]
    · rintro _ _ rfl rfl _ _; rfl
    · rintro _ _ _ rfl rfl rfl h1 h2; rw [ltv, ltvAll] at h1; cases h1
  | .tcons a r => by
    have oa := Sh.ok a
    have or := Sh.ok r
    refine ⟨?_, ?_, ?_, ?_, ?_⟩
    · rintro _ _ ⟨x, xs, rfl, hx, hxs⟩ ⟨y, ys, rfl, hy, hys⟩
      have := or.cmp _ _ hxs hys
      rw [cmpb] at this ⊢
      rw [cmpAll_cons]
      split
      · exact this
      · exact oa.cmp x y hx hy
    · rintro _ _ ⟨x, xs, rfl, hx, hxs⟩ ⟨y, ys, rfl, hy, hys⟩
      have := or.eqv _ _ hxs hys
      rw [PyData.eqv] at this ⊢
      rw [PyData.eqvAll, Bool.and_eq_true, oa.eqv x y hx hy, this]
      simp
    · rintro _ ⟨x, xs, rfl, hx, hxs⟩
      have := or.irr _ hxs
      rw [ltv] at this ⊢
      rw [ltvAll_cons, if_pos ((oa.eqv x x hx hx).mpr rfl)]
      exact this
    · rintro _ _ ⟨x, xs, rfl, hx, hxs⟩ ⟨y, ys, rfl, hy, hys⟩ h1 h2
      have ih := or.tot _ _ hxs hys
      rw [ltv] at h1 h2 ih
      rw [ltv] at ih
      rw [ltvAll_cons] at h1 h2
      by_cases e1 : x = y
      · subst e1
        rw [if_pos ((oa.eqv x x hx hx).mpr rfl)] at h1 h2
        have := ih h1 h2
        injection this with this
        rw [this]
      · rw [if_neg (fun w => e1 ((oa.eqv x y hx hy).mp w))] at h1
        rw [if_neg (fun w => e1 ((oa.eqv y x hy hx).mp w).symm)] at h2
        exact absurd (oa.tot x y hx hy h1 h2) e1
    · rintro _ _ _ ⟨x, xs, rfl, hx, hxs⟩ ⟨y, ys, rfl, hy, hys⟩ ⟨z, zs, rfl, hz, hzs⟩ h1 h2
      have ih := or.trans _ _ _ hxs hys hzs
      rw [ltv, ltv, ltv] at ih
      rw [ltv] at h1 h2 ⊢
      rw [ltvAll_cons] at h1 h2 ⊢
      by_cases e1 : x = y
      · subst e1
        rw [if_pos ((oa.eqv x x hx hx).mpr rfl)] at h1
        by_cases e2 : x = z
        · subst e2
          rw [if_pos ((oa.eqv x x hx hx).mpr rfl)] at h2 ⊢
          exact ih h1 h2
        · rw [if_neg (fun w => e2 ((oa.eqv x z hx hz).mp w))] at h2 ⊢
          exact h2
      · rw [if_neg (fun w => e1 ((oa.eqv x y hx hy).mp w))] at h1
        by_cases e2 : y = z
        · subst e2
          rw [if_neg (fun w => e1 ((oa.eqv x y hx hy).mp w))]
          exact h1
        · rw [if_neg (fun w => e2 ((oa.eqv y z hy hz).mp w))] at h2
          by_cases e3 : x = z
          · subst e3
            have := oa.asymm hx hy h1
            rw [this] at h2; cases h2
          · rw [if_neg (fun w => e3 ((oa.eqv x z hx hz).mp w))]
            exact oa.trans x y z hx hy hz h1 h2
theorem sorted_unique {S : PyData → Prop} (o : ShOk S) : ∀ {l l' : List PyData}, (∀ x ∈ l, S x) → l.Perm l' → l.Pairwise (fun a b => ltv b a = false) → l'.Pairwise (fun a b => ltv b a = false) → l = l' := by
  intro l l' hS hp h1 h2
  refine List.Perm.eq_of_pairwise (le := fun a b => ltv b a = false) ?_ h1 h2 hp
  intro a b ha hb x y
  exact o.tot a b (hS a ha) (hS b (hp.mem_iff.mpr hb)) y x
end L2
namespace L2
open PySem PySem.Spec PyProof.Rows PySem.W
inductive FirstK : Sh → Bool → Prop
  | int : FirstK .int true
  | str : FirstK .str true
  | tnil : FirstK .tnil false
  | tcons (a r : Sh) : FirstK (.tcons a r) false
section
variable {X : Cx} {pins : List (Addr × Obj)} {σ : St} {H : Hp} {s : Shared}
theorem vals_getD {xs : List V} {us : List Value} (r : Vals xs us) (i : Nat) : RelV (xs.getD i .non) (us.getD i .none) := by
  rw [List.getD_eq_getElem?_getD, List.getD_eq_getElem?_getD]
  cases e : xs[i]? with
  | none => rw [r.none_of e]; rfl
  | some x =>
    obtain ⟨u, hu, ru⟩ := r.get e
    rw [hu]; exact ru
theorem Dens.getD' {K : PySem.W.Frag} {xs : List V} {ds : List PyData} (h : Dens K H xs ds) (i : Nat) (hi : i < ds.length) : Den K H (xs.getD i .non) (ds.getD i .none) := by
  have e : ds[i]? = some ds[i] := by simp [hi]
  obtain ⟨x, hx, hd⟩ := h.getD e
  rw [List.getD_eq_getElem?_getD, List.getD_eq_getElem?_getD, hx, e]
  exact hd
theorem firsts {a r : Sh} : ∀ {ks : List V} {us : List Value} {kds : List PyData}, Inv X pins σ H s → Vals ks us → Dens X.K H ks kds → (∀ d ∈ kds, (Sh.tcons a r).has d) →
    ∃ fs : List Value, KatTups s.heap us fs ∧ fs.length = us.length ∧ ∀ f ∈ fs, ∃ d as, a.has d ∧ Reads s.heap f d as
  | _, _, _, I, .nil, .nil, _ => ⟨[], .nil, rfl, fun _ h => by cases h⟩
  | _, _, _, I, .cons rv rr, .cons hd ht, hs => by
    obtain ⟨fs, h1, h2, h3⟩ := firsts I rr ht fun d hd => hs d (List.mem_cons_of_mem _ hd)
    obtain ⟨x, ds, e, hx, _⟩ := hs _ List.mem_cons_self
    subst e
    cases hd with
    | tup hq t =>
      cases rv
      obtain ⟨its, rv', ⟨o, eo, c, n, dt⟩, _⟩ := I.tuple hq
      cases t with
      | cons hd0 t0 =>
        cases rv' with
        | @cons v0 u0 vs0 us0 r0 rr0 =>
          obtain ⟨as, ra⟩ := I.reads hd0 r0
          refine ⟨u0 :: fs, .cons eo c dt (by simp) h1, by simp [h2], fun f hf => ?_⟩
          rcases List.mem_cons.mp hf with e | hf
          · subst e; exact ⟨x, as, hx, ra⟩
          · exact h3 f hf
theorem first_looks {a : Sh} {b : Bool} (hf : FirstK a b) : ∃ T : Value, (T == T) = true ∧ (T != Value.type "tuple") = b ∧ ∀ (M : Model) (h : Heap) (f : Value) (d : PyData) (as : List Addr), a.has d → Reads h f d as → Looks M h (typeOf f) T := by
  cases hf with
  | int => exact ⟨.type "int", by decide, by decide, fun M h f d as hd r => by obtain ⟨i, rfl⟩ := hd; cases r; exact .of_pure rfl⟩
  | str => exact ⟨.type "str", by decide, by decide, fun M h f d as hd r => by obtain ⟨i, rfl⟩ := hd; cases r; exact .of_pure rfl⟩
  | tnil => exact ⟨.type "tuple", by decide, by decide, fun M h f d as hd r => by
      have e : d = .tuple [] := hd
      subst e
      cases r with
      | tuple h1 h2 h3 h4 => rw [← h2]; exact (Looks.ld h1).andThen .now⟩
  | tcons a r => exact ⟨.type "tuple", by decide, by decide, fun M h f d as hd r => by
      obtain ⟨x, ds, rfl, _, _⟩ := hd
      cases r with
      | tuple h1 h2 h3 h4 => rw [← h2]; exact (Looks.ld h1).andThen .now⟩
theorem sort_engine {a r : Sh} {b : Bool} {A : Around} (hf : FirstK a b) {ks : List V} {us : List Value} {kds : List PyData} (I : Inv X pins σ H s) (hv : Vals ks us) (hd : Dens X.K H ks kds) (hs : ∀ d ∈ kds, (Sh.tcons a r).has d) (hdep : ∀ d ∈ kds, d.depth ≤ 100)
    (h2 : 2 ≤ us.length) (hu : A.units + 101 < cLine) {G : Array Nat → Shared → Prop}
    (h : ∀ p : Array Nat, p.toList.Perm (List.range us.length) → (∀ i j, i ≤ j → j < us.length → ltv (kds.getD (p.getD j 0) .none) (kds.getD (p.getD i 0) .none) = false) → G p s) :
    wpAny (model X.prog X.w) A (keyKind' us.toArray) (fun κ s' => (kas_sort us.length).kasWp (kas_ask X.prog X.w A κ us) G s') (fun _ _ => False) s := by
  obtain ⟨fs, t1, t2, t3⟩ := firsts I hv hd hs
  obtain ⟨T, hT1, hT2, hT3⟩ := first_looks hf
  refine kat_kind t1 (by lia) (fun f hf => ?_) hT1 ?_
  · obtain ⟨d, as, x, y⟩ := t3 f hf
    exact hT3 _ _ f d as x y
  rw [hT2]
  have l1 : us.length = kds.length := by rw [← hv.length]; exact hd.length
  have o := Sh.ok (.tcons a r)
  have hget : ∀ i, i < us.length → (Sh.tcons a r).has (kds.getD i .none) := fun i hi => by
    have e : kds[i]? = some kds[i] := by simp [← l1, hi]
    (rw [List.getD_eq_getElem?_getD, e])
    exact hs _ (List.getElem_mem _)
  have hdp : ∀ i, i < us.length → (kds.getD i .none).depth ≤ 100 := fun i hi => by
    have e : kds[i]? = some kds[i] := by simp [← l1, hi]
    (rw [List.getD_eq_getElem?_getD, e])
    exact hdep _ (List.getElem_mem _)
  refine sort_wp (n := us.length) (lt := fun i j => ltv (kds.getD i .none) (kds.getD j .none)) (P := fun s' => s' = s) ⟨fun i hi => o.irr _ (hget i hi), fun i j k hi hj hk q => o.neg (hget i hi) (hget j hj) (hget k hk) q, fun i j hi hj q => o.asymm (hget i hi) (hget j hj) q⟩
    (fun i j C s' hi hj e q => ?_) (by lia) rfl fun p s' e hp up => by subst e; exact h p hp up
  subst e
  show wpAny (model X.prog X.w) A (keyLt' (tuples' b) (us.getD i .none) (us.getD j .none)) C (fun _ _ => False) s'
  have di := hd.getD' i (by lia)
  have dj := hd.getD' j (by lia)
  have ri := vals_getD hv i
  have rj := vals_getD hv j
  have hi' := hget i hi
  have hj' := hget j hj
  have pi := hdp i hi
  have qq := q s' rfl
  have cc := o.cmp _ _ hi' hj'
  have lyi := di.lay
  have lyj := dj.lay
  revert di dj hi' hj' pi qq cc lyi lyj
  generalize kds.getD i .none = d
  generalize kds.getD j .none = e
  intro di dj hi' hj' pi qq cc lyi lyj
  obtain ⟨x, ds, rfl, hx, _⟩ := hi'
  obtain ⟨y, es, rfl, hy, _⟩ := hj'
  revert di dj ri rj
  generalize ks.getD i .non = vi
  generalize ks.getD j .non = vj
  generalize us.getD i .none = ui
  generalize us.getD j .none = uj
  intro ri rj di dj
  cases di with
  | tup qi ti =>
    cases dj with
    | tup qj tj =>
      cases ri
      cases rj
      obtain ⟨its, rv, ⟨oi, ei, ci, ni, dti⟩, _⟩ := I.tuple qi
      obtain ⟨jts, rw', ⟨oj, ej, cj, nj, dtj⟩, _⟩ := I.tuple qj
      obtain ⟨as, ra⟩ := I.readsAll ti rv
      obtain ⟨bs, rb⟩ := I.readsAll tj rw'
      rw [ltv] at qq
      rw [cmpb] at cc
      rw [PyData.depth] at pi
      refine keyLt_data ei dti ej dtj (by simpa using ra) (by simpa using rb) lyi lyj cc (fun d0 e0 h1 h3 hb => ?_) (by lia) qq
      have e1 : x = d0 := by simpa using h1
      have e2 : y = e0 := by simpa using h3
      subst e1 e2
      cases hf with
      | int => obtain ⟨p, rfl⟩ := hx; obtain ⟨q, rfl⟩ := hy; exact .inl ⟨p, q, rfl, rfl⟩
      | str => obtain ⟨p, rfl⟩ := hx; obtain ⟨q, rfl⟩ := hy; exact .inr ⟨p, q, rfl, rfl⟩
      | tnil => cases hb
      | tcons _ _ => cases hb
theorem Inv.adopt {h' : Heap} {t' : Nat} {wr : List Addr} {a : Addr} {o : HO} (I : Inv X pins σ H s) (hf : ∀ b ∈ wr, FpOk X pins H b) (ha : a ∈ wr) (k : ∀ b o, b ∉ wr → s.heap.get? b = some o → h'.get? b = some o)
    (new : ObjOk X.prog X.w (upd H a o) h' a o) : Inv X pins σ (upd H a o) { s with heap := h', toks := t' } := by
  have nit : ∀ b u, H b = some u → b ∉ wr := fun b u e z => by rw [(hf b z).1] at e; cases e
  have hfr : H a = none := (hf a ha).1
  refine I.step (g' := s.gens) (d' := s.drawn) (ch := wr) (fun b hb => ⟨(hf b hb).2.2.2.1, (hf b hb).2.1, (hf b hb).2.2.2.2.1, (hf b hb).2.2.2.2.2⟩) (fun b o _ _ hc e _ => k b o hc e) (fun b o _ _ hc e _ => ⟨o.slots, k b o hc e⟩)
    (fun b ob hc e n => by rw [upd_ne (show b ≠ a from fun z => hc (by rw [z]; exact ha))]; exact n)
    (fun b o hc e => ⟨o, k b o hc e⟩) (fun b xs e => by rw [upd_ne (ne_of_none e hfr)]; exact e) (fun b ob u e => by rw [upd_ne (ne_of_none e hfr)]; exact e) (fun b ps e => ⟨#[], by rw [upd_ne (ne_of_none e hfr), e]; simp⟩) (fun m hm => ?_) (fun b u e => ?_) I.bare
  · obtain ⟨o, es, ep, ho, r⟩ := hm
    exact ⟨o, es, ep, k _ o (fun z => (hf _ z).2.1 rfl) ho, r⟩
  · by_cases hb : b = a
    · subst hb; rw [upd_same] at e; cases e; exact new
    · rw [upd_ne hb] at e
      refine (I.hok b u e).stay (fun c v hc q => k c v ?_ q) (fun c q => by rw [upd_ne (ne_of_none q hfr)]; exact q) fun c xs q => by rw [upd_ne (ne_of_none q hfr)]; exact q
      rcases hc with z | z
      · rw [z]; exact nit b u e
      · exact nit c _ z
end
end L2
namespace L2
open PySem PySem.Spec PyProof.Rows PySem.W
section
variable {X : Cx} {pins : List (Addr × Obj)} {σ : St} {H : Hp} {s : Shared}
def picked (xs : List V) (p : List Nat) : List V := p.map fun i => xs.getD i .non
theorem vals_picked {xs : List V} {us : List Value} (r : Vals xs us) : ∀ p : List Nat, Vals (picked xs p) (p.map fun i => us.getD i .none)
  | [] => .nil
  | i :: p => .cons (vals_getD r i) (vals_picked r p)
theorem picked_len (xs : List V) (p : List Nat) : (picked xs p).length = p.length := by simp [picked]
theorem range_picked {α : Type} (us : List α) (d : α) : (List.range us.length).map (fun i => us.getD i d) = us := by
  apply List.ext_getElem
  · simp
  · intro i h1 h2
    simp [h2]
def InOrd (kds : List PyData) (p : List Nat) : Prop := (p.map fun i => kds.getD i .none).Pairwise fun a b => ltv b a = false
theorem inord_of {kds : List PyData} {p : Array Nat} {n : Nat} (hn : p.toList.length = n) (h : ∀ i j, i ≤ j → j < n → ltv (kds.getD (p.getD j 0) .none) (kds.getD (p.getD i 0) .none) = false) : InOrd kds p.toList := by
  unfold InOrd
  (rw [List.pairwise_iff_getElem])
  intro i j hi hj hij
  simp only [List.getElem_map]
  have hi' : i < p.size := by simpa using hi
  have hj' : j < p.size := by simpa using hj
  have := h i j (by lia) (by simp at hn; lia)
  have e1 : p.getD i 0 = p[i] := by simp [Array.getD, hi']
  have e2 : p.getD j 0 = p[j] := by simp [Array.getD, hj']
  rw [e1, e2] at this
  simpa using this
theorem inord_short {kds : List PyData} {n : Nat} (hn : n < 2) : InOrd kds (List.range n) := by
  unfold InOrd
  match n, hn with
  | 0, _ => simp
  | 1, _ => simp
theorem sort_opened {D : Addr} {n0 : Nat} {vs : List Value} (I : Inv X pins σ H s) (ho : s.heap.get? D = some (seqObj "list" vs.toArray n0)) (fD : FpOk X pins H D) :
    ∃ e1, (s.heap.update D (Obj.mapSeq fun _ => (#[] : Array Value))).get? D = some (seqObj "list" #[] e1) ∧
      ∀ h3, h3 = ((s.heap.update D (Obj.mapSeq fun _ => (#[] : Array Value))).push (seqObj "tuple" vs.toArray 0)).push (seqObj "list" #[] 0) → h3.get? D = some (seqObj "list" #[] e1) ∧ Inv X pins σ H { s with heap := h3 } := by
  have gone := get?_update_seq ho fun _ => (#[] : Array Value)
  have rest := (Heap.SameBut.update s.heap D (Obj.mapSeq fun _ => (#[] : Array Value))).2
  generalize s.heap.update D (Obj.mapSeq fun _ => (#[] : Array Value)) = h1 at gone rest
  refine ⟨_, gone, fun h3 e3 => ?_⟩
  have up : ∀ c o, h1.get? c = some o → h3.get? c = some o := fun c o e => e3 ▸ Heap.get?_push_of_some _ (Heap.get?_push_of_some _ e)
  refine ⟨up D _ gone, I.turnedL (t' := s.toks) (wr := [D]) (fun c hc => ?_) fun c o hc e => up c o ((rest c fun z => hc (z ▸ List.mem_singleton.mpr rfl)).trans e)⟩
  rw [List.mem_singleton.mp hc]
  exact fD
theorem lsort_by {A : Around} {D : Addr} {n0 : Nat} {xs : List V} {vs : List Value} {ds : List PyData} {P : PySem.Fin → Shared → Prop} {E : Value → Shared → Prop} (I : Inv X pins σ H s) (ho : s.heap.get? D = some (seqObj "list" vs.toArray n0)) (fD : FpOk X pins H D)
    (hv : Vals xs vs) (eng : ∀ (s' : Shared) (G : Array Nat → Shared → Prop), Inv X pins σ H s' → 2 ≤ vs.length → (∀ p : Array Nat, p.toList.Perm (List.range vs.length) → (∀ i j, i ≤ j → j < vs.length → ltv (ds.getD (p.getD j 0) .none) (ds.getD (p.getD i 0) .none) = false) → G p s') → wpAny (model X.prog X.w) A (keyKind' vs.toArray) (fun κ s'' => (kas_sort vs.length).kasWp (kas_ask X.prog X.w A κ vs) G s'') (fun _ _ => False) s') (h64 : vs.length < 64)
    (h : ∀ (p : List Nat) (h' : Heap), p.Perm (List.range xs.length) → InOrd ds p → Inv X pins σ (upd H D (.lst (picked xs p))) { s with heap := h' } → P (.done (.ret .none)) { s with heap := h' }) :
    wpAny (model X.prog X.w) A (Builtin.«list.sort» ⟨[.ref D], []⟩) P E s := by
  have hlen := hv.length
  obtain ⟨e1, ho1, at3⟩ := sort_opened I ho fD
  rw [list_sort_plain]
  refine wpAny_bind (listItems_at ho rfl (wpAny_bind (listUpdate_at ho rfl (wpAny_bind (seqEpoch_at ho1 rfl (wpAny_bind (wpAny_newTuple (wpAny_bind (wpAny_newList (wpAny_holding ?main) (Nat.zero_le _))) ?short)))) ?few (Nat.zero_le _))))
  case short => show vs.length ≤ _; rw [sizeLine_eq]; lia
  case few => rw [List.size_toArray, sizeLine_eq]; lia
  case main =>
  show wpAny (model X.prog X.w) A _ P E { s with heap := ((s.heap.update D (Obj.mapSeq fun _ => (#[] : Array Value))).push (seqObj "tuple" vs.toArray 0)).push (seqObj "list" #[] 0) }
  generalize hh3 : ((s.heap.update D (Obj.mapSeq fun _ => (#[] : Array Value))).push (seqObj "tuple" vs.toArray 0)).push (seqObj "list" #[] 0) = h3
  obtain ⟨hD3, I3⟩ := at3 h3 hh3.symm
  have fin : ∀ (p : List Nat) (out : Array Value), p.Perm (List.range xs.length) → InOrd ds p → out = List.toArray (p.map fun i => vs.getD i Value.none) →
      P (.done (.ret .none)) { s with heap := h3.update D (Obj.mapSeq fun _ => out) } := fun p out hp hord eo => by
    have sb := Heap.SameBut.update h3 D (Obj.mapSeq fun _ => out)
    obtain ⟨c2, hc2⟩ : ∃ c2, (h3.update D (Obj.mapSeq fun _ => out)).get? D = some (seqObj "list" out c2) := ⟨_, get?_update_seq hD3 fun _ => out⟩
    have pl : p.length = xs.length := by rw [hp.length_eq]; simp
    refine h p _ hp hord (I3.adopt (t' := s.toks) (wr := [D]) (a := D) (fun c hc => by rw [show c = D by simpa using hc]; exact fD) (by simp) (fun c o hc e => (sb.2 c (by simpa using hc)).trans e) ?_)
    refine ⟨by rw [picked_len, pl, sizeLine_eq]; lia, p.map fun i => vs.getD i Value.none, c2, vals_picked hv p, ?_⟩
    rw [hc2, eo]
  dsimp only
  by_cases hn2 : vs.toArray.size < 2
  · rw [if_pos hn2, if_pos hn2]
    refine wpAny_bind (wpAny_pure ?_)
    refine wpAny_bind ?_
    show wpAny _ _ ((pure () : StateT SortSt Sem Unit).run _) _ _ _
    rw [StateT.run_pure]
    refine wpAny_pure ?_
    dsimp only
    refine wpAny_bind (seqEpoch_at hD3 rfl ?_)
    have hout : (arrOf (SortSt.mk' general' (vs.toArray.zip vs.toArray) #[] 7 none)).map (·.2) = vs.toArray := by
      show (vs.toArray.zip vs.toArray).map (·.2) = vs.toArray
      apply Array.toList_inj.mp
      simp [List.map_snd_zip]
    rw [hout]
    refine wpAny_bind (listUpdate_at hD3 rfl ?_ (Nat.zero_le _) (by show vs.toArray.size ≤ _; rw [List.size_toArray, sizeLine_eq]; lia))
    (simp only [bne_self_eq_false, Bool.false_eq_true, if_false])
    refine wpAny_pure (fin (List.range xs.length) _ (List.Perm.refl _) (inord_short (by rw [List.size_toArray] at hn2; lia)) ?_)
    rw [hlen, range_picked]
  · rw [if_neg hn2, if_neg hn2]
    have h2 : 2 ≤ vs.length := by rw [List.size_toArray] at hn2; lia
    refine wpAny_bind (wpAny_mono (eng _ (fun p s' => s' = { s with heap := h3 } ∧ p.toList.Perm (List.range vs.length) ∧ InOrd ds p.toList) I3 h2 fun p hp up => ⟨rfl, hp, inord_of (by rw [hp.length_eq]; simp) up⟩) (fun κ s0 hk => ?_) fun _ _ x => x.elim)
    refine wpAny_bind (wpAny_mono (kat_run (Q := fun st' s' => ∃ p : Array Nat, arrOf st' = p.map (kas_item (vs.toArray.zip vs.toArray)) ∧ failedOf st' = none ∧ s' = { s with heap := h3 } ∧ p.toList.Perm (List.range vs.length) ∧ InOrd ds p.toList)
      rfl h2 h64 (fun p' st' s' a1 a2 a3 a4 => ⟨p', a2, a3, a4⟩) hk) ?_ fun _ _ e => e)
    rintro ⟨⟨⟩, st'⟩ s' ⟨p, har, hfl, rfl, hp, hord⟩
    dsimp only
    have hout := kat_snds rfl har
    rw [hout]
    refine wpAny_bind (seqEpoch_at hD3 rfl ?_)
    refine wpAny_bind (listUpdate_at hD3 rfl ?_ (Nat.zero_le _) (by rw [List.size_toArray, List.length_map, hp.length_eq, List.length_range, sizeLine_eq]; lia))
    rw [hfl]
    (simp only [bne_self_eq_false, Bool.false_eq_true, if_false])
    exact wpAny_pure (fin p.toList _ (by rw [hlen]; exact hp) hord rfl)
theorem lsort_plain {a r : Sh} {b : Bool} {A : Around} {D : Addr} {n0 : Nat} (hf : FirstK a b) {xs : List V} {vs : List Value} {ds : List PyData} {P : PySem.Fin → Shared → Prop} {E : Value → Shared → Prop} (I : Inv X pins σ H s) (ho : s.heap.get? D = some (seqObj "list" vs.toArray n0)) (fD : FpOk X pins H D)
    (hv : Vals xs vs) (hd : Dens X.K H xs ds) (hs : ∀ d ∈ ds, (Sh.tcons a r).has d) (hdep : ∀ d ∈ ds, d.depth ≤ 100) (h64 : vs.length < 64) (hu : A.units + 101 < cLine)
    (h : ∀ (p : List Nat) (h' : Heap), p.Perm (List.range xs.length) → InOrd ds p → Inv X pins σ (upd H D (.lst (picked xs p))) { s with heap := h' } → P (.done (.ret .none)) { s with heap := h' }) :
    wpAny (model X.prog X.w) A (Builtin.«list.sort» ⟨[.ref D], []⟩) P E s :=
  lsort_by I ho fD hv (fun s' G I' h2 hG => sort_engine (A := A) hf I' hv hd hs hdep h2 hu hG) h64 h
def copied (h : Heap) (vs : List Value) : Heap := (h.push (seqObj "list" #[] 0)).update h.objs.size (Obj.mapSeq (· ++ vs.toArray))
theorem copied_size (h : Heap) (vs : List Value) : (copied h vs).objs.size = h.objs.size + 1 := (Heap.size_update ..).trans (size_push' _ _)
theorem copied_at (h : Heap) (vs : List Value) : ((copied h vs).push (seqObj "list" vs.toArray 0)).get? (h.objs.size + 1) = some (seqObj "list" vs.toArray 0) := by
  have q : ((copied h vs).push (seqObj "list" vs.toArray 0)).get? (copied h vs).objs.size = some (seqObj "list" vs.toArray 0) := Heap.get?_push_size _ rfl
  rwa [copied_size] at q
theorem copied_keep (h : Heap) (vs : List Value) : ∀ b o, h.get? b = some o → ((copied h vs).push (seqObj "list" vs.toArray 0)).get? b = some o := fun b o q =>
  Heap.get?_push_of_some _ (((Heap.SameBut.update (h.push (seqObj "list" #[] 0)) h.objs.size (Obj.mapSeq (· ++ vs.toArray))).2 b (Nat.ne_of_lt (Heap.lt_size q))).trans (Heap.get?_push_of_some _ q))
def rSorted (K : PySem.W.Frag) (a r : Sh) : List V → Hp → VK → Prop := fun vs H Q => ∃ l xs ds, vs = [.ref l] ∧ SqL K H l xs ∧ xs.length < 64 ∧ Dens K H xs ds ∧ (∀ d ∈ ds, (Sh.tcons a r).has d) ∧ (∀ d ∈ ds, d.depth ≤ 100) ∧
  ∀ (D : Addr) (p : List Nat), H D = none → p.Perm (List.range xs.length) → InOrd ds p → Q (.ref D) (upd H D (.lst (picked xs p)))
theorem call_sorted {a r : Sh} {b : Bool} {k : Nat} (hf : FirstK a b) (hr : Room k X.A) : CallR X (.builtin "sorted") (rSorted X.K a r) := by
  intro pins s σ H xs us Q I rv h
  obtain ⟨l, ys, ds, rfl, hq, h64, hd, hs, hdep, q⟩ := h
  obtain ⟨u, rfl, ru⟩ := rv.one
  cases ru
  obtain ⟨vs, r, pl, _⟩ := I.list hq
  have hlen := r.length
  (refine Calls.call_function_entry kind_sorted plain_sorted entry_sorted (args_sorted1 _) ?_)
  unfold Builtin.«sorted»
  (refine wpAny_bind (m := checkCount "sorted" 1 1 _) (wpAny_pure ?_))
  refine wpAny_bind (collect_list pl.isList ?_ (by rw [sizeLine_eq]; lia))
  (refine wpAny_bind (wpAny_newList ?_ (by rw [sizeLine_eq]; lia)))
  have hsz := copied_size s.heap vs
  have hoL := copied_at s.heap vs
  have keep := copied_keep s.heap vs
  show wpAny _ _ _ _ _ { s with heap := (copied s.heap vs).push (seqObj "list" vs.toArray 0) }
  show wpAny _ _ (_ >>= fun _ => _) _ _ { s with heap := (copied s.heap vs).push (seqObj "list" vs.toArray 0) }
  rw [show ((s.heap.push (seqObj "list" #[] 0)).update s.heap.objs.size (Obj.mapSeq (· ++ vs.toArray))).objs.size = s.heap.objs.size + 1 from hsz]
  generalize (copied s.heap vs).push (seqObj "list" vs.toArray 0) = h2 at hoL keep ⊢
  have I2 : Inv X pins σ H { s with heap := h2 } := I.kept (t' := s.toks) keep
  have hDn : H (s.heap.objs.size + 1) = none := I.hok.fresh (Nat.le_succ _)
  have fD : FpOk X pins H (s.heap.objs.size + 1) := I.fpOk (Nat.le_succ _) hDn
  (refine wpAny_bind (wpAny_holding (wpAny_call_entry slot_list_sort ⟨_, hoL, rfl⟩ entry_list_sort ?body (args_list_sort _))))
  case body =>
    refine lsort_plain (s := { s with heap := h2 }) hf I2 hoL fD r hd hs hdep (by lia) (by show X.A.units + 1 + 1 + 101 < cLine; have := hr.un; lia) fun p h' hp hord I' => ?_
    refine ⟨_, rfl, wpAny_pure ⟨_, rfl, ?_⟩⟩
    exact ⟨.ref _, _, I', rfl, q _ p hDn hp hord⟩
def tKeys (sp : Sp) : List V → List V → Hp → (List V → Hp → Prop) → Prop
  | [], ks, H, Q => Q ks H
  | x :: r, ks, H, Q => sp [x] H (fun k H' => tKeys sp r (ks ++ [k]) H' Q) E0
theorem ksort_keys {k : Nat} {f D kS : Addr} {fd : FuncData} {ps : List Str} {sp : Sp} {oD : Obj} {xs : List V} {vs : List Value} {Qk : List V → Hp → Prop} {e0 : Nat} {body : Value → PUnit → Sem (ForInStep PUnit)} {E : Value → Shared → Prop} {R : PUnit → Shared → Prop}
    (F : FnOk X.prog X.w X.K X.mg X.base CX0 k f fd ps sp) (hr : Room (k + 2) X.A) (hb : Binds X.K fd ps []) (hne : D ≠ kS) (hD : ∀ v, oD.data ≠ .cell v)
    (hbody : ∀ x (us : List Value) e (s : Shared) (C : Value → Shared → Prop), us.length < 64 → s.heap.get? kS = some (seqObj "list" us.toArray e) → wpAny (model X.prog X.w) X.A.in1.in1 (call (.ref f) [x]) (fun k s' => ∃ (us' : List Value) (e' : Nat), us'.length < 64 ∧ s'.heap.get? kS = some (seqObj "list" us'.toArray e') ∧ C k s') (fun _ _ => False) s →
      wpAny (model X.prog X.w) X.A.in1.in1 (body x ⟨⟩) (fun r s' => r = .yield ⟨⟩ ∧ ∃ k s1, C k s1 ∧ s' = { s1 with heap := s1.heap.update kS (Obj.mapSeq (·.push k)) }) E s)
    (hv : Vals xs vs) (h64 : vs.length < 64) (I : Inv X pins σ H s) (fD : FpOk X pins H D) (fK : FpOk X pins H kS) (gD : s.heap.get? D = some oD) (gK : s.heap.get? kS = some (seqObj "list" ([] : List Value).toArray e0)) (hk : tKeys sp xs [] H Qk)
    (done : ∀ s' H' ks us e, Inv X pins σ H' s' → FpOk X pins H' D → FpOk X pins H' kS → s'.heap.get? D = some oD → s'.heap.get? kS = some (seqObj "list" us.toArray e) → Vals ks us → ks.length = xs.length → Qk ks H' → R ⟨⟩ s') :
    wpAny (model X.prog X.w) X.A.in1.in1 (forIn vs PUnit.unit body) R E s := by
  have hlen := hv.length
  refine ksk_fold (fun j s' => ∃ H' ks us e, Inv X pins σ H' s' ∧ FpOk X pins H' D ∧ FpOk X pins H' kS ∧ s'.heap.get? D = some oD ∧ s'.heap.get? kS = some (seqObj "list" us.toArray e) ∧ Vals ks us ∧ ks.length = j ∧ tKeys sp (xs.drop j) ks H' Qk) vs 0 s
    ⟨H, [], [], e0, I, fD, fK, gD, gK, .nil, rfl, hk⟩ (fun j x s' hx ⟨H', ks, us, e, I', fD', fK', gD', gK', rk, lk, tk⟩ => ?_) fun s' ⟨H', ks, us, e, I', fD', fK', gD', gK', rk, lk, tk⟩ => ?_
  · rw [Nat.zero_add] at tk lk
    (have hj : j < vs.length := (List.getElem?_eq_some_iff.mp hx).1)
    have hjx : j < xs.length := by lia
    have ex : xs[j]? = some xs[j] := by simp [hjx]
    obtain ⟨u, hu, ru⟩ := hv.get ex
    rw [hx] at hu
    cases hu
    rw [List.drop_eq_getElem_cons hjx] at tk
    have hl := rk.length
    have Ip : Inv X (pins ++ [(D, oD), (kS, seqObj "list" us.toArray e)]) σ H' s' := I'.pins_of fun p hp => by
      (rcases List.mem_append.mp hp with z | z)
      · exact I'.pin p (List.mem_append_right _ z)
      · rcases List.mem_cons.mp z with z | z
        · subst z; exact ⟨gD', fD'.1, fD'.2.1, fD'.2.2.1, hD⟩
        · have z' : p = (kS, seqObj "list" us.toArray e) := by simpa using z
          subst z'; exact ⟨gK', fK'.1, fK'.2.1, fK'.2.2.1, fun v q => by cases q⟩
    have hlp : [x].length = ps.length := F.len _ _ _ _ tk
    have run := F.run X.A.in1.in1 X.stack s' H' ⟨[x], []⟩ [x] [xs[j]] _ E0 (hr.in1.in1) (Ip.env0.in1.in1) (by have := hb s' [x] I'.kIn (by simpa using hlp); simpa using this) (.cons ru .nil) tk
    refine wpAny_mono (hbody x us e s' (fun kv s1 => ∃ v H1, Inv X (pins ++ [(D, oD), (kS, seqObj "list" us.toArray e)]) σ H1 s1 ∧ RelV v kv ∧ tKeys sp (xs.drop (j + 1)) (ks ++ [v]) H1 Qk) (by lia) gK' (wpAny_call (codeAny_mono run fun r s1 hq => ?_))) (fun r s2 hr2 => ?_) fun _ _ z => z
    · cases r with
      | error er => exact hq.elim
      | ok fl =>
        cases fl with
        | ret kv =>
          obtain ⟨v, H1, I1, r1, q1⟩ := Ip.after hq
          refine ⟨us, e, by lia, (I1.pin (kS, seqObj "list" us.toArray e) (by simp)).1, v, H1, I1, r1, q1⟩
        | next => exact False.elim hq
        | brk => exact False.elim hq
        | cont => exact False.elim hq
    · obtain ⟨er, kv, s1, ⟨v, H1, I1, r1, q1⟩, es⟩ := hr2
      refine ⟨er, ?_⟩
      subst es
      have pD := I1.pin (D, oD) (by simp)
      have pK := I1.pin (kS, seqObj "list" us.toArray e) (by simp)
      have I1' : Inv X pins σ H1 s1 := I1.unpinned
      have fD1 : FpOk X pins H1 D := ⟨pD.2.1, fD'.2⟩
      have fK1 : FpOk X pins H1 kS := ⟨pK.2.1, fK'.2⟩
      have sb := Heap.SameBut.update s1.heap kS (Obj.mapSeq (·.push kv))
      have ea : us.toArray.push kv = (us ++ [kv]).toArray := by simp
      obtain ⟨c2, hc2⟩ : ∃ c2, (s1.heap.update kS (Obj.mapSeq (·.push kv))).get? kS = some (seqObj "list" (us ++ [kv]).toArray c2) := ⟨_, by rw [← ea]; exact get?_update_seq pK.1 (·.push kv)⟩
      have I2 : Inv X pins σ H1 { s1 with heap := s1.heap.update kS (Obj.mapSeq (·.push kv)) } := I1'.turnedL (t' := s1.toks) (wr := [kS]) (fun c hc => by rw [show c = kS by simpa using hc]; exact fK1) fun c o hc e => (sb.2 c (by simpa using hc)).trans e
      refine ⟨H1, ks ++ [v], us ++ [kv], c2, I2, fD1, fK1, (sb.2 D hne).trans pD.1, hc2, rk.append (.cons r1 .nil), by simp [lk], ?_⟩
      rw [Nat.zero_add]
      exact q1
  · rw [Nat.zero_add] at tk lk
    rw [List.drop_of_length_le (by lia)] at tk
    exact done s' H' ks us e I' fD' fK' gD' gK' rk (by lia) tk
theorem ksort_tree {a r : Sh} {b : Bool} {k : Nat} {f D : Addr} {fd : FuncData} {ps : List Str} {sp : Sp} {n0 : Nat} (hf : FirstK a b) {xs : List V} {vs : List Value} {P : PySem.Fin → Shared → Prop} {E : Value → Shared → Prop}
    (F : FnOk X.prog X.w X.K X.mg X.base CX0 k f fd ps sp) (hr : Room (k + 2) X.A) (hb : Binds X.K fd ps []) (I : Inv X pins σ H s) (ho : s.heap.get? D = some (seqObj "list" vs.toArray n0)) (fD : FpOk X pins H D)
    (hv : Vals xs vs) (h64 : vs.length < 64)
    {Qk : List V → Hp → Prop} (h : tKeys sp xs [] H Qk) (hQ : ∀ ks H1, Qk ks H1 → ∃ kds, Dens X.K H1 ks kds ∧ (∀ d ∈ kds, (Sh.tcons a r).has d) ∧ (∀ d ∈ kds, d.depth ≤ 100) ∧
      ∀ (p : List Nat) (s' : Shared), p.Perm (List.range xs.length) → InOrd kds p → H1 D = none → Inv X pins σ (upd H1 D (.lst (picked xs p))) s' → P (.done (.ret .none)) s') :
    wpAny (model X.prog X.w) X.A.in1.in1 (ksk_tree D (.ref f) false) P E s := by
  have hu : X.A.in1.in1.units + 101 < cLine := by show X.A.units + 1 + 1 + 101 < cLine; have := hr.un; lia
  have hlen := hv.length
  obtain ⟨e1, ho1, at3⟩ := sort_opened I ho fD
  unfold ksk_tree
  refine wpAny_bind (listItems_at ho rfl (wpAny_bind (listUpdate_at ho rfl (wpAny_bind (seqEpoch_at ho1 rfl (wpAny_bind (wpAny_newTuple (wpAny_bind (wpAny_newList (wpAny_holding ?main) (Nat.zero_le _))) ?short)))) ?few (Nat.zero_le _))))
  case short => show vs.length ≤ _; rw [sizeLine_eq]; lia
  case few => rw [List.size_toArray, sizeLine_eq]; lia
  case main =>
  show wpAny (model X.prog X.w) X.A.in1.in1 (ksk_rest D (.ref f) false vs.toArray e1 (.ref ((s.heap.update D (Obj.mapSeq fun _ => (#[] : Array Value))).push (seqObj "tuple" vs.toArray 0)).objs.size)) P E { s with heap := ((s.heap.update D (Obj.mapSeq fun _ => (#[] : Array Value))).push (seqObj "tuple" vs.toArray 0)).push (seqObj "list" #[] 0) }
  have hsz : ((s.heap.update D (Obj.mapSeq fun _ => (#[] : Array Value))).push (seqObj "tuple" vs.toArray 0)).objs.size = s.heap.objs.size + 1 := by rw [size_push', Heap.size_update]
  have gK : (((s.heap.update D (Obj.mapSeq fun _ => (#[] : Array Value))).push (seqObj "tuple" vs.toArray 0)).push (seqObj "list" #[] 0)).get? (s.heap.objs.size + 1) = some (seqObj "list" ([] : List Value).toArray 0) := by
    (rw [← hsz]; exact Heap.get?_push_size _ rfl)
  rw [hsz]
  generalize hh3 : ((s.heap.update D (Obj.mapSeq fun _ => (#[] : Array Value))).push (seqObj "tuple" vs.toArray 0)).push (seqObj "list" #[] 0) = h3 at gK
  obtain ⟨hD3, I3⟩ := at3 h3 hh3.symm
  have hDlt : D < s.heap.objs.size := Heap.lt_size ho
  have hne : D ≠ s.heap.objs.size + 1 := Nat.ne_of_lt (Nat.lt_succ_of_lt hDlt)
  have fK : FpOk X pins H (s.heap.objs.size + 1) := I.fpOk (Nat.le_succ _) (I.hok.fresh (Nat.le_succ _))
  generalize s.heap.objs.size + 1 = kS at *
  unfold ksk_rest
  refine wpAny_bind (wpAny_rule ?_)
  first | rw [List.forIn_toArray] | (rw [← Array.forIn_toList]; simp only [List.toList_toArray])
  refine wpAny_bind (ksort_keys (R := fun _ s' => wpAny (model X.prog X.w) X.A.in1.in1 (Builtin.List.listItems (.ref kS) >>= fun keys => ksk_end D false vs.toArray e1 (.ref kS) keys) P E s') F hr hb hne (fun v z => by cases z) (fun x us e s' C hz gk hx => ?_) hv h64 I3 fD fK hD3 gK h fun s' H' ks us e I' fD' fK' gD' gK' rk lk qk => ?_)
  · refine wpAny_bind (wpAny_attempt (wpAny_mono hx (fun kv s'' hk => ?_) fun _ _ hF => hF.elim))
    obtain ⟨us', e', hz', gk', c⟩ := hk
    try dsimp only
    refine wpAny_bind (listUpdate_at gk' rfl ?_ (by rw [List.size_toArray, sizeLine_eq]; lia) (Nat.le_trans (Nat.le_of_eq (Array.size_push ..)) (by rw [List.size_toArray, sizeLine_eq]; lia)))
    exact wpAny_pure ⟨rfl, kv, s'', c, rfl⟩
  · obtain ⟨kds, hd, hs, hdep, q⟩ := hQ _ _ qk
    refine wpAny_bind (listItems_at gK' rfl ?_)
    have hl2 : us.length = vs.length := by rw [← rk.length]; lia
    have endp : ∀ (st : SortSt) (p : List Nat), (arrOf st).map (·.2) = List.toArray (p.map fun i => vs.getD i Value.none) → failedOf st = none → p.Perm (List.range xs.length) → InOrd kds p → wpAny (model X.prog X.w) X.A.in1.in1 (ksk_tail D false e1 (.ref kS) st) P E s' := fun st p hout hfl hp hord => by
      have sk := Heap.SameBut.update s'.heap kS (Obj.mapSeq fun _ => (#[] : Array Value))
      have gD2 : (s'.heap.update kS (Obj.mapSeq fun _ => (#[] : Array Value))).get? D = some (seqObj "list" #[] e1) := (sk.2 D hne).trans gD'
      have pl : p.length = xs.length := by rw [hp.length_eq]; simp
      unfold ksk_tail
      try dsimp only
      rw [hout]
      refine wpAny_bind (listUpdate_at gK' rfl ?_ (by rw [List.size_toArray, sizeLine_eq]; lia) (Nat.zero_le _))
      refine wpAny_bind (wpAny_letGo ?_)
      refine wpAny_bind (seqEpoch_at gD2 rfl ?_)
      refine wpAny_bind (listUpdate_at gD2 rfl ?_ (Nat.zero_le _) (by simp only [Bool.false_eq_true, if_false]; rw [List.size_toArray, List.length_map, pl, sizeLine_eq]; lia))
      rw [hfl]
      (simp only [bne_self_eq_false, Bool.false_eq_true, if_false])
      refine wpAny_pure ?_
      have sd := Heap.SameBut.update (s'.heap.update kS (Obj.mapSeq fun _ => (#[] : Array Value))) D (Obj.mapSeq fun _ => List.toArray (p.map fun i => vs.getD i Value.none))
      obtain ⟨c2, hc2⟩ : ∃ c2, ((s'.heap.update kS (Obj.mapSeq fun _ => (#[] : Array Value))).update D (Obj.mapSeq fun _ => List.toArray (p.map fun i => vs.getD i Value.none))).get? D = some (seqObj "list" (List.toArray (p.map fun i => vs.getD i Value.none)) c2) := ⟨_, get?_update_seq gD2 fun _ => List.toArray (p.map fun i => vs.getD i Value.none)⟩
      refine q p _ hp hord fD'.1 (I'.adopt (t' := s'.toks) (wr := [D, kS]) (a := D) (fun c hc => ?_) (by simp) (fun c o hc e => ?_) ⟨by rw [picked_len, pl, sizeLine_eq]; lia, p.map fun i => vs.getD i Value.none, c2, vals_picked hv p, hc2⟩)
      · rcases List.mem_cons.mp hc with z | z
        · rw [z]; exact fD'
        · rw [show c = kS by simpa using z]; exact fK'
      · exact (sd.2 c (fun z => hc (by simp [z]))).trans ((sk.2 c (fun z => hc (by simp [z]))).trans e)
    unfold ksk_end
    try dsimp only
    (simp only [Bool.false_eq_true, if_false])
    by_cases hn2 : vs.toArray.size < 2
    · rw [if_pos hn2, if_pos hn2]
      refine wpAny_bind (wpAny_pure ?_)
      refine wpAny_bind ?_
      show wpAny _ _ ((pure () : StateT SortSt Sem Unit).run _) _ _ _
      rw [StateT.run_pure]
      refine wpAny_pure ?_
      dsimp only
      refine endp _ (List.range xs.length) ?_ rfl (List.Perm.refl _) (inord_short (by rw [List.size_toArray] at hn2; lia))
      show (us.toArray.zip vs.toArray).map (·.2) = _
      rw [hlen, range_picked]
      apply Array.toList_inj.mp
      simp [List.map_snd_zip, hl2]
    · rw [if_neg hn2, if_neg hn2]
      have h2 : 2 ≤ us.length := by rw [List.size_toArray] at hn2; lia
      refine wpAny_bind (wpAny_mono (sort_engine (A := X.A.in1.in1) (G := fun p s2 => s2 = s' ∧ p.toList.Perm (List.range us.length) ∧ InOrd kds p.toList) hf I' rk hd hs hdep h2 hu fun p hp up => ⟨rfl, hp, inord_of (by rw [hp.length_eq]; simp) up⟩) (fun κ s0 hk => ?_) fun _ _ x => x.elim)
      rw [hl2] at hk
      refine wpAny_bind (wpAny_mono (kat_run (ks := us) (vs := vs) (Q := fun st' s2 => ∃ p : Array Nat, arrOf st' = p.map (kas_item (us.toArray.zip vs.toArray)) ∧ failedOf st' = none ∧ s2 = s' ∧ p.toList.Perm (List.range vs.length) ∧ InOrd kds p.toList)
        hl2 (by lia) h64 (fun p' st' s2 a1 a2 a3 a4 => ⟨p', a2, a3, a4⟩) hk) ?_ fun _ _ e => e)
      rintro ⟨⟨⟩, st'⟩ s2 ⟨p, har, hfl, rfl, hp, hord⟩
      dsimp only
      exact endp st' p.toList (kat_snds hl2 har) hfl (by rw [hlen]; exact hp) hord
def rSortK (K : PySem.W.Frag) (a r : Sh) (sp : Sp) : V → Hp → VK → Prop := fun x H Q => ∃ l xs, x = .ref l ∧ SqL K H l xs ∧ xs.length < 64 ∧ tKeys sp xs [] H fun ks H1 =>
  ∃ kds, Dens K H1 ks kds ∧ (∀ d ∈ kds, (Sh.tcons a r).has d) ∧ (∀ d ∈ kds, d.depth ≤ 100) ∧ ∀ (D : Addr) (p : List Nat), H1 D = none → p.Perm (List.range xs.length) → InOrd kds p → Q (.ref D) (upd H1 D (.lst (picked xs p)))
theorem call_sortK {a r : Sh} {b : Bool} {k : Nat} {f : Addr} {fd : FuncData} {ps : List Str} {sp : Sp} {x : V} {u : Value} {Q : VK} (hf : FirstK a b) (F : FnOk X.prog X.w X.K X.mg X.base CX0 k f fd ps sp) (hr : Room (k + 2) X.A) (hb : Binds X.K fd ps []) (I : Inv X pins σ H s) (rx : RelV x u) (h : rSortK X.K a r sp x H Q) :
    wpAny (model X.prog X.w) X.A (call (.builtin "sorted") [u] [(Str.ofString "key", .ref f)]) (EP X pins σ Q) X.xe s := by
  obtain ⟨l, ys, rfl, hq, h64, q⟩ := h
  cases rx
  obtain ⟨vs, r, pl, _⟩ := I.list hq
  have hlen := r.length
  refine call_function_entry_kw kind_sorted plain_sorted entry_sorted (ksk_s1 _ _) ?_
  unfold Builtin.«sorted»
  (refine wpAny_bind (m := checkCount "sorted" 1 1 _) (wpAny_pure ?_))
  refine wpAny_bind (collect_list pl.isList ?_ (by rw [sizeLine_eq]; lia))
  (refine wpAny_bind (wpAny_newList ?_ (by rw [sizeLine_eq]; lia)))
  have hsz := copied_size s.heap vs
  have hoL := copied_at s.heap vs
  have keep := copied_keep s.heap vs
  show wpAny _ _ _ _ _ { s with heap := (copied s.heap vs).push (seqObj "list" vs.toArray 0) }
  show wpAny _ _ (_ >>= fun _ => _) _ _ { s with heap := (copied s.heap vs).push (seqObj "list" vs.toArray 0) }
  rw [show ((s.heap.push (seqObj "list" #[] 0)).update s.heap.objs.size (Obj.mapSeq (· ++ vs.toArray))).objs.size = s.heap.objs.size + 1 from hsz]
  generalize (copied s.heap vs).push (seqObj "list" vs.toArray 0) = h2 at hoL keep ⊢
  have I2 : Inv X pins σ H { s with heap := h2 } := I.kept (t' := s.toks) keep
  have hDn : H (s.heap.objs.size + 1) = none := I.hok.fresh (Nat.le_succ _)
  have fD : FpOk X pins H (s.heap.objs.size + 1) := I.fpOk (Nat.le_succ _) hDn
  refine wpAny_bind (wpAny_holding (wpAny_call_entry_kw slot_list_sort ⟨_, hoL, rfl⟩ entry_list_sort ?body (ksk_l1 _ _)))
  case body =>
    show wpAny (model X.prog X.w) X.A.in1.in1 (Builtin.«list.sort» ⟨[.ref (s.heap.objs.size + 1)], [(Str.ofString "key", .ref f)]⟩) _ _ _
    rw [ksk_t1]
    refine ksort_tree (s := { s with heap := h2 }) hf F hr hb I2 hoL fD r (by lia) q fun ks H1 ⟨kds, hd, hs, hdep, q2⟩ => ⟨kds, hd, hs, hdep, fun p s' hp hord hn I' => ?_⟩
    refine ⟨_, rfl, wpAny_pure ⟨_, rfl, ?_⟩⟩
    exact ⟨.ref _, _, I', rfl, q2 _ p hn hp hord⟩
def tSortK (K : PySem.W.Frag) (a r : Sh) (sp : Sp) (ta : TA) : TE := fun σ H Q => ta σ H fun vs H1 => ∃ x, vs = [x] ∧ rSortK K a r sp x H1 Q
theorem pe_sortK {a r : Sh} {b : Bool} {k : Nat} {f : Addr} {fd : FuncData} {ps : List Str} {sp : Sp} {e : Expr} {ta : TA} {y : Str} {p py pos kp : Pos} (hf : FirstK a b) (F : FnOk X.prog X.w X.K X.mg X.base CX0 k f fd ps sp) (hr : Room (k + 2) X.A) (hb : Binds X.K fd ps [])
    (hg : Gl X "sorted") (hm : X.mg "sorted" = none) (hgf : Gl X y) (hmf : X.mg y = some (.ref f)) (ha : PA X [e] ta) (hdb : (y == ("__debug__" : Str)) = false := by decide)
    (he : backTo pos (starEach [e] X.env) = (false, eval e X.env) :: backTo pos (starEach [] X.env) := by rfl) (hplain : (backTo pos (starEach [e] X.env)).any (·.1) = false := by rfl)
    (hall : (backToKw pos (keywordEach [⟨some "key", .Name y py, kp⟩] X.env)).all (·.1.isSome) = true := by rfl) (hkw : (backToKw pos (keywordEach [⟨some "key", .Name y py, kp⟩] X.env)).any (·.1.isNone) = false := by rfl) :
    PE X (.Call (.Name "sorted" p) [e] [⟨some "key", .Name y py, kp⟩] pos) (tSortK X.K a r sp ta) := by
  intro pins s σ H Q I h
  refine wpAny_Call_Name_kw (ld_blt I hg hm boot_sorted ?_)
  refine callWith_kw (thn (ha pos pins s σ H _ I h) fun us s1 ⟨vs, H1, I1, r1, q1⟩ => ?_) he hplain hall hkw
  obtain ⟨x, rfl, q⟩ := q1
  obtain ⟨u, rfl, ru⟩ := r1.one
  refine kws_cons (ld_glob I1 hgf hmf (kws_nil ?_) hdb)
  exact call_sortK hf F hr hb I1 ru q
end
end L2
namespace L2
open PySem PySem.Spec PyProof.Rows PySem.W
section
open PySem.SeqAt
open PySem.AutoSeq1 (wpAny_loadPart')
open PySem.MeetsSeq PySem.MeetsSeq2 PySem.MeetsSeq3
end
section
variable {X : Cx}
def rIsi (K : PySem.W.Frag) : List V → Hp → VK → Prop := fun vs H Q => ∃ x n t b, vs = [x, .ty n] ∧ TyOf K H x t ∧ kitOne K t (.type n) = some b ∧ Q (.bl b) H
theorem call_isi : CallR X (.builtin "isinstance") (rIsi X.K) := by
  intro pins s σ H xs us Q I rv h
  obtain ⟨x, n, t, b, rfl, ty, e, q⟩ := h
  obtain ⟨u, w', rfl, r1, r2⟩ := vals2 rv
  obtain rfl : w' = Value.type n := r2
  exact isinst_ok I r1 ty e fun tk => ⟨.bl b, H, I.tok _, rfl, q⟩
end
end L2
namespace L2
open PySem PySem.Spec PyProof.Rows
structure DefAt (K : PySem.W.Frag) (mg : Str → Option Value) (x : Str) (st : Stmt) (ps : List Str) (f : Addr) (fd : FuncData) : Prop where
  fn : Fun K x x st f fd
  bd : Binds K fd ps []
  mg : mg x = some (.ref f)
theorem Same.new {H : Hp} {p : Addr} {o : HO} (h : H p = none) : Same H (upd H p o) := fun b u e => by rw [upd_ne (ne_of_none e h)]; exact e
def CN (D : Addr) (Pv : List V → St → Hp → Prop) : St → Hp → Prop := fun σ H => ∃ acc, H D = some (.lst acc) ∧ Pv acc σ H
section
variable {K : PySem.W.Frag} {g : TG} {tt : TT} {te : TE} {D : Addr} {Q : VK} {σ : St} {H : Hp}
theorem comp_gen {J : It} (n : Nat) (Pv : Nat → List V → St → Hp → Prop) (hD : H D = some (.lst [])) (h0 : Pv 0 [] σ H)
    (hgo : ∀ i acc σ H, i < n → H D = some (.lst acc) → Pv i acc σ H → J.go i H) (hstop : ∀ acc σ H, H D = some (.lst acc) → Pv n acc σ H → J.stop n H)
    (hs : ∀ i acc σ H x H', i < n → H D = some (.lst acc) → Pv i acc σ H → J.yld i H x H' → g x σ H' fun σ2 H2 => tt σ2 H2 fun b H3 => if b = true then te σ2 H3 fun v H4 => ∃ ys, H4 D = some (.lst ys) ∧ ys.length < sizeLine ∧ CN D (Pv (i + 1)) σ2 (upd H4 D (.lst (ys ++ [v]))) else CN D (Pv (i + 1)) σ2 H3)
    (hd : ∀ acc σ H, H D = some (.lst acc) → Pv n acc σ H → Q (.ref D) H) : CompW g tt te J D Q σ H := by
  refine ⟨fun i m σ H => m = n - i ∧ i ≤ n ∧ CN D (Pv i) σ H, ⟨n, by simp, Nat.zero_le _, [], hD, h0⟩, ?_⟩
  rintro i m σ H ⟨rfl, hi, acc, hacc, p⟩
  by_cases hlt : i < n
  · exact .inr ⟨hgo i acc σ H hlt hacc p, CN D (Pv (i + 1)), fun σ' H' p' => ⟨n - (i + 1), by lia, rfl, hlt, p'⟩, fun x H' y => hs i acc σ H x H' hlt hacc p y⟩
  · have e : i = n := by lia
    subst e
    exact .inl ⟨hstop acc σ H hacc p, hd acc σ H hacc p⟩
theorem comp_list {a : Addr} {xs : List V} (Pv : Nat → List V → St → Hp → Prop) (hD : H D = some (.lst [])) (h0 : Pv 0 [] σ H) (hl : ∀ i acc σ H, i ≤ xs.length → H D = some (.lst acc) → Pv i acc σ H → SqL K H a xs)
    (hs : ∀ i x acc σ H, xs[i]? = some x → H D = some (.lst acc) → Pv i acc σ H → g x σ H fun σ2 H2 => tt σ2 H2 fun b H3 => if b = true then te σ2 H3 fun v H4 => ∃ ys, H4 D = some (.lst ys) ∧ ys.length < sizeLine ∧ CN D (Pv (i + 1)) σ2 (upd H4 D (.lst (ys ++ [v]))) else CN D (Pv (i + 1)) σ2 H3)
    (hd : ∀ acc σ H, H D = some (.lst acc) → Pv xs.length acc σ H → Q (.ref D) H) : CompW g tt te (Itl K a) D Q σ H := by
  refine comp_gen xs.length Pv hD h0 (fun i acc σ H hi hacc p => ⟨xs, xs[i], hl i acc σ H (Nat.le_of_lt hi) hacc p, by simp [hi]⟩) (fun acc σ H hacc p => ⟨xs, hl _ acc σ H (Nat.le_refl _) hacc p, Nat.le_refl _⟩) (fun i acc σ H x H' hi hacc p y => ?_) hd
  obtain ⟨e, y⟩ := y
  subst e
  exact hs i x acc σ _ (y xs (hl i acc σ _ (Nat.le_of_lt hi) hacc p)) hacc p
theorem comp_range {lo : Int} {n : Nat} (Pv : Nat → List V → St → Hp → Prop) (hD : H D = some (.lst [])) (h0 : Pv 0 [] σ H)
    (hs : ∀ i acc σ H, i < n → H D = some (.lst acc) → Pv i acc σ H → g (.int (lo + i)) σ H fun σ2 H2 => tt σ2 H2 fun b H3 => if b = true then te σ2 H3 fun v H4 => ∃ ys, H4 D = some (.lst ys) ∧ ys.length < sizeLine ∧ CN D (Pv (i + 1)) σ2 (upd H4 D (.lst (ys ++ [v]))) else CN D (Pv (i + 1)) σ2 H3)
    (hd : ∀ acc σ H, H D = some (.lst acc) → Pv n acc σ H → Q (.ref D) H) : CompW g tt te (Itr lo n) D Q σ H := by
  refine comp_gen n Pv hD h0 (fun i acc σ H hi hacc p => hi) (fun acc σ H hacc p => Nat.le_refl _) (fun i acc σ H x H' hi hacc p y => ?_) hd
  obtain ⟨e, y⟩ := y
  subst e y
  exact hs i acc σ _ hi hacc p
theorem comp_str {z : Str} (Pv : Nat → List V → St → Hp → Prop) (hD : H D = some (.lst [])) (h0 : Pv 0 [] σ H)
    (hs : ∀ i c acc σ H, z.cps[i]? = some c → H D = some (.lst acc) → Pv i acc σ H → g (.str ⟨#[c]⟩) σ H fun σ2 H2 => tt σ2 H2 fun b H3 => if b = true then te σ2 H3 fun v H4 => ∃ ys, H4 D = some (.lst ys) ∧ ys.length < sizeLine ∧ CN D (Pv (i + 1)) σ2 (upd H4 D (.lst (ys ++ [v]))) else CN D (Pv (i + 1)) σ2 H3)
    (hd : ∀ acc σ H, H D = some (.lst acc) → Pv z.length acc σ H → Q (.ref D) H) : CompW g tt te (Its z) D Q σ H := by
  refine comp_gen z.length Pv hD h0 (fun i acc σ H hi hacc p => hi) (fun acc σ H hacc p => Nat.le_refl _) (fun i acc σ H x H' hi hacc p y => ?_) hd
  obtain ⟨e, c, ec, y⟩ := y
  subst e y
  exact hs i c acc σ _ ec hacc p
end
theorem tkeys_all {K : PySem.W.Frag} {sp : Sp} {Qk : List V → Hp → Prop} {H0 : Hp} : ∀ (xs : List V) (kds : List PyData) (ks : List V) (dks : List PyData) (H : Hp), xs.length = kds.length → Same H0 H → Dens K H ks dks →
    (∀ (i : Nat) (x : V) (d : PyData) (H : Hp) (Q : VK), xs[i]? = some x → kds[i]? = some d → Same H0 H → (∀ r H', Same H H' → Den K H' r d → Q r H') → sp [x] H Q E0) → (∀ ks' H', Same H0 H' → Dens K H' ks' (dks ++ kds) → Qk ks' H') → tKeys sp xs ks H Qk
  | [], [], ks, dks, H, _, hs, hd, _, hq => hq ks H hs (by simpa using hd)
  | x :: xs, d :: kds, ks, dks, H, hl, hs, hd, hsp, hq => by
    refine hsp 0 x d H _ rfl rfl hs fun r H' s' dr => ?_
    refine tkeys_all xs kds (ks ++ [r]) (dks ++ [d]) H' (by simpa using hl) (hs.trans s') ((hd.same s').append (.cons dr .nil)) (fun i y e H2 Q h1 h2 => hsp (i + 1) y e H2 Q (by simpa using h1) (by simpa using h2)) fun ks' H2 h1 h2 => hq ks' H2 h1 (by simpa using h2)
end L2
namespace L2
open PySem PySem.Spec PyProof.Rows
def cscB (sc osc : Scope) (N N' : List Str) (n : Nat) (fi : List Nat) : Bool :=
  decide (sc.kind = .function) && decide (∀ y ∈ sc.names, y.2 = .local → sc.names.lookup y.1 = some .local)
  && decide (∀ y ∈ sc.names, y.2 = .free → osc.names.lookup y.1 = some .cell ∨ osc.names.lookup y.1 = some .free)
  && decide (N'.length = n + fi.length)
  && (List.range fi.length).all fun j => match fi[j]? with
    | some k => match N'[n + j]? with
      | some x => decide (N[k]? = some x) && decide (sc.names.lookup x = some .free) && decide ((x, NameKind.cell) ∉ sc.names)
      | none => false
    | none => false
theorem cscope {X : Cx} {sc : Scope} {N' : List Str} {n : Nat} {fi : List Nat} (osc : Scope) (N : List Str) (h : cscB sc osc N N' n fi = true) (e1 : X.env.scope = osc := by rfl) (e2 : X.N = N := by rfl) : CScope X sc N' n fi := by
  subst e1 e2
  simp only [cscB, Bool.and_eq_true, decide_eq_true_eq] at h
  obtain ⟨⟨⟨⟨h1, h2⟩, h3⟩, h4⟩, h5⟩ := h
  refine ⟨h1, h2, h3, h4, fun j k hj => ?_⟩
  have hlt : j < fi.length := by
    rcases Nat.lt_or_ge j fi.length with q | q
    · exact q
    · rw [List.getElem?_eq_none q] at hj; cases hj
  have h6 := List.all_eq_true.mp h5 j (List.mem_range.mpr hlt)
  rw [hj] at h6
  dsimp only at h6
  cases e : N'[n + j]? with
  | none => rw [e] at h6; cases h6
  | some x =>
    rw [e] at h6
    simp only [Bool.and_eq_true, decide_eq_true_eq] at h6
    exact ⟨x, rfl, h6.1.1, h6.1.2, h6.2⟩
def lim (H H' : Hp) : Hp := fun b => match H b with | some (.lst _) => none | _ => H' b
def wo (D : Addr) (H : Hp) : Hp := fun b => if b = D then none else H b
section
variable {H H' H1 H2 H3 : Hp} {D E p b : Addr} {o u : HO} {xs ys : List V}
theorem lim_at (h : ∀ zs, H b ≠ some (.lst zs)) : lim H H' b = H' b := by
  unfold lim
  split
  · rename_i zs e; exact (h zs e).elim
  · rfl
theorem lim_new (h : H p = none) : lim H H' p = H' p := lim_at fun zs e => by rw [h] at e; cases e
theorem lim_same : Same (lim H H') H' := fun b o e => by
  unfold lim at e
  split at e
  · cases e
  · exact e
theorem lim_get (h : lim H H' b = some o) : ∀ zs, H b ≠ some (.lst zs) := fun zs e => by
  simp only [lim, e] at h
  cases h
theorem lim_mono (h : Same H1 H2) : Same (lim H H1) (lim H H2) := fun b o e => by
  rw [lim_at (lim_get e)]
  exact h b o (lim_same b o e)
def LL (H H' : Hp) : Prop := ∀ b ys, H b = some (.lst ys) → ∃ zs, H' b = some (.lst zs)
theorem Same.ll (h : Same H H') : LL H H' := fun b ys e => ⟨ys, h b _ e⟩
theorem LL.trans (h : LL H1 H2) (g : LL H2 H3) : LL H1 H3 := fun b ys e => let ⟨zs, q⟩ := h b ys e; g b zs q
theorem LL.upd (h : LL H H') (e : H' D = some (.lst xs)) : LL H (upd H' D (.lst ys)) := fun b zs q => by
  by_cases eb : b = D
  · subst eb; exact ⟨ys, upd_same⟩
  · rw [upd_ne eb]; exact h b zs q
theorem lim_back (h : LL H H1) : Same (lim H1 H2) (lim H H2) := fun b o e => by
  rw [lim_at]
  · exact lim_same b o e
  · intro zs q
    obtain ⟨z2, q2⟩ := h b zs q
    exact lim_get e z2 q2
theorem wo_at (h : b ≠ D) : wo D H b = H b := by simp [wo, h]
theorem wo_self : wo D H D = none := by simp [wo]
theorem wo_get (h : wo D H b = some o) : b ≠ D ∧ H b = some o := by
  unfold wo at h
  split at h
  · cases h
  · rename_i q; exact ⟨q, h⟩
theorem wo_same : Same (wo D H) H := fun b o e => (wo_get e).2
theorem same_upd : Same (wo D H) (upd H D o) := fun b u e => by rw [upd_ne (wo_get e).1]; exact (wo_get e).2
theorem wo_trans (h : Same (wo D H1) H2) (g : Same (wo D H2) H3) : Same (wo D H1) H3 := fun b o e => g b o (by rw [wo_at (wo_get e).1]; exact h b o e)
theorem lim_upd (h : H D = some (.lst ys)) : lim H (upd H' D o) = lim H H' := by
  funext b
  by_cases e : b = D
  · subst e; simp only [lim, h]
  · unfold lim; rw [upd_ne e]
theorem same_wo (h : H D = none) (s : Same H H') : Same H (wo D H') := fun b o e => by
  rw [wo_at (ne_of_none e h)]; exact s b o e
theorem ll_new (s : Same H H') (h : H' D = some (.lst ys)) : LL (upd H D o) H' := fun b zs e => by
  by_cases q : b = D
  · subst q; exact ⟨ys, h⟩
  · rw [upd_ne q] at e; exact ⟨zs, s b _ e⟩
theorem ge_len {α : Type} {xs : List α} {i : Nat} {x : α} (h : xs[i]? = some x) : i < xs.length := by
  rcases Nat.lt_or_ge i xs.length with q | q
  · exact q
  · rw [List.getElem?_eq_none q] at h; cases h
theorem take_next {α β : Type} {xs : List α} {i : Nat} {x : α} (h : xs[i]? = some x) (f : α → β) : (xs.take (i + 1)).map f = (xs.take i).map f ++ [f x] := by
  rw [List.take_add_one, h]; simp
theorem snap_upd (h : H D = none) (s : Same H H') : Same H (upd H' D o) := fun b u e => by
  rw [upd_ne (ne_of_none e h)]; exact s b u e
end
theorem compY {i : Nat} {x : V} {σ : St} {H : Hp} {F G : St → Hp → Prop} (h : F (σ.set i (some x)) H) : gName i x σ H fun σ2 H2 => tYes σ2 H2 fun b H3 => if b = true then F σ2 H3 else G σ2 H3 := by
  show (if true = true then F (σ.set i (some x)) H else G (σ.set i (some x)) H); rw [if_pos rfl]; exact h
theorem small {n : Nat} (h : n < 10000000) : n < sizeLine := by rw [sizeLine_eq]; exact Nat.lt_of_lt_of_le h (by decide)
end L2
namespace L2
open PySem PySem.Spec PyProof.Rows PySem.Builtin PySem.Builtin.Str
theorem SqT.lim {K : PySem.W.Frag} {H H0 H' : Hp} {a : Addr} {xs : List V} (s1 : Same H H0) (s2 : Same H H') (h : SqT K H a xs) : SqT K (L2.lim H0 H') a xs := by
  rcases h with (h | ⟨o, h⟩) | h
  · exact .inl (.inl (by rw [lim_at fun zs e => by rw [s1 _ _ h] at e; cases e]; exact s2 _ _ h))
  · exact .inl (.inr ⟨o, by rw [lim_at fun zs e => by rw [s1 _ _ h] at e; cases e]; exact s2 _ _ h⟩)
  · exact .inr h
def rListOf (K : PySem.W.Frag) : List V → Hp → VK → Prop := fun xs H Q => ∃ p ys, xs = [.ref p] ∧ (SqL K H p ys ∨ SqT K H p ys) ∧ ∀ l, H l = none → Q (.ref l) (upd H l (.lst ys))
theorem call_listO {X : Cx} : CallR X (.type "list") (rListOf X.K) := call_list_of
theorem bt_list : bootBuiltins "list" = some (.type "list") := by decide +kernel
theorem bt_sorted : bootBuiltins "sorted" = some (.builtin "sorted") := by decide +kernel
theorem depthAll_le {n : Nat} : ∀ (l : List PyData), (∀ d ∈ l, d.depth ≤ n) → PyData.depthAll l ≤ n
  | [], _ => Nat.zero_le _
  | d :: r, h => by
    have h1 := h d (List.mem_cons_self ..)
    have h2 := depthAll_le r fun e he => h e (List.mem_cons_of_mem _ he)
    unfold PyData.depthAll
    exact Nat.max_le.mpr ⟨h1, h2⟩
theorem ok_sign {z : Str} {i c : Nat} (hz : PyData.strOk z = true) (h : z.cps[i]? = some c) : PyData.strOk ⟨#[c]⟩ = true := by
  unfold PyData.strOk at hz ⊢
  rw [Array.all_eq_true] at hz
  have hi : i < z.cps.size := by
    rcases Nat.lt_or_ge i z.cps.size with q | q
    · exact q
    · rw [Array.getElem?_eq_none q] at h; cases h
  have h1 := hz i hi
  rw [Array.getElem?_eq_getElem hi] at h
  cases h
  simpa using h1
theorem ok_of_mem {z : Str} (h : ∀ c ∈ z.cps, c < 1114112) : PyData.strOk z = true := by
  unfold PyData.strOk
  rw [Array.all_eq_true]
  intro i hi
  simpa using h _ (Array.getElem_mem hi)
theorem mem_of_ok {z : Str} (h : PyData.strOk z = true) : ∀ c ∈ z.cps, c < 1114112 := by
  unfold PyData.strOk at h
  intro c hc
  obtain ⟨i, hi, rfl⟩ := Array.mem_iff_getElem.mp hc
  rw [Array.all_eq_true] at h
  simpa using h i hi
theorem ok_slice {z : Str} {l u : Option Int} (hz : PyData.strOk z = true) : PyData.strOk (Txt.slice z l u) = true ∧ (Txt.slice z l u).length ≤ z.length := by
  unfold Txt.slice
  split
  · exact ⟨hz, Nat.le_refl _⟩
  · constructor
    · refine ok_of_mem fun c hc => ?_
      simp only [List.mem_toArray, List.mem_filterMap] at hc
      obtain ⟨i, _, e⟩ := hc
      refine mem_of_ok hz c ?_
      exact Array.mem_of_getElem? e
    · show (List.toArray _).size ≤ z.cps.size
      simp only [List.size_toArray]
      exact Nat.le_trans (List.length_filterMap_le _ _) (sliceIndices_le l u _)
theorem ok_strSub {z : Str} {a b : Nat} (hz : PyData.strOk z = true) : PyData.strOk (strSub z a b) = true ∧ (strSub z a b).length ≤ z.length := by
  unfold strSub
  constructor
  · refine ok_of_mem fun c hc => ?_
    refine mem_of_ok hz c ?_
    obtain ⟨i, hi, rfl⟩ := Array.mem_iff_getElem.mp hc
    simp only [Array.getElem_extract]
    exact Array.getElem_mem _
  · show (Array.extract _ _ _).size ≤ z.cps.size
    rw [Array.size_extract]
    lia
theorem ok_split {z y : Str} (hz : PyData.strOk z = true) : ∀ x ∈ Txt.split z y, PyData.strOk x = true ∧ x.length ≤ z.length := by
  intro x hx
  have one : x ∈ [z] → PyData.strOk x = true ∧ x.length ≤ z.length := fun h => by
    simp only [List.mem_singleton] at h
    subst h
    exact ⟨hz, Nat.le_refl _⟩
  unfold Txt.split at hx
  split at hx
  · exact one hx
  · split at hx
    · exact one hx
    · unfold partsBetween at hx
      simp only [List.mem_map] at hx
      obtain ⟨p, _, rfl⟩ := hx
      exact ok_strSub hz
theorem split_len1 {z y : Str} : 1 ≤ (Txt.split z y).length ∧ (Txt.split z y).length ≤ z.length + 2 := by
  have h1 := StrLaws.occ_length_le z y 0 z.length (z.length + 1)
  unfold Txt.split
  split
  · simp
  · split
    · simp
    · rw [length_partsBetween]
      lia
theorem glue_ok {y : Str} (hy : PyData.strOk y = true) : ∀ (xs : List Str) (acc : Array Nat), (∀ x ∈ xs, PyData.strOk x = true) → (∀ c ∈ acc, c < 1114112) → ∀ c ∈ xs.foldl (fun acc p => acc ++ y.cps ++ p.cps) acc, c < 1114112
  | [], acc, _, h => h
  | x :: r, acc, hx, h => by
    refine glue_ok hy r _ (fun z hz => hx z (List.mem_cons_of_mem _ hz)) fun c hc => ?_
    rcases Array.mem_append.mp hc with hc | hc
    · rcases Array.mem_append.mp hc with hc | hc
      · exact h c hc
      · exact mem_of_ok hy c hc
    · exact mem_of_ok (hx x (List.mem_cons_self ..)) c hc
theorem glue_len {y : Str} {m : Nat} : ∀ (xs : List Str) (acc : Array Nat), (∀ x ∈ xs, x.length ≤ m) → (xs.foldl (fun acc p => acc ++ y.cps ++ p.cps) acc).size ≤ acc.size + xs.length * (m + y.length)
  | [], acc, _ => by simp
  | x :: r, acc, hx => by
    have h1 := glue_len (y := y) r (acc ++ y.cps ++ x.cps) fun z hz => hx z (List.mem_cons_of_mem _ hz)
    have h2 : x.cps.size ≤ m := hx x (List.mem_cons_self ..)
    have h3 : (acc ++ y.cps ++ x.cps).size = acc.size + y.cps.size + x.cps.size := by simp; lia
    have h4 : y.length = y.cps.size := rfl
    simp only [List.foldl_cons, List.length_cons, Nat.add_mul, Nat.one_mul] at h1 ⊢
    lia
theorem ok_join {y : Str} {m : Nat} (hy : PyData.strOk y = true) {xs : List Str} (h : ∀ x ∈ xs, PyData.strOk x = true ∧ x.length ≤ m) : PyData.strOk (Txt.join y xs) = true ∧ (Txt.join y xs).length ≤ xs.length * (m + y.length) := by
  cases xs with
  | nil => exact ⟨by show PyData.strOk Str.empty = true; decide +kernel, Nat.zero_le _⟩
  | cons x r =>
    have hx := h x (List.mem_cons_self ..)
    have hr : ∀ z ∈ r, PyData.strOk z = true ∧ z.length ≤ m := fun z hz => h z (List.mem_cons_of_mem _ hz)
    refine ⟨ok_of_mem (glue_ok hy r x.cps (fun z hz => (hr z hz).1) (mem_of_ok hx.1)), ?_⟩
    have h1 := glue_len (y := y) (m := m) r x.cps fun z hz => (hr z hz).2
    have h2 : x.cps.size ≤ m := hx.2
    show (List.foldl (fun (acc : Array Nat) (p : Str) => acc ++ y.cps ++ p.cps) x.cps r).size ≤ (x :: r).length * (m + y.length)
    simp only [List.length_cons, Nat.add_mul, Nat.one_mul] at h1 ⊢
    lia
theorem sum_le {m : Nat} : ∀ {xs : List Str}, (∀ x ∈ xs, x.length ≤ m) → (xs.map (·.length)).sum ≤ xs.length * m
  | [], _ => by simp
  | x :: r, h => by
    have h1 := sum_le fun z hz => h z (List.mem_cons_of_mem x hz)
    have h2 := h x (List.mem_cons_self ..)
    simp only [List.map_cons, List.sum_cons, List.length_cons, Nat.add_mul, Nat.one_mul] at h1 ⊢
    lia
theorem join_fits {y : Str} {m : Nat} {xs : List Str} (h : ∀ x ∈ xs, x.length ≤ m) (hb : xs.length * m + xs.length * y.length ≤ 16777216) : JoinOk y xs = true := by
  have h1 := sum_le h
  exact joinOk_of (by lia)
section
variable {K : PySem.W.Frag} {tt : TT} {D : Addr} {Q : VK} {H : Hp}
theorem dens_strs {K : PySem.W.Frag} {H : Hp} : ∀ {l : List Str}, (∀ x ∈ l, PyData.strOk x = true) → Dens K H (l.map V.str) (l.map PyData.str)
  | [], _ => .nil
  | x :: r, h => .cons (.str (h x (List.mem_cons_self ..))) (dens_strs fun y hy => h y (List.mem_cons_of_mem _ hy))
end
end L2
namespace L2
open PySem PySem.Spec PyProof.Rows
section
variable {X : Cx}
end
end L2
namespace L2
open PySem PySem.Spec PyProof.Rows
section
variable {K : PySem.W.Frag} {g : TG} {tt : TT} {te : TE} {D : Addr} {Q : VK} {σ : St} {H : Hp}
end
section
variable {X : Cx}
def rStripC : V → List V → Hp → VK → Prop := fun x vs H Q => ∃ z y, x = .str z ∧ vs = [.str y] ∧ z.length ≤ sizeLine ∧ Q (.str (Txt.stripChars z y)) H
theorem mt_stripC : MtR X "str.strip" rStripC := by
  intro pins s σ H x vs v us Q I rx rv h
  obtain ⟨z, y, rfl, rfl, hz, q⟩ := h
  obtain ⟨t, rfl⟩ := rx
  obtain ⟨u, rfl, t', rfl⟩ := rv.one
  exact SC.stripChars (fun t' k => ⟨.str _, H, I.tok _, ⟨_, rfl⟩, q⟩) hz
def rRmPre : V → List V → Hp → VK → Prop := fun x vs H Q => ∃ z y, x = .str z ∧ vs = [.str y] ∧ z.length ≤ sizeLine ∧ Q (.str (Txt.removeprefix z y)) H
theorem mt_rmpre : MtR X "str.removeprefix" rRmPre := by
  intro pins s σ H x vs v us Q I rx rv h
  obtain ⟨z, y, rfl, rfl, hz, q⟩ := h
  obtain ⟨t, rfl⟩ := rx
  obtain ⟨u, rfl, t', rfl⟩ := rv.one
  exact SC.removeprefix (fun t' k => ⟨.str _, H, I.tok _, ⟨_, rfl⟩, q⟩) hz
theorem vals_bools : ∀ {bs : List Bool} {us : List Value}, Vals (bs.map V.bl) us → us = bs.map Value.bool
  | [], _, h => by cases h; rfl
  | b :: r, _, h => by
    cases h with
    | cons h1 t =>
      obtain rfl := h1
      rw [vals_bools t]
      rfl
theorem range_all (bs : List Bool) : (List.range bs.length).all (fun i => bs.getD i true) = bs.all id := by
  (rw [Bool.eq_iff_iff, List.all_eq_true, List.all_eq_true])
  constructor
  · intro h x hx
    obtain ⟨i, hi, rfl⟩ := List.mem_iff_getElem.mp hx
    (have := h i (List.mem_range.mpr hi))
    simpa [List.getD, List.getElem?_eq_getElem hi] using this
  · intro h i hi
    (have hi' := List.mem_range.mp hi)
    have := h bs[i] (List.getElem_mem hi')
    simpa [List.getD, List.getElem?_eq_getElem hi'] using this
def rAll (K : PySem.W.Frag) : List V → Hp → VK → Prop := fun xs H Q => ∃ (p : Addr) (bs : List Bool), xs = [.ref p] ∧ SqL K H p (bs.map V.bl) ∧ Q (.bl (bs.all id)) H
theorem truth_bools {P : Program} {w : World} {A : Around} (bs : List Bool) : TruthOf P w A (fun i v => (bs.map Value.bool).toArray[i]? = some v) (fun i => bs.getD i true) := by
  intro i v s Q E hv hq
  have hv' : (bs.map Value.bool)[i]? = some v := by simpa using hv
  rw [List.getElem?_map] at hv'
  cases e : bs[i]? with
  | none => rw [e] at hv'; cases hv'
  | some b =>
    rw [e] at hv'
    cases hv'
    refine wpAny_truthy_bool ?_
    have : bs.getD i true = b := by simp [List.getD, e]
    have hq' : Q (bs.getD i true) s := hq
    rwa [this] at hq'
theorem call_all (hc : X.calm = true) : CallR X (.builtin "all") (rAll X.K) := by
  intro pins s σ H xs us Q I r h
  obtain ⟨p, bs, rfl, hq, q⟩ := h
  obtain ⟨u, rfl, rx⟩ := vals1 r
  cases rx
  obtain ⟨its, r', pl, hz⟩ := I.list hq
  have e := vals_bools r'
  subst e
  have hp : p ≠ s.heap.objs.size := by obtain ⟨_, e, _⟩ := pl.isList; exact Nat.ne_of_lt (Heap.lt_size e)
  refine call_all_walk (wpAny_pyIter_list pl.isList ?_)
  refine ⟨s.heap.objs.size, _, _, _, _, _, _, rfl, Walks.list (A := X.A.in1) (show X.A.in1.handled = none from I.ok.hd hc) s.heap.objs.size p hp (bs.map Value.bool).toArray, ⟨⟨_, Heap.get?_push_size _ rfl, rfl, rfl⟩, pl.isList.push _⟩, truth_bools bs, fun h' tk hk => ?_⟩
  have hs : (bs.map Value.bool).toArray.size = bs.length := by simp
  rw [hs, range_all]
  refine ⟨.bl _, H, I.kept (t' := tk) fun b o e => hk b o (fun hb => ?_) (Heap.get?_push_of_some _ e), rfl, q⟩
  simp only [List.mem_singleton] at hb
  exact absurd (Heap.lt_size e) (by rw [hb]; exact Nat.lt_irrefl _)
theorem bt_all : bootBuiltins "all" = some (.builtin "all") := by decide +kernel
end
end L2
namespace L2
open PySem PySem.Spec PyProof.Rows PySem.W
section
variable {X : Cx} {pins : List (Addr × Obj)} {σ : St} {H : Hp} {s : Shared}
structure TwoLaid (X : Cx) (pins : List (Addr × Obj)) (σ : St) (H : Hp) (s : Shared) (l : Addr) (h0 : Heap) (Ia Sa : Addr) : Prop where
  gI : h0.get? Ia = some { cls := .type "list_iterator", data := .fields #[.ref l, .int 0 0] }
  gS : h0.get? Sa = some (seqObj "list" #[] 0)
  keep : ∀ b o, s.heap.get? b = some o → h0.get? b = some o
  inv : Inv X pins σ H { s with heap := h0 }
  fI : FpOk X pins H Ia
  fS : FpOk X pins H Sa
  ne : l ≠ Ia
  two : Sa ≠ Ia
end
section
variable {X : Cx}
end
end L2
namespace L2
open PySem PySem.Spec PyProof.Rows
section
variable {X : Cx}
def rLenS (K : PySem.W.Frag) : List V → Hp → VK → Prop := fun xs H Q => ∃ p ys, xs = [.ref p] ∧ (SqL K H p ys ∨ SqT K H p ys) ∧ Q (.int ys.length) H
theorem call_lenS : CallR X (.builtin "len") (rLenS X.K) := call_len_seq
theorem bt_isinstance : bootBuiltins "isinstance" = some (.builtin "isinstance") := by decide +kernel
theorem bt_str : bootBuiltins "str" = some (.type "str") := by decide +kernel
theorem bt_int : bootBuiltins "int" = some (.type "int") := by decide +kernel
theorem bt_bool : bootBuiltins "bool" = some (.type "bool") := by decide +kernel
theorem bt_tuple : bootBuiltins "tuple" = some (.type "tuple") := by decide +kernel
theorem compT2 {K : PySem.W.Frag} {a : Addr} {x y : V} {σ : St} {H : Hp} {F G : St → Hp → Prop} (hq : SqT K H a [x, y]) (h : F ((σ.set 0 (some x)).set 1 (some y)) H) :
    gTup K 2 (gCons (gName 0) (gCons (gName 1) gNil)) (.ref a) σ H fun σ2 H2 => tYes σ2 H2 fun b H3 => if b = true then F σ2 H3 else G σ2 H3 := by
  refine ⟨a, _, rfl, hq, rfl, _, _, rfl, _, _, rfl, rfl, ?_⟩
  show (if true = true then F ((σ.set 0 (some x)).set 1 (some y)) H else G ((σ.set 0 (some x)).set 1 (some y)) H)
  rw [if_pos rfl]
  exact h
end
theorem pe_bmK {X : Cx} {K : PySem.W.Frag} {o e : Expr} {es : List Expr} {to : TE} {t : TA} {name : Str} {apos cpos : Pos} {T id : String} {r : V → List V → Hp → VK → Prop} (eK : X.K = K) (pa : PlainAttrs T) (slot : Slot T name id) (hty : typeOf (.builtin id) = pure (.type "method_descriptor")) (hm : MtR X id r) (ho : PE X o to) (ha : PA X (e :: es) t)
    (hbase : attributeBase o name X.env (eval o X.env) = eval o X.env := by rfl)
    (hfew : ((backTo cpos (starEach (e :: es) X.env)).all (fun x => !x.1) && (backToKw cpos (keywordEach [] X.env)).all (fun x => x.1.isSome)
      && decide ((e :: es).length + ([] : List Keyword).length + (if ([] : List Keyword).isEmpty then 0 else 1) < 30)) = true := by rfl)
    (hline : (apos.endLine == cpos.line) = true := by rfl) (hs : starEach (e :: es) X.env = (false, eval e X.env) :: starEach es X.env := by rfl) (hplain : (backTo cpos (starEach es X.env)).any (·.1) = false := by rfl) :
    PE X (.Call (.Attribute o name apos) (e :: es) [] cpos) (tBM K T r to t) := by
  subst eK
  exact pe_bm pa slot hty hm ho ha hbase hfew hline hs hplain
end L2
namespace L2
open PySem PySem.Spec PyProof.Rows
section
variable {X : Cx}
end
end L2
namespace L2
open PySem PySem.Spec PyProof.Rows
section
open PySem.SeqAt
open PySem.AutoSeq1 (wpAny_loadPart')
open PySem.MeetsSeq PySem.MeetsSeq2 PySem.MeetsSeq3
end
section
open PySem.SeqAt
open PySem.MeetsSeq PySem.MeetsSeq2 PySem.MeetsSeq3
variable {X : Cx}
end
end L2
namespace L2
open PySem PySem.Spec PyProof.Rows
section
variable {X : Cx}
end
end L2
namespace L2
open PySem PySem.Spec PyProof.Rows PySem.MeetsSeq PySem.MeetsSeq2 PySem.MeetsSeq3
section
variable {X : Cx}
def rCatS (K : PySem.W.Frag) : R2 := fun x y H Q => ∃ l b xs zs, x = .ref l ∧ y = .ref b ∧ SqL K H l xs ∧ SqL K H b zs ∧ xs.length + zs.length ≤ sizeLine ∧ ∀ p, H p = none → Q (.ref p) (upd H p (.lst (xs ++ zs)))
theorem op_catS : OpR X (binaryOp .Add) (rCatS X.K) := by
  intro pins s σ H x y v u Q I rx ry h
  obtain ⟨l, b, xs, zs, rfl, rfl, hl, hb, hz, q⟩ := h
  cases rx
  cases ry
  obtain ⟨its, r, pl, h1⟩ := I.list hl
  obtain ⟨jts, r2, pl2, h2⟩ := I.list hb
  have l1 := r.length
  have l2 := r2.length
  obtain ⟨⟨cls, dd, data, sl⟩, n, ho, hc, _, hd⟩ := pl
  obtain ⟨⟨cls2, dd2, data2, sl2⟩, n2, ho2, hc2, _, hd2⟩ := pl2
  simp only at hc hd hc2 hd2
  subst hc hd hc2 hd2
  have ea : its.toArray ++ jts.toArray = (its ++ jts).toArray := by simp
  refine concat_meets ⟨_, ho, rfl⟩ ⟨_, ho2, rfl⟩ noFill_list_add seq_list_add PySem.F.slot_list_add PySem.F.entry_list_add (PySem.F.args_list_add_2 _ _) (list_addW l b its.toArray jts.toArray n n2 dd dd2 sl sl2 (by simp; lia)) ⟨ho, ho2, ?_⟩
  rw [ea]
  exact ⟨.ref _, _, I.lnew (t' := s.toks) (r.append r2) (by rw [List.length_append]; lia), rfl, q _ I.fresh⟩
end
end L2
namespace L2
open PySem PySem.Spec PyProof.Rows
section
variable {prog : Program} {w : World} {A : Around} {E : Value → Shared → Prop} {s : Shared}
end
section
variable {X : Cx} {tg : Expr}
end
end L2
namespace L2
open PySem PySem.Spec PyProof.Rows
section
variable {X : Cx} {elt tg iter tg2 iter2 : Expr} {ifs ifs2 : List Expr} {scope : Scope} {pos : Pos}
end
end L2
namespace L2
open PySem PySem.Spec PyProof.Rows PySem.W
section
variable {X : Cx} {pins : List (Addr × Obj)} {σ : St} {H : Hp} {s : Shared}
end
section
variable {X : Cx}
end
end L2
namespace L2
open PySem PySem.Spec PyProof.Rows PySem.W
theorem KV.key {kvs : List (Key × V)} {vs : List (Key × Value)} {i : Nat} {k : Key} {x : Value} (r : KV kvs vs) (h : vs[i]? = some (k, x)) : (kvs[i]?).map (fun kv => kV kv.1) = some (kV k) := by
  have e := congrArg (fun l => l[i]?) r.keys
  simp only [List.getElem?_map, h, Option.map_some] at e
  cases q : kvs[i]? with
  | none => rw [q] at e; cases e
  | some kv =>
    rw [q] at e
    have e' : kv.1 = k := Option.some.inj e
    rw [Option.map_some, e']
section
variable {X : Cx} {tg : Expr}
end
section
variable {X : Cx} {pins : List (Addr × Obj)} {σ : St} {H : Hp} {s : Shared}
end
end L2
namespace L2
open PySem PySem.Spec PyProof.Rows
section
variable {X : Cx}
end
end L2
namespace L2
open PySem PySem.Spec PyProof.Rows
theorem kept_toks {α : Type} {M : Model} {A : Around} {t : Sem α} {Q : α → Shared → Prop} {E : Value → Shared → Prop} {s : Shared} {n : Nat} (hn : n ≤ s.toks) (h : wpAny M A t Q E s) : wpAny M A t (fun a s' => Q a s' ∧ n ≤ s'.toks) E s :=
  wpAny_mono (wpAny_toks_of hn h) (fun _ _ x => And.symm x) fun _ _ x => x.2
theorem wpAny_made {α : Type} {M : Model} {A : Around} {t : Sem α} {Q : α → Shared → Prop} {E : Value → Shared → Prop} {s : Shared} (ht : ∃ k, t = Sem.fresh k) (h : wpAny M A t Q E s) : wpAny M A t (fun a s' => Q a s' ∧ 0 < s'.toks) E s := by
  obtain ⟨k, rfl⟩ := ht
  have one : wpAny M A (k s.toks) Q E { s with toks := s.toks + 1 } := fun Γ p g => h Γ p g
  exact fun Γ p g => kept_toks (s := { s with toks := s.toks + 1 }) (n := 1) (Nat.succ_pos _) one Γ p g
end L2
namespace L2
open PySem PySem.Spec PyProof.Rows
def strV : PyData → Str
  | .str x => x
  | d => d.shown
structure Showy (d : PyData) : Prop where
  able : d.showable = true
  nod : d.hasDict = false
  dep : d.depth ≤ 100
  len : (∀ x, d ≠ .str x) → d.shown.length ≤ sizeLine
def rStr (K : PySem.W.Frag) : List V → Hp → VK → Prop := fun vs H Q => ∃ x d, vs = [x] ∧ Den K H x d ∧ Showy d ∧ Q (.str (strV d)) H
theorem bt_str' : bootBuiltins "str" = some (.type "str") := by decide +kernel
section
variable {X : Cx}
theorem call_strD {k : Nat} (hr : Room k X.A) : CallR X (.type "str") (rStr X.K) := by
  intro pins s σ H xs us Q I rv h
  obtain ⟨x, d, rfl, hd, ok, q⟩ := h
  obtain ⟨u, rfl, ru⟩ := vals1 rv
  have hu := hr.un
  have big : ∀ a d, Den X.K H (.ref a) d → (∀ x, d ≠ .str x) → Showy d → Q (.str d.shown) H → wpAny (model X.prog X.w) X.A (call (.type "str") [.ref a]) (EP X pins σ Q) X.xe s := fun a d hd hn ok q => by
    obtain ⟨as, r⟩ := I.reads (u := .ref a) hd rfl
    refine str_of_reads (h₀ := s.heap) r ok.able (fun e => by rw [ok.nod] at e; cases e) hr.gd (by have := ok.dep; lia) (fun b o e => e) (fun h' u tk hk => ?_) (ok.len hn)
    exact ⟨.str d.shown, H, I.kept (t' := tk) hk, ⟨u, rfl⟩, q⟩
  cases hd with
  | non => cases ru; exact P.str_of_none ⟨.str "None", H, I.tok _, ⟨_, rfl⟩, by simpa only [strV, PyData.shown] using q⟩
  | bl b => cases ru; exact P.str_of_bool ⟨.str (if b then "True" else "False" : Str), H, I.tok _, ⟨_, rfl⟩, by simpa only [strV, PyData.shown] using q⟩
  | int i =>
    obtain ⟨t, rfl⟩ := ru
    exact P.str_of_int (by simpa [PyData.showable] using ok.able) ⟨.str (toString i : String), H, I.tok _, ⟨_, rfl⟩, by simpa only [strV, PyData.shown] using q⟩
  | str h =>
    obtain ⟨t, rfl⟩ := ru
    exact P.str_of_str ⟨.str _, H, I, ⟨_, rfl⟩, q⟩
  | lst h t =>
    cases ru
    exact big _ _ (.lst h t) (fun _ e => by cases e) ok q
  | tup h t =>
    cases ru
    exact big _ _ (.tup h t) (fun _ e => by cases e) ok q
theorem op_fdivL : OpR X (binaryOp .FloorDiv) (rI (fun _ j => 0 < j ∧ j < 1152921504606846976) fun i j => .int (i / j)) := opI fun i j _ _ _ _ _ hc q => by
  have h1 : (0 : Int) < j := hc.1
  have h2 : j < 1152921504606846976 := hc.2
  have h3 : j.natAbs.log2 < 60 := (Nat.log2_lt (by lia)).mpr (by lia)
  exact floordiv_int (by lia) (by rw [Int.fdiv_eq_ediv_of_nonneg i (by lia)]; exact q) (.inl (PyProof.noPylong_of_log2 (by lia)))
def timesS (x : Str) (n : Nat) : Str := ⟨(List.replicate n x.cps).foldl (· ++ ·) #[]⟩
theorem op_mulS : OpR X (binaryOp .Mult) (fun x y H Q => ∃ (z : Str) (n : Nat), x = .str z ∧ y = .int n ∧ 1 < n ∧ n ≤ 100 ∧ 1 ≤ z.length ∧ z.length ≤ 100 ∧ Q (.str (timesS z n)) H) := by
  intro pins s σ H x y v u Q I rx ry h
  obtain ⟨z, n, rfl, rfl, h1, h2, h3, h4, q⟩ := h
  obtain ⟨t, rfl⟩ := rx
  obtain ⟨t', rfl⟩ := ry
  have e : ((n : Int) == 1 || z.length == 0) = false := by
    rw [Bool.or_eq_false_iff]
    exact ⟨by simp; lia, by simp; lia⟩
  have hs : z.length * n ≤ 10000 := Nat.le_trans (Nat.mul_le_mul h4 h2) (by decide)
  have hlen : (timesS z n).length ≤ sizeLine := by
    have : ∀ (k : Nat) (acc : Array Nat), ((List.replicate k z.cps).foldl (· ++ ·) acc).size = acc.size + z.length * k := by
      intro k
      induction k with
      | zero => intro acc; simp
      | succ k ih => intro acc; rw [List.replicate_succ, List.foldl_cons, ih]; simp [Str.length, Nat.mul_succ]; lia
    show ((List.replicate n z.cps).foldl (· ++ ·) #[]).size ≤ sizeLine
    rw [this]
    exact Nat.le_trans (by simpa using hs) (by decide)
  refine P.mul_str (by rw [Bool.or_eq_false_iff]; exact ⟨decide_eq_false (by lia), decide_eq_false (by lia)⟩) (fun _ _ hgt => ?_) (fun _ _ => decide_eq_false ?_) ?_
  · have : (2 ^ 63 - 1 : Int) / (n : Int) ≥ 100 := by
      refine Int.le_ediv_of_mul_le (by lia) ?_
      have : (100 : Int) * n ≤ 100 * 100 := by lia
      lia
    lia
  · rw [Int.toNat_natCast]
    exact Nat.not_lt.mpr (Nat.le_trans hs (by decide))
  · rw [if_neg (by lia), e, if_neg Bool.false_ne_true, Int.toNat_natCast]
    exact ⟨hlen, .str (timesS z n), H, I.tok _, ⟨_, rfl⟩, q⟩
end
section
variable {X : Cx}
def PEq (X : Cx) (e : Expr) (t : TE) : Prop :=
  ∀ (pins : List (Addr × Obj)) (s : Shared) (σ : St) (H : Hp) (Q : VK), 0 < s.toks → Inv X pins σ H s → t σ H Q → wpAny (model X.prog X.w) X.A (eval e X.env) (EP X pins σ Q) X.xe s
def PIq (X : Cx) (tg iter : Expr) (wi : TI) : Prop :=
  ∀ (pins : List (Addr × Obj)) (s : Shared) (σ : St) (H : Hp) (R : It → Hp → Prop), 0 < s.toks → Inv X pins σ H s → wi σ H R →
    wpAny (model X.prog X.w) X.A (eval iter X.env) (fun v s1 => wpAny (model X.prog X.w) X.A (pyIter v) (PIE X pins σ tg R) X.xe s1) X.xe s
def PSsq (X : Cx) (st : List Stmt) (t : TS) : Prop :=
  ∀ (pins : List (Addr × Obj)) (s : Shared) (σ : St) (H : Hp) (D : Ends), 0 < s.toks → Inv X pins σ H s → t D σ H → wpAny (model X.prog X.w) X.A (execs st X.env) (SP X pins D) X.xe s
def PTq (X : Cx) (e : Expr) (t : TT) : Prop :=
  ∀ (whole : Sem Value) (pins : List (Addr × Obj)) (s : Shared) (σ : St) (H : Hp) (Q : Bool → Hp → Prop), Inv X pins σ H s → t σ H Q → wpAny (model X.prog X.w) X.A (isTrue e X.env whole) (fun b s' => TP X pins σ Q b s' ∧ (b = false → 0 < s'.toks)) X.xe s
theorem ptq_one {a : Expr} {tA : TT} {pos : Pos} (ha : PT X a tA) (hf : ∃ k, isTrue a X.env (eval a X.env) = Sem.fresh k) : PTq X (.BoolOp .Or [a] pos) tA := by
  intro wh pins s σ H Q I h
  refine isTrue_or (thn (wpAny_made hf (ha pins s σ H Q I h)) fun c s1 ⟨e, ht⟩ => ?_)
  cases c with
  | false => exact isTrue_or_nil ⟨e, fun _ => ht⟩
  | true => exact ⟨e, fun z => by cases z⟩
theorem ptq_or {a b : Expr} {rest : List Expr} {tA tB : TT} {pos : Pos} (ha : PT X a tA) (hb : PTq X (.BoolOp .Or (b :: rest) pos) tB) : PTq X (.BoolOp .Or (a :: b :: rest) pos) (tOr tA tB) := by
  intro wh pins s σ H Q I h
  refine isTrue_or (thn (ha pins s σ H _ I h) fun c s1 ⟨H1, I1, q1⟩ => ?_)
  cases c with
  | true => exact ⟨⟨H1, I1, q1⟩, fun z => by cases z⟩
  | false => exact hb wh pins s1 σ H1 Q I1 q1
def tIfq (tc : TT) (t u : TS) : TS := fun D σ H => tc σ H fun b H1 => if b = true then t { D with nx := fun _ _ => False } σ H1 else u D σ H1
theorem pssq_if {c : Expr} {a rest : List Stmt} {tc : TT} {t u : TS} {pos : Pos} (hc : PTq X c tc) (ha : PSs X a t) (hr : PSsq X rest u) : PSs X (.If c a [] pos :: rest) (tIfq tc t u) := by
  intro pins s σ H D I h
  refine wpAny_execs_cons ?_
  refine wpAny_If (thn (hc _ pins s σ H _ I h) fun d s1 ⟨⟨H1, I1, q1⟩, ht⟩ => ?_)
  cases d with
  | true =>
    refine thn (ha pins s1 σ H1 _ I1 q1) fun f s2 q => ?_
    cases f with
    | next => exact q.elim fun _ q => q.elim fun _ q => q.2.elim
    | ret v => exact q
    | brk => exact q
    | cont => exact q
  | false => exact wpAny_execs_nil (hr pins s1 σ H1 D (ht rfl) I1 q1)
theorem pssq_ret {e : Expr} {te : TE} {pos : Pos} (he : PEq X e te) : PSsq X [.Return (some e) pos] (tRet te) := by
  intro pins s σ H D ht I h
  refine wpAny_execs_cons (wpAny_Return_some (thn (he pins s σ H _ ht I h) fun v s1 ⟨x, H1, I1, r1, q1⟩ => ?_))
  exact ⟨x, σ, H1, I1, r1, q1⟩
theorem peq_cmpR {a b : Expr} {ta tb : TE} {pos : Pos} {op : CmpOp} {r : R2} (ho : OpR X (compareOp op) r) (ha : PEq X a ta) (hb : PE X b tb) (hm : behindInMarks op b = false) : PEq X (.Compare a [op] [b] pos) (tOp r ta tb) := by
  intro pins s σ H Q ht I h
  refine wpAny_Compare1 (thn (ha pins s σ H _ ht I h) fun v s1 ⟨x, H1, I1, r1, q1⟩ => thn (hb pins s1 σ H1 _ I1 q1) fun u s2 ⟨y, H2, I2, r2, q2⟩ => ?_) hm
  exact ho pins s2 σ H2 x y v u Q I2 r1 r2 q2
theorem peq_comp {elt tg iter : Expr} {ifs : List Expr} {scope : Scope} {pos : Pos} {N' : List Str} {n : Nat} {fi : List Nat} {wi : TI} {g : TG} {tt : TT} {te : TE} (hcalm : X.calm = true) (S : CScope X scope N' n fi) (hit : PIq X tg iter wi)
    (hg : ∀ s H fp, PG (compCx X scope N' s H fp) tg g) (hi : ∀ s H fp, PIfs (compCx X scope N' s H fp) ifs tt) (he : ∀ s H fp, PE (compCx X scope N' s H fp) elt te)
    (hs : ∀ x, foldedSetIterable iter X.env x = pure x := by intro _; rfl) : PEq X (.ListComp elt [⟨tg, iter, ifs, 0⟩] scope pos) (tComp wi g tt te n fi) := by
  intro pins s σ H Q ht I h
  rw [eval_ListComp]
  refine comp_core (use := none) hcalm S (fun R z => hit pins s σ H R ht I z) hg hi he I h hs fun D C s' H' m I' hm hn hC hL h2 h3 q => ⟨m, hm, fun h' hs' => ?_⟩
  exact ⟨.ref D, H', I'.letGo hs' hn hC hL h2 h3, rfl, q⟩
theorem piq_str {tg l : Expr} {tl : TE} (hl : PEq X l tl) : PIq X tg l (iStr tl) := by
  intro pins s σ H R ht I h
  refine thn (hl pins s σ H _ ht I h) fun v s1 ⟨x, H1, I1, r1, z, e, q⟩ => ?_
  subst e
  obtain ⟨t, rfl⟩ := r1
  exact iter_str I1 q
def tRepl (K : PySem.W.Frag) (y z : Str) (to : TE) : TE := fun σ H Q => to σ H fun x H1 => ∃ v, x = .str v ∧ (y == z) = false ∧ v.length ≤ 10000 ∧ z.length ≤ 14 ∧ Q (.str (Txt.replace v y z)) H1
theorem peq_replace {o : Expr} {to : TE} {y z : Str} {k1 k2 : Nat} {p1 p2 apos cpos : Pos} (ho : PE X o to)
    (hbase : attributeBase o "replace" X.env (eval o X.env) = eval o X.env := by rfl)
    (hfew : ((backTo cpos (starEach [.Constant (.str y) k1 p1, .Constant (.str z) k2 p2] X.env)).all (fun x => !x.1) && (backToKw cpos (keywordEach [] X.env)).all (fun x => x.1.isSome)
      && decide (([.Constant (.str y) k1 p1, .Constant (.str z) k2 p2] : List Expr).length + ([] : List Keyword).length + (if ([] : List Keyword).isEmpty then 0 else 1) < 30)) = true := by rfl)
    (hline : (apos.endLine == cpos.line) = true := by rfl) :
    PEq X (.Call (.Attribute o "replace" apos) [.Constant (.str y) k1 p1, .Constant (.str z) k2 p2] [] cpos) (tRepl X.K y z to) := by
  intro pins s σ H Q ht I h
  refine wpAny_Call_method_late hbase hfew hline rfl (thn (kept_toks (n := 1) ht (ho pins s σ H _ I h)) fun u s1 ⟨⟨x, H1, I1, r1, v, e, hyz, hv, hz, q⟩, h1⟩ => ?_)
  subst e
  obtain ⟨t, rfl⟩ := r1
  refine ⟨"str", "str.replace", PySem.F.plainAttrs_str, PySem.F.slot_str_replace, PySem.F.type_str_replace, typeIs_str s1 v t, (fun _ e => nomatch e), ?_⟩
  · refine Calls.callWith_builtin rfl (Calls.evalArgs_plain ?_)
    refine Calls.spliced_cons (x := eval (.Constant (.str y) k1 p1) X.env) (Calls.Constant_str ?_)
    refine Calls.spliced_cons (x := eval (.Constant (.str z) k2 p2) X.env) (rest := []) (Calls.Constant_str ?_)
    refine Calls.spliced_nil ?_
    refine SC.replaceW (Nat.ne_of_gt h1) (Nat.succ_ne_zero _) (Nat.ne_of_lt (Nat.lt_succ_self _)) hyz (Nat.le_trans hv (by decide)) hz fun t' k => ?_
    exact ⟨.str _, H1, I1.tok _, ⟨_, rfl⟩, q⟩
structure PAj (X : Cx) (es : List Expr) (t : TA) : Prop where
  go : PA X es t
theorem paj_nil : PAj X [] tNil := ⟨pa_nil⟩
theorem paj_cons {e : Expr} {es : List Expr} {te : TE} {t : TA} (ha : PE X e te) (h : PAj X es t) (hs : starEach (e :: es) X.env = (false, eval e X.env) :: starEach es X.env := by rfl) : PAj X (e :: es) (tCons te t) := ⟨pa_cons ha h.go hs⟩
theorem paj_s {x : Str} {j : Nat} {pos : Pos} {es : List Expr} {t : TA} (h : PAj X es t) : PAj X (.Constant (.str x) j pos :: es) (tCons (tC (.str x)) t) := ⟨pa_cons pe_str h.go (by rfl)⟩
theorem pe_lstj {es : List Expr} {t : TA} {pos : Pos} (h : PAj X es t) : PE X (.List es pos) (tLst t) := pe_lst h.go
structure PSj (X : Cx) (st : Stmt) (t : TS) : Prop where
  go : PS X st t
structure PSsj (X : Cx) (st : List Stmt) (t : TS) : Prop where
  go : PSs X st t
theorem pssj_cons {st : Stmt} {rest : List Stmt} {t u : TS} (h1 : PSj X st t) (h2 : PSsj X rest u) : PSsj X (st :: rest) (tSeq t u) := ⟨pss_cons h1.go h2.go⟩
theorem psj_ix {x : Str} {p p2 p3 p4 : Pos} {es : List Expr} {t : TA} {e : Expr} {te : TE} {i : Nat} (hn : X.N.Nodup) (hi : X.N[i]? = some x) (hx : Loc X.env.scope x) (hf : X.fn x = true ∨ X.env.scope.names.lookup x = some .local) (h : PAj X es t) (he : PE X e te) (hs : NoSl e)
    (hsw : swapsWith (.Subscript (.List es p2) e p3) (some (.Name x p)) p4.line X.env = pure false) : PSj X (.Assign [.Name x p] (.Subscript (.List es p2) e p3) p4) (tAsg (tOp (rIxL X.K) (tLst t) te) (gName i)) := ⟨ps_set hn hi hx (pe_ix ix_list (pe_lst h.go) he hs) hsw hf⟩
theorem psj_for {tg iter : Expr} {body : List Stmt} {wi : TI} {g : TG} {tb : TS} {pos : Pos} (hp : PassesOwn (model X.prog X.w) X.A X.env X.xe) (hc : X.calm = true) (hi : PI X tg iter wi) (hg : PG X tg g) (hb : PSsj X body tb)
    (hs : ∀ x, foldedSetIterable iter X.env x = pure x := by intro _; rfl) : PSj X (.For tg iter body [] pos) (tFor wi g tb) := ⟨ps_for hp hc hi hg hb.go hs⟩
theorem psj_forL {tg : Expr} {es : List Expr} {t : TA} {body : List Stmt} {g : TG} {tb : TS} {p pos : Pos} (hp : PassesOwn (model X.prog X.w) X.A X.env X.xe) (hc : X.calm = true) (h : PAj X es t) (hg : PG X tg g) (hb : PSsj X body tb)
    (hs : ∀ x, foldedSetIterable (.List es p) X.env x = pure x := by intro _; rfl) : PSj X (.For tg (.List es p) body [] pos) (tFor (iList X.K (tLst t)) g tb) := ⟨ps_for hp hc (pi_list (pe_lst h.go)) hg hb.go hs⟩
end
end L2
namespace LG
open PySem L2 PySem.Builtin PySem.Builtin.Str
def sgn (c : Nat) : Bool := decide (33 ≤ c) && decide (c ≤ 126) && decide (c ≠ 37)
def dig (c : Nat) : Bool := decide (48 ≤ c) && decide (c ≤ 57)
def low (c : Nat) : Bool := decide (97 ≤ c) && decide (c ≤ 122)
def onlyB (p : Nat → Bool) (l : List Nat) : Bool := !l.isEmpty && l.all p
def unminus : List Nat → List Nat
  | 45 :: r => r
  | l => l
def kindL (l : List Nat) : Nat := if onlyB dig (unminus l) = true then 0 else if onlyB low l = true then 1 else 2
def wordB (z : Str) : Bool := onlyB sgn z.cps.toList
def kindT (z : Str) : Nat := kindL z.cps.toList
def kindW : Nat → Str
  | 0 => "number"
  | 1 => "name"
  | _ => "other"
def kindS : Nat → Str
  | 0 => "number"
  | 1 => "name"
  | _ => "any"
theorem str_ext {x y : Str} (h : x.cps.toList = y.cps.toList) : x = y := by
  cases x; cases y
  simp only [Str.mk.injEq]
  exact Array.toList_inj.mp h
theorem takeWhile_all {α : Type} {p : α → Bool} : ∀ {l : List α}, (l.takeWhile p).length = l.length ↔ l.all p = true
  | [] => by simp
  | a :: r => by
    rw [List.takeWhile_cons, List.all_cons]
    by_cases h : p a = true
    · rw [if_pos h, h, Bool.true_and]
      simp only [List.length_cons, Nat.add_right_cancel_iff]
      exact takeWhile_all
    · rw [if_neg h]
      simp [h]
theorem strip_nil (z y : Str) : decide (V.str (Txt.stripChars z y) = V.str "") = z.cps.toList.all (fun c => y.cps.contains c) := by
  have e : Txt.stripChars z y = strSub z (stripLo (fun c => y.cps.contains c) true z) (stripHi (fun c => y.cps.contains c) true z (stripLo (fun c => y.cps.contains c) true z)) := PyProof.Rows.stripBy_eq _ true true z
  have h1 := PyProof.Rows.lo_facts (fun c => y.cps.contains c) z
  have h2 := PyProof.Rows.hi_facts (fun c => y.cps.contains c) z (stripLo (fun c => y.cps.contains c) true z) h1.1
  have hlo : stripLo (fun c => y.cps.contains c) true z = (z.cps.toList.takeWhile fun c => y.cps.contains c).length := by simp [stripLo]
  have hz : z.length = z.cps.toList.length := by simp [Str.length]
  (rw [Bool.eq_iff_iff, decide_eq_true_eq])
  constructor
  · intro h
    have h0 : (Txt.stripChars z y).cps.size = 0 := by
      have : Txt.stripChars z y = "" := by injection h
      rw [this]; rfl
    rw [e] at h0
    have h3 : stripHi (fun c => y.cps.contains c) true z (stripLo (fun c => y.cps.contains c) true z) ≤ stripLo (fun c => y.cps.contains c) true z := by
      have h4 : (Array.extract z.cps (stripLo (fun c => y.cps.contains c) true z) (stripHi (fun c => y.cps.contains c) true z (stripLo (fun c => y.cps.contains c) true z))).size = 0 := h0
      rw [Array.size_extract] at h4
      have h5 := h2.2.1
      have h6 : z.length = z.cps.size := rfl
      lia
    rcases Nat.lt_or_ge (stripLo (fun c => y.cps.contains c) true z) z.length with hl | hl
    · rcases h1.2.2 with q | q
      · lia
      · have := h2.2.2.1 (stripLo (fun c => y.cps.contains c) true z) h3 hl
        rw [q] at this
        cases this
    · have q : stripLo (fun c => y.cps.contains c) true z = z.length := Nat.le_antisymm h1.1 hl
      rw [hlo, hz] at q
      exact takeWhile_all.mp q
  · intro h
    have h3 := takeWhile_all.mpr h
    rw [← hlo, ← hz] at h3
    have : Txt.stripChars z y = "" := by
      rw [e, h3]
      refine str_ext ?_
      have h4 := h2.2.1
      refine List.eq_nil_of_length_eq_zero ?_
      show (Array.extract z.cps z.length _).toList.length = 0
      rw [Array.length_toList, Array.size_extract]
      have h6 : z.length = z.cps.size := rfl
      lia
    rw [this]
theorem minus_eq (z : Str) : (Txt.removeprefix z "-").cps.toList = unminus z.cps.toList := by
  rw [StrLaws.removeprefix_eq]
  have h1 : (("-" : Str)).length = 1 := rfl
  have h2 : (("-" : Str)).cps = #[45] := by decide +kernel
  rw [h1]
  have hz : z.length = z.cps.toList.length := by simp [Str.length]
  have hs : subAt z "-" 0 = (z.cps.extract 0 (0 + 1) == #[45]) := by
    unfold subAt
    rw [h1, h2]
  rw [hs]
  cases e : z.cps.toList with
  | nil =>
    have h3 : z.length = 0 := by rw [hz, e]; rfl
    rw [h3]
    simp [unminus, e]
  | cons a r =>
    have h3 : z.length = r.length + 1 := by rw [hz, e]; rfl
    have h4 : z.cps.extract 0 (0 + 1) = #[a] := by
      apply Array.toList_inj.mp
      rw [Array.toList_extract, e]
      simp
    rw [h4, h3]
    by_cases ha : a = 45
    · subst ha
      simp [unminus]
    · have h5 : (#[a] == #[45]) = false := by
        rw [beq_eq_false_iff_ne]
        intro h
        apply ha
        simpa using h
      rw [h5]
      simp only [Bool.and_false, Bool.false_eq_true, if_false]
      rw [e]
      unfold unminus
      split
      · rename_i q; cases q; exact (ha rfl).elim
      · rfl
end LG
namespace LG
open PySem L2 PySem.Builtin PySem.Builtin.Str PySem.StrLaws
def isB (l : List Nat) (i : Nat) : Bool := decide (l[i]? = some 32)
theorem count_ix : ∀ l : List Nat, (List.range l.length).countP (isB l) = l.count 32
  | [] => rfl
  | a :: r => by
    rw [List.length_cons, List.range_succ_eq_map, List.countP_cons, List.countP_map, List.count_cons]
    have e : (isB (a :: r) ∘ Nat.succ) = isB r := by funext i; simp [isB]
    rw [e, count_ix r]
    have e2 : isB (a :: r) 0 = (a == 32) := by rw [Bool.eq_iff_iff]; simp [isB]
    rw [e2]
theorem sub_blank (z : Str) (i : Nat) : subAt z " " i = isB z.cps.toList i := by
  have h2 : ((" " : Str)).cps.toList = [32] := by decide +kernel
  have h1 : ((" " : Str)).length = 1 := rfl
  rw [subAt_eq, h1, h2]
  unfold isB
  cases e : z.cps.toList[i]? with
  | none =>
    rw [List.drop_of_length_le (List.getElem?_eq_none_iff.mp e)]
    decide
  | some c =>
    have hi := ge_len e
    rw [List.drop_eq_getElem_cons hi]
    rw [List.getElem?_eq_getElem hi] at e
    cases e
    rw [Bool.eq_iff_iff]
    simp
theorem occ_many (z : Str) (limit : Nat) (hl : z.length < limit) : ∀ (m k : Nat) (st : Array Nat × Nat), k + m ≤ z.length + 1 → st.1.size ≤ k → st.2 ≤ k →
    st.1.size + (List.range' k m).countP (isB z.cps.toList) ≤ (forIn (List.range' k m) st (occBody z " " z.length limit)).run.1.size
  | 0, k, st, _, _, _ => by
    simp only [List.range'_zero, List.countP_nil, Nat.add_zero, List.forIn_nil]
    exact Nat.le_refl _
  | m + 1, k, st, hk, hs, hf => by
    have h1 : ((" " : Str)).length = 1 := rfl
    rw [List.range'_succ, List.forIn_cons, List.countP_cons]
    unfold occBody
    by_cases hb : isB z.cps.toList k = true
    · have hkl : k < z.length := by
        have : z.cps.toList[k]? = some 32 := by simpa [isB] using hb
        have := ge_len this
        simpa [Str.length] using this
      rw [if_pos hb, if_pos ⟨⟨⟨by lia, hf⟩, by rw [h1]; lia⟩, by rw [sub_blank]; exact hb⟩]
      have ih := occ_many z limit hl m (k + 1) (st.1.push k, k + ((" " : Str)).length) (by lia) (by show (st.1.push k).size ≤ k + 1; rw [Array.size_push]; lia) (by show k + _ ≤ k + 1; rw [h1]; exact Nat.le_refl _)
      have e : (st.1.push k, k + ((" " : Str)).length).1.size = st.1.size + 1 := by show (st.1.push k).size = _; rw [Array.size_push]
      rw [e] at ih
      refine Nat.le_trans ?_ ih
      lia
    · rw [if_neg hb, if_neg (by rw [sub_blank]; exact fun h => hb h.2)]
      have ih := occ_many z limit hl m (k + 1) (st.1, st.2) (by lia) (by show st.1.size ≤ _; lia) (by show st.2 ≤ _; lia)
      exact ih
theorem occ_count (z : Str) : z.cps.toList.count 32 ≤ (occurrences z " " 0 z.length (z.length + 1)).length := by
  rw [occ_eq]
  have h := occ_many z (z.length + 1) (Nat.lt_succ_self _) (z.length + 1) 0 (#[], 0) (by lia) (by simp) (Nat.le_refl _)
  have e : (List.range' 0 (z.length + 1)).countP (isB z.cps.toList) = z.cps.toList.count 32 := by
    rw [← List.range_eq_range', List.range_succ, List.countP_append]
    have hz : z.length = z.cps.toList.length := by simp [Str.length]
    have e2 : isB z.cps.toList z.length = false := by
      unfold isB
      rw [hz, List.getElem?_eq_none (Nat.le_refl _)]
      rfl
    rw [hz, count_ix, ← hz]
    simp [e2]
  rw [e] at h
  simp only [Array.length_toList]
  have h0 : ((#[] : Array Nat), 0).1.size = 0 := rfl
  rw [h0, Nat.zero_add] at h
  exact h
theorem split_size (z : Str) : (Txt.split z " ").length = (occurrences z " " 0 z.length (z.length + 1)).length + 1 ∨ (Txt.split z " " = [z] ∧ z.cps.toList.count 32 = 0) := by
  unfold Txt.split
  split
  · rename_i h
    right
    refine ⟨rfl, ?_⟩
    rw [Bool.or_eq_true, decide_eq_true_eq, decide_eq_true_eq] at h
    have h1 : ((" " : Str)).length = 1 := rfl
    rcases h with h | h
    · have hz : z.cps.toList = [] := List.eq_nil_of_length_eq_zero (by rw [Array.length_toList]; have : z.length = z.cps.size := rfl; lia)
      rw [hz]; rfl
    · exfalso
      have e : PySem.Builtin.Str.strKind (" " : Str) = 1 := by decide +kernel
      rw [e] at h
      unfold PySem.Builtin.Str.strKind at h
      split at h
      · lia
      · split at h <;> lia
  · split
    · rename_i h
      right
      refine ⟨rfl, ?_⟩
      have := occ_count z
      rw [List.isEmpty_iff.mp h] at this
      simpa using this
    · left
      rw [length_partsBetween]
theorem count_join (ts : List Str) (hne : ts ≠ []) : (Str.join " " ts).cps.toList.count 32 = (ts.map fun t => t.cps.toList.count 32).sum + (ts.length - 1) := by
  have h2 : ((" " : Str)).cps.toList = [32] := by decide +kernel
  induction ts with
  | nil => exact (hne rfl).elim
  | cons x r ih =>
    cases r with
    | nil => show x.cps.toList.count 32 = _; simp
    | cons y r =>
      have e : Str.join " " (x :: y :: r) = x ++ " " ++ Str.join " " (y :: r) := rfl
      rw [e]
      have e2 : (x ++ (" " : Str) ++ Str.join " " (y :: r)).cps.toList = x.cps.toList ++ [32] ++ (Str.join " " (y :: r)).cps.toList := by
        rw [← h2]
        (simp only [Str.cps_append, Array.toList_append])
      rw [e2, List.count_append, List.count_append, ih (by simp)]
      simp only [List.map_cons, List.sum_cons, List.length_cons, List.count_singleton_self]
      lia
theorem sum_zero : ∀ {l : List Nat}, l.sum = 0 → ∀ x ∈ l, x = 0
  | [], _, x, h => by cases h
  | a :: r, hs, x, h => by
    simp only [List.sum_cons] at hs
    (rcases List.mem_cons.mp h with rfl | h)
    · lia
    · exact sum_zero (by lia) x h
theorem split_free (z : Str) : ∀ x ∈ Txt.split z " ", 32 ∉ x.cps.toList := by
  intro x hx
  have hj := StrLaws.join_split z " "
  have hne : Txt.split z " " ≠ [] := by intro e; rw [e] at hx; cases hx
  have hc := count_join (Txt.split z " ") hne
  rw [hj] at hc
  rcases split_size z with h | h
  · rw [h] at hc
    have h3 := occ_count z
    have h4 : (List.map (fun t : Str => t.cps.toList.count 32) (Txt.split z " ")).sum = 0 := by lia
    have h5 := sum_zero h4 (x.cps.toList.count 32) (List.mem_map.mpr ⟨x, hx, rfl⟩)
    exact List.count_eq_zero.mp h5
  · rw [h.1] at hx
    simp only [List.mem_singleton] at hx
    subst hx
    exact List.count_eq_zero.mp h.2
theorem app_inj {a b c d : List Nat} (h : a ++ 32 :: b = c ++ 32 :: d) (ha : 32 ∉ a) (hc : 32 ∉ c) : a = c ∧ b = d := by
  induction a generalizing c with
  | nil =>
    cases c with
    | nil => simp at h; exact ⟨rfl, h⟩
    | cons e c => simp at h; exact (hc (by simp [← h.1])).elim
  | cons e a ih =>
    cases c with
    | nil => simp at h; exact (ha (by simp [h.1])).elim
    | cons e' c =>
      simp only [List.cons_append, List.cons.injEq] at h
      obtain ⟨h1, h2⟩ := ih h.2 (fun q => ha (List.mem_cons_of_mem _ q)) (fun q => hc (List.mem_cons_of_mem _ q))
      exact ⟨by rw [h.1, h1], h2⟩
theorem joinL (x y : Str) (r : List Str) : (Str.join " " (x :: y :: r)).cps.toList = x.cps.toList ++ 32 :: (Str.join " " (y :: r)).cps.toList := by
  have h2 : ((" " : Str)).cps.toList = [32] := by decide +kernel
  have e : Str.join " " (x :: y :: r) = x ++ " " ++ Str.join " " (y :: r) := rfl
  rw [e]
  simp only [Str.cps_append, Array.toList_append, h2, List.append_assoc, List.singleton_append]
theorem join_inj : ∀ {ts us : List Str}, ts ≠ [] → us ≠ [] → (∀ x ∈ ts, 32 ∉ x.cps.toList) → (∀ x ∈ us, 32 ∉ x.cps.toList) → (Str.join " " ts).cps.toList = (Str.join " " us).cps.toList → ts = us
  | [x], [y], _, _, _, _, h => by rw [str_ext (x := x) (y := y) h]
  | [x], y :: y2 :: r, _, _, hx, _, h => by
    rw [joinL] at h
    have h : x.cps.toList = y.cps.toList ++ 32 :: (Str.join " " (y2 :: r)).cps.toList := h
    exact (hx x (by simp) (by rw [h]; simp)).elim
  | x :: x2 :: r, [y], _, _, _, hy, h => by
    rw [joinL] at h
    have h : x.cps.toList ++ 32 :: (Str.join " " (x2 :: r)).cps.toList = y.cps.toList := h
    exact (hy y (by simp) (by rw [← h]; simp)).elim
  | x :: x2 :: r, y :: y2 :: q, _, _, hx, hy, h => by
    rw [joinL, joinL] at h
    obtain ⟨h1, h2⟩ := app_inj h (hx x (by simp)) (hy y (by simp))
    have := join_inj (ts := x2 :: r) (us := y2 :: q) (by simp) (by simp) (fun z hz => hx z (List.mem_cons_of_mem _ hz)) (fun z hz => hy z (List.mem_cons_of_mem _ hz)) h2
    rw [str_ext h1, this]
theorem split_join {ws : List Str} (hne : ws ≠ []) (h : ∀ x ∈ ws, 32 ∉ x.cps.toList) : Txt.split (Txt.join " " ws) " " = ws := by
  have e : Txt.join " " ws = Str.join " " ws := StrLaws.glued_eq_join " " ws
  have hj := StrLaws.join_split (Txt.join " " ws) " "
  refine join_inj ?_ hne (split_free _) h ?_
  · intro e
    have := (L2.split_len1 (z := Txt.join " " ws) (y := " ")).1
    rw [e] at this
    exact absurd this (by decide)
  · rw [hj, e]
theorem join_split' (z : Str) : Txt.join " " (Txt.split z " ") = z := by
  rw [show Txt.join " " (Txt.split z " ") = Str.join " " (Txt.split z " ") from StrLaws.glued_eq_join " " _]
  exact StrLaws.join_split z " "
end LG
namespace LG
open PySem L2 PySem.Builtin PySem.Builtin.Str
theorem has_range (y : Str) (p : Nat → Bool) (h1 : ∀ c < 200, y.cps.contains c = p c) (h2 : ∀ x ∈ y.cps.toList, x < 200) (h3 : ∀ c, 200 ≤ c → p c = false) : (fun c => y.cps.contains c) = p := by
  funext c
  rcases Nat.lt_or_ge c 200 with h | h
  · exact h1 c h
  · rw [h3 c h]
    rw [Bool.eq_false_iff]
    intro q
    have := h2 c (by simpa using q)
    lia
theorem sgn_far (c : Nat) (h : 200 ≤ c) : sgn c = false := by unfold sgn; rw [decide_eq_false (show ¬ c ≤ 126 by lia)]; simp
theorem dig_far (c : Nat) (h : 200 ≤ c) : dig c = false := by unfold dig; rw [decide_eq_false (show ¬ c ≤ 57 by lia)]; simp
theorem low_far (c : Nat) (h : 200 ≤ c) : low c = false := by unfold low; rw [decide_eq_false (show ¬ c ≤ 122 by lia)]; simp
@[irreducible] def FIGS : Str := "0123456789"
@[irreducible] def LOWS : Str := "abcdefghijklmnopqrstuvwxyz"
@[irreducible] def SIGNS : Str := "!\"#$&'()*+,-./0123456789:;<=>?@ABCDEFGHIJKLMNOPQRSTUVWXYZ[\\]^_`abcdefghijklmnopqrstuvwxyz{|}~"
theorem FIGS_is : FIGS = "0123456789" := by unfold FIGS; rfl
theorem LOWS_is : LOWS = "abcdefghijklmnopqrstuvwxyz" := by unfold LOWS; rfl
theorem SIGNS_is : SIGNS = "!\"#$&'()*+,-./0123456789:;<=>?@ABCDEFGHIJKLMNOPQRSTUVWXYZ[\\]^_`abcdefghijklmnopqrstuvwxyz{|}~" := by unfold SIGNS; rfl
theorem has_figs : (fun c => FIGS.cps.contains c) = dig := has_range _ _ (by decide +kernel) (by decide +kernel) dig_far
theorem has_lows : (fun c => LOWS.cps.contains c) = low := has_range _ _ (by decide +kernel) (by decide +kernel) low_far
theorem has_signs : (fun c => SIGNS.cps.contains c) = sgn := has_range _ _ (by decide +kernel) (by decide +kernel) sgn_far
theorem dec_nil (z : Str) : decide (V.str z = V.str "") = z.cps.toList.isEmpty := by
  rw [Bool.eq_iff_iff, decide_eq_true_eq, List.isEmpty_iff]
  constructor
  · intro h
    have : z = "" := by injection h
    rw [this]; rfl
  · intro h
    have : z = "" := str_ext (by rw [h]; rfl)
    rw [this]
theorem only_eq (z y : Str) : ((!decide (V.str z = V.str "")) && decide (V.str (Txt.stripChars z y) = V.str "")) = onlyB (fun c => y.cps.contains c) z.cps.toList := by
  rw [dec_nil, strip_nil]
  rfl
theorem kindL_lt (l : List Nat) : kindL l < 3 := by
  unfold kindL
  split
  · decide
  · split <;> decide
def lawKindL (l : List Nat) : Nat := if onlyB dig (unminus l) = true then 0 else if l.all low = true then 1 else 2
theorem lawKind_eq {l : List Nat} (h : l ≠ []) : lawKindL l = kindL l := by
  unfold lawKindL kindL
  have : onlyB low l = l.all low := by
    unfold onlyB
    cases l with
    | nil => exact (h rfl).elim
    | cons a r => simp
  rw [this]
theorem pick_all (z : Str) : ∀ (n a : Nat), a + n ≤ z.cps.toList.length → ((List.range n).map fun k => a + k).filterMap (fun i => z.cps[i]?) = (z.cps.toList.drop a).take n
  | 0, a, _ => by simp
  | n + 1, a, h => by
    rw [List.range_succ, List.map_append, List.filterMap_append, pick_all z n a (by lia)]
    have ha : a + n < z.cps.toList.length := by lia
    have e : z.cps[a + n]? = some (z.cps.toList[a + n]) := by
      rw [← Array.getElem?_toList, List.getElem?_eq_getElem ha]
    simp only [List.map_cons, List.map_nil, List.filterMap_cons, e, List.filterMap_nil]
    rw [List.take_succ, List.getElem?_drop, List.getElem?_eq_getElem ha]
    rfl
theorem slice_idx (z : Str) {l u : Option Int} {a n : Nat} (h : strSliceIndices l u 1 z.length = (List.range n).map fun k => a + k) (hn : a + n ≤ z.length) : (Txt.slice z l u).cps.toList = (z.cps.toList.drop a).take n := by
  have hz : z.length = z.cps.toList.length := by simp [Str.length]
  unfold Txt.slice
  rw [h]
  split
  · rename_i hc
    have hc' : n = z.length := by simpa using hc
    have ha : a = 0 := by lia
    subst ha
    rw [List.drop_zero, List.take_of_length_le (by lia)]
  · show (List.toArray _).toList = _
    rw [List.toList_toArray]
    exact pick_all z n a (by lia)
theorem slice_head (z : Str) : (Txt.slice z none (some 1)).cps.toList = z.cps.toList.take 1 := by
  have hz : z.length = z.cps.toList.length := by simp [Str.length]
  have h : strSliceIndices none (some 1) 1 z.length = (List.range (min 1 z.length)).map fun k => 0 + k := by
    (unfold strSliceIndices sliceRange)
    simp only [show (1 : Int) > 0 by decide, if_true, show ¬ (1 : Int) < 0 by decide, if_false]
    have e : (if (0 : Int) < max 0 (min 1 (z.length : Int)) then (max 0 (min 1 (z.length : Int)) - 0 + 1 - 1) / 1 else 0).toNat = min 1 z.length := by
      split <;> lia
    rw [e]
    (refine List.map_congr_left fun k _ => ?_)
    lia
  rw [slice_idx z h (by lia), List.drop_zero]
  rcases Nat.eq_zero_or_pos z.length with q | q
  · have : z.cps.toList = [] := List.eq_nil_of_length_eq_zero (by lia)
    rw [this]; simp
  · rw [Nat.min_eq_left q]
theorem slice_tail (z : Str) : (Txt.slice z (some 1) none).cps.toList = z.cps.toList.drop 1 := by
  have hz : z.length = z.cps.toList.length := by simp [Str.length]
  have h : strSliceIndices (some 1) none 1 z.length = (List.range (z.length - 1)).map fun k => min 1 z.length + k := by
    (unfold strSliceIndices sliceRange)
    simp only [show (1 : Int) > 0 by decide, if_true, show ¬ (1 : Int) < 0 by decide, if_false]
    have e : (if max 0 (min 1 (z.length : Int)) < (z.length : Int) then ((z.length : Int) - max 0 (min 1 (z.length : Int)) + 1 - 1) / 1 else 0).toNat = z.length - 1 := by
      split <;> lia
    rw [e]
    refine List.map_congr_left fun k hk => ?_
    have := List.mem_range.mp hk
    lia
  rw [slice_idx z h (by lia)]
  rcases Nat.eq_zero_or_pos z.length with q | q
  · have : z.cps.toList = [] := List.eq_nil_of_length_eq_zero (by lia)
    rw [this]; simp
  · rw [Nat.min_eq_left q, List.take_of_length_le (by rw [List.length_drop]; lia)]
theorem dash_head (z : Str) : decide (V.str (Txt.slice z none (some 1)) = V.str "-") = decide (z.cps.toList.head? = some 45) := by
  have h2 : (("-" : Str)).cps.toList = [45] := by decide +kernel
  (rw [Bool.eq_iff_iff, decide_eq_true_eq, decide_eq_true_eq])
  constructor
  · intro h
    have e : Txt.slice z none (some 1) = "-" := by injection h
    have e2 := slice_head z
    rw [e, h2] at e2
    cases q : z.cps.toList with
    | nil => rw [q] at e2; simp at e2
    | cons a r => rw [q] at e2; simp at e2; simp [e2]
  · intro h
    have e : Txt.slice z none (some 1) = "-" := by
      refine str_ext ?_
      rw [slice_head, h2]
      cases q : z.cps.toList with
      | nil => rw [q] at h; simp at h
      | cons a r => rw [q] at h; simp at h; simp [h]
    rw [e]
theorem unminus_yes {l : List Nat} (h : l.head? = some 45) : l.drop 1 = unminus l := by
  cases l with
  | nil => simp at h
  | cons a r => simp at h; subst h; rfl
theorem unminus_no {l : List Nat} (h : l.head? ≠ some 45) : l = unminus l := by
  cases l with
  | nil => rfl
  | cons a r =>
    unfold unminus
    split
    · rename_i q; cases q; exact (h rfl).elim
    · rfl
theorem lt1 (a b : Nat) : decide ([a] < [b]) = decide (a < b) := by
  (rw [Bool.eq_iff_iff, decide_eq_true_eq, decide_eq_true_eq])
  constructor
  · intro h
    cases h with
    | rel h => exact h
    | cons h => cases h
  · intro h
    exact List.Lex.rel h
end LG
namespace LG
open PySem L2 PySem.Builtin PySem.Builtin.Str
theorem le1 (a b : Nat) : (!decide (([b] : List Nat) < [a])) = decide (a ≤ b) := by
  rw [lt1]
  by_cases h : b < a
  · rw [decide_eq_true h, decide_eq_false (by lia)]; rfl
  · rw [decide_eq_false h, decide_eq_true (by lia)]; rfl
theorem not_betweenX {a b : Str} {lo hi c : Nat} (ha : a = ⟨#[lo]⟩) (hb : b = ⟨#[hi]⟩) {H2 : Hp} {R : Bool → Hp → Prop} (h : R (!(decide (lo ≤ c) && decide (c ≤ hi))) H2) :
    tNot (tTest (tChain (fun x y H Q => ∃ i j, x = .str i ∧ y = .str j ∧ Q (.bl (!decide (j.cps.toList < i.cps.toList))) H) (fun x y H Q => ∃ i j, x = .str i ∧ y = .str j ∧ Q (.bl (!decide (j.cps.toList < i.cps.toList))) H) (tC (.str a)) (tVar 0) (tC (.str b)))) [some (.str ⟨#[c]⟩)] H2 R := by
  subst ha hb
  refine ⟨_, rfl, _, _, rfl, rfl, _, rfl, ?_⟩
  have e1 : (!decide ((⟨#[c]⟩ : Str).cps.toList < (⟨#[lo]⟩ : Str).cps.toList)) = decide (lo ≤ c) := le1 lo c
  rw [e1]
  by_cases h1 : lo ≤ c
  · rw [decide_eq_true h1] at h ⊢
    rw [if_pos rfl]
    refine ⟨_, _, rfl, rfl, _, rfl, ?_⟩
    have e2 : (!decide ((⟨#[hi]⟩ : Str).cps.toList < (⟨#[c]⟩ : Str).cps.toList)) = decide (c ≤ hi) := le1 c hi
    rw [e2]
    rw [Bool.true_and] at h
    exact h
  · rw [decide_eq_false h1] at h ⊢
    rw [if_neg Bool.false_ne_true]
    refine ⟨_, rfl, ?_⟩
    rw [Bool.false_and] at h
    exact h
def sg (c : Nat) : Str := ⟨#[c]⟩
section
variable {K : PySem.W.Frag} {tt : TT} {D : Addr} {Q : VK} {H : Hp}
theorem comp_signsX {z : Str} (f : Nat → Bool) (hz : PyData.strOk z = true) (hl : z.length ≤ 1000000) (hD : H D = none) (ht : ∀ (c : Nat) (H2 : Hp) (R : Bool → Hp → Prop), R (f c) H2 → tt [some (.str ⟨#[c]⟩)] H2 R)
    (hq : ∀ (H2 : Hp), Same H H2 → H2 D = some (.lst (((z.cps.toList.filter f).map sg).map V.str)) → Q (.ref D) H2) :
    CompW (gName 0) tt (tVar 0) (Its z) D Q [none] (upd H D (.lst [])) := by
  have hzl : z.length = z.cps.toList.length := by simp [Str.length]
  refine comp_str (fun i acc σ H2 => (∃ u, σ = [u]) ∧ Same H H2 ∧ acc = ((((z.cps.toList.take i).filter f).map sg).map V.str)) upd_same ⟨⟨_, rfl⟩, Same.new hD, rfl⟩ (fun i c acc σ H2 hc hDx p => ?_) (fun acc σ H2 hDx p => ?_)
  · obtain ⟨⟨u, rfl⟩, s2, rfl⟩ := p
    have hc' : z.cps.toList[i]? = some c := by rw [Array.getElem?_toList]; exact hc
    have hi : i < z.cps.toList.length := ge_len hc'
    have et : z.cps.toList.take (i + 1) = z.cps.toList.take i ++ [c] := by rw [List.take_add_one, hc']; rfl
    have hlen : ((((z.cps.toList.take i).filter f).map sg).map V.str).length ≤ i := by
      simp only [List.length_map]
      exact Nat.le_trans (List.length_filter_le _ _) (by rw [List.length_take]; lia)
    show tt [some (.str ⟨#[c]⟩)] H2 _
    refine ht _ _ _ ?_
    cases hf : f c with
    | true =>
      refine iteT ?_
      refine ⟨_, rfl, _, hDx, small (by lia), _, upd_same, ⟨_, rfl⟩, snap_upd hD s2, ?_⟩
      rw [et, List.filter_append, List.map_append, List.map_append]
      simp [hf, sg]
    | false =>
      refine iteF ⟨_, hDx, ⟨_, rfl⟩, s2, ?_⟩
      rw [et, List.filter_append]
      simp [hf]
  · obtain ⟨_, s2, rfl⟩ := p
    rw [List.take_of_length_le (by lia)] at hDx
    exact hq H2 s2 hDx
theorem ok_sg {z : Str} (hz : PyData.strOk z = true) {f : Nat → Bool} : ∀ x ∈ (z.cps.toList.filter f).map sg, PyData.strOk x = true := fun x hx => by
  obtain ⟨c, hc, rfl⟩ := List.mem_map.mp hx
  have := mem_of_ok hz c (by simpa using (List.mem_filter.mp hc).1)
  exact ok_of_mem fun d hd => by simp [sg] at hd; lia
theorem no_signsX {σ : St} {i : Nat} {z : Str} {R : Bool → Hp → Prop} (f : Nat → Bool) (hs : σ[i]? = some (some (.str z))) (hz : PyData.strOk z = true) (hl : z.length ≤ 1000000) (ht : ∀ (c : Nat) (H2 : Hp) (R : Bool → Hp → Prop), R (f c) H2 → tt [some (.str ⟨#[c]⟩)] H2 R)
    (h : ∀ H', Same H H' → R (z.cps.toList.all fun c => !f c) H') : tTest (tOp (rEqD K) (tComp (iStr (tVar i)) (gName 0) tt (tVar 0) 1 []) (tLst tNil)) σ H R := by
  refine ⟨_, hs, z, rfl, fun D hD => ?_⟩
  refine comp_signsX f hz hl hD ht fun H2 s2 hD2 => ?_
  refine ⟨Nat.zero_le _, fun p hp => ?_⟩
  refine ⟨.list (((z.cps.toList.filter f).map sg).map .str), .list [], .lst (.of (by rw [upd_ne (ne_of_none hD2 hp)]; exact hD2)) (dens_strs (ok_sg hz)), .lst (.of upd_same) .nil, ?_, _, rfl, ?_⟩
  · have : PyData.depthAll (((z.cps.toList.filter f).map sg).map PyData.str) ≤ 0 := depthAll_le _ fun d hd => by
      obtain ⟨x, _, rfl⟩ := List.mem_map.mp hd
      exact Nat.le_refl _
    show PyData.depthAll _ + 1 ≤ 100
    lia
  · have e : PyData.eqv (.list (((z.cps.toList.filter f).map sg).map .str)) (.list []) = z.cps.toList.all fun c => !f c := by
      have : PyData.eqv (.list (((z.cps.toList.filter f).map sg).map .str)) (.list []) = (z.cps.toList.filter f).isEmpty := by
        cases z.cps.toList.filter f with
        | nil => rfl
        | cons a r => rfl
      rw [this, Bool.eq_iff_iff, List.isEmpty_iff, List.filter_eq_nil_iff, List.all_eq_true]
      simp
    rw [e]
    exact h _ (s2.trans (Same.new hp))
end
inductive Pt where
  | word (w : Str)
  | hole (k : Nat)
  deriving DecidableEq
def Pt.dat : Pt → PyData
  | .word w => .tuple [.str "word", .str w]
  | .hole k => .tuple [.str "hole", .str (kindS k)]
def TOk (w : Str) : Prop := w.length ≤ 10000 ∧ PyData.strOk w = true
def Pt.ok : Pt → Prop
  | .word w => TOk w
  | .hole k => k < 3
def patD (ps : List Pt) : PyData := .list (ps.map Pt.dat)
def POk (ps : List Pt) : Prop := ps.length ≤ 10000 ∧ ∀ p ∈ ps, p.ok
def Pt.takes : Pt → Str → Bool
  | .word x, w => decide (w = x)
  | .hole 0, w => decide (kindT w = 0)
  | .hole 1, w => decide (kindT w = 1)
  | .hole _, w => wordB w
def takesAll (ps : List Pt) (ws : List Str) : Bool := decide (ps.length = ws.length) && (ps.zip ws).all fun p => p.1.takes p.2
def Pt.within : Pt → Pt → Bool
  | .word x, q => q.takes x
  | .hole k, q => decide (q = .hole k) || decide (q = .hole 2)
def withinAll (ps qs : List Pt) : Bool := decide (ps.length = qs.length) && (ps.zip qs).all fun p => p.1.within p.2
def Pt.loose : Pt → Int
  | .word _ => 0
  | .hole 0 => 1
  | .hole 1 => 1
  | .hole _ => 2
def Pt.around : Pt → Nat
  | .word w => kindT w
  | .hole k => k
def joinP (ps : List Pt) : Pt := match ps with
  | [] => .hole 2
  | p :: r => if r.all (fun q => decide (q = p)) = true then p else if r.all (fun q => decide (q.around = p.around)) = true then .hole p.around else .hole 2
end LG
namespace LG
open PySem L2 PySem.Builtin PySem.Builtin.Str
def LOk (w : Str) : Prop := w.length ≤ 10000
theorem LOk.s {w : Str} (h : LOk w) : w.length ≤ sizeLine := Nat.le_trans h (by decide)
def sp_has_only (K : PySem.W.Frag) : Sp := fun vs H Q _ => ∃ z y : Str, vs = [.str z, .str y] ∧ LOk z ∧ Q (.bl (onlyB (fun c => y.cps.contains c) z.cps.toList)) H
def sp_is_word (K : PySem.W.Frag) : Sp := fun vs H Q _ => ∃ z : Str, vs = [.str z] ∧ LOk z ∧ Q (.bl (wordB z)) H
def sp_kind_of (K : PySem.W.Frag) : Sp := fun vs H Q _ => ∃ z : Str, vs = [.str z] ∧ LOk z ∧ Q (.str (kindW (kindT z))) H
def sp_words_of (K : PySem.W.Frag) : Sp := fun vs H Q _ => ∃ z : Str, vs = [.str z] ∧ LOk z ∧ ∀ l, H l = none → Q (.ref l) (upd H l (.lst ((Txt.split z " ").map V.str)))
theorem around_lt {p : Pt} (h : p.ok) : p.around < 3 := by
  cases p with
  | word w => exact kindL_lt _
  | hole k => exact h
theorem kindT_lt (z : Str) : kindT z < 3 := kindL_lt _
theorem within_hole (m : Nat) (q : Pt) : (Pt.hole m).within q = (decide (q = .hole m) || decide (q = .hole 2)) := rfl
theorem minus_len (z : Str) : (Txt.removeprefix z "-").length ≤ z.length := by
  have h := minus_eq z
  have h1 : (Txt.removeprefix z "-").length = (Txt.removeprefix z "-").cps.toList.length := by simp [Str.length]
  have h2 : z.length = z.cps.toList.length := by simp [Str.length]
  rw [h1, h, h2]
  generalize z.cps.toList = l
  unfold unminus
  split <;> simp
theorem zip_all {α β : Type} {f : α × β → Bool} {xs : List α} {ys : List β} (h : ∀ (i : Nat) x y, i < min xs.length ys.length → xs[i]? = some x → ys[i]? = some y → f (x, y) = true) : (xs.zip ys).all f = true := by
  rw [List.all_eq_true]
  intro p hp
  obtain ⟨i, hi⟩ := List.getElem?_of_mem hp
  rw [List.getElem?_zip_eq_some] at hi
  have h1 := ge_len hi.1
  have h2 := ge_len hi.2
  exact h i p.1 p.2 (by lia) hi.1 hi.2
theorem strs_at {ws : List Str} {i : Nat} {y : V} (h : (ws.map V.str)[i]? = some y) : ∃ w, ws[i]? = some w ∧ y = .str w := by
  rw [List.getElem?_map] at h
  cases e : ws[i]? with
  | none => rw [e] at h; cases h
  | some w => rw [e] at h; cases h; exact ⟨w, rfl, rfl⟩
def joinAll (pss : List (List Pt)) (n : Nat) : List Pt := (List.range n).map fun i => joinP (pss.map fun ps => ps.getD i (.hole 2))
end LG
namespace LG
open PySem L2
def Pt.key : Pt → PyData
  | .word w => .tuple [.int 0, .int w.length, .str w]
  | .hole k => .tuple [.int 1, .int k, .str ""]
def keyD (ps : List Pt) : PyData := .tuple [.int ps.length, .list (ps.map Pt.key)]
theorem map_inj {α β : Type} {f : α → β} (hf : ∀ a b, f a = f b → a = b) : ∀ {l l' : List α}, l.map f = l'.map f → l = l'
  | [], [], _ => rfl
  | [], _ :: _, h => by simp at h
  | _ :: _, [], h => by simp at h
  | a :: r, b :: r', h => by
    rw [List.map_cons, List.map_cons] at h
    injection h with h1 h2
    rw [hf a b h1, map_inj hf h2]
def sp_word_key (K : PySem.W.Frag) : Sp := fun vs H Q _ => ∃ w, vs = [.str w] ∧ LOk w ∧ ∀ p, H p = none → Q (.ref p) (upd H p (.tup [.int w.length, .str w]))
end LG
namespace LG
open PySem L2
def looseD (ps : List Pt) : PyData := .list (ps.map fun p => .int p.loose)
def Least (l : List (List Pt)) (ps : List Pt) : Prop := ps ∈ l ∧ ∀ q ∈ l, ltv (looseD q) (looseD ps) = false ∧ (looseD q = looseD ps → ltv (keyD q) (keyD ps) = false)
end LG
namespace LG
open PySem L2 PySem.Builtin PySem.Builtin.Str
def Dk (H : Hp) (d : Addr) (n : Nat) : Prop := ∃ a b c : Int, H d = some (.lst [.int a, .int b, .int c]) ∧ 0 ≤ a ∧ 0 ≤ b ∧ b < 2147483579 ∧ 0 ≤ c ∧ c ≤ n
theorem Dk.mono {H : Hp} {d : Addr} {n m : Nat} (h : Dk H d n) (hm : n ≤ m) : Dk H d m := by
  obtain ⟨a, b, c, h1, h2, h3, h4, h5, h6⟩ := h
  exact ⟨a, b, c, h1, h2, h3, h4, h5, by lia⟩
theorem Dk.lst {H : Hp} {d : Addr} {n : Nat} (h : Dk H d n) : ∃ ys, H d = some (.lst ys) := by
  obtain ⟨a, b, c, h1, _⟩ := h
  exact ⟨_, h1⟩
theorem Dk.same {H H' : Hp} {d : Addr} {n : Nat} (h : Dk H d n) (s : Same H H') : Dk H' d n := by
  obtain ⟨a, b, c, h1, h2⟩ := h
  exact ⟨a, b, c, s _ _ h1, h2⟩
theorem Dk.upd {H : Hp} {d D : Addr} {n : Nat} {o : HO} (h : Dk H d n) (hne : d ≠ D) : Dk (upd H D o) d n := by
  obtain ⟨a, b, c, h1, h2⟩ := h
  exact ⟨a, b, c, by rw [upd_ne hne]; exact h1, h2⟩
theorem Dk.ne {H : Hp} {d p : Addr} {n : Nat} (h : Dk H d n) (hp : H p = none) : d ≠ p := by
  obtain ⟨ys, h1⟩ := h.lst
  exact ne_of_none h1 hp
theorem Dk.free {H H' : Hp} {d p : Addr} {n : Nat} (h : Dk H' d n) (s : Same (wo d H) H') (hp : H' p = none) : H p = none := by
  have h1 : (wo d H) p = none := s.free hp
  rwa [wo_at (h.ne hp).symm] at h1
theorem keepN {H H' : Hp} {d p : Addr} {o : HO} (s : Same (wo d H) H') (h : H p = some o) (hne : d ≠ p) : H' p = some o := s p o (by rw [wo_at (Ne.symm hne)]; exact h)
theorem lim_wo_mono {H H3 H4 : Hp} {d : Addr} {ys : List V} (h : H d = some (.lst ys)) (s : Same (wo d H3) H4) : Same (lim H H3) (lim H H4) := fun b o e => by
  have h1 := lim_get e
  have hb : b ≠ d := fun q => by subst q; exact h1 _ h
  rw [lim_at h1]
  exact s b o (by rw [wo_at hb]; exact lim_same b o e)
theorem at_strs {l : List Str} {r : Int} (h0 : 0 ≤ r) (h1 : r < l.length) : ∃ x ∈ l, atI (l.map V.str) r = some (.str x) := by
  obtain ⟨j, rfl⟩ := Int.eq_ofNat_of_zero_le (h0 : (0 : Int) ≤ r)
  have hj : j < l.length := by lia
  exact ⟨l[j], List.getElem_mem hj, atI_nat (by rw [List.getElem?_map, List.getElem?_eq_getElem hj]; rfl)⟩
theorem at_sign {z : Str} {r : Int} (h0 : 0 ≤ r) (h1 : r < z.length) : ∃ (c i : Nat), atI z.cps.toList r = some c ∧ z.cps[i]? = some c := by
  obtain ⟨j, rfl⟩ := Int.eq_ofNat_of_zero_le (h0 : (0 : Int) ≤ r)
  have hj : j < z.cps.size := by have : z.length = z.cps.size := rfl; lia
  exact ⟨z.cps[j], j, atI_nat (by rw [Array.getElem?_toList, Array.getElem?_eq_getElem hj]), Array.getElem?_eq_getElem hj⟩
theorem ixN_in {n : Nat} {i : Int} (h0 : 0 ≤ i) (h1 : i < n) : ixN n i = some i.toNat := by
  unfold ixN
  rw [if_pos h0, if_pos h1]
theorem cut_take {xs : List V} {i : Int} (h : 0 ≤ i) : cutV xs none (some i) = xs.take i.toNat := by
  unfold cutV
  have h1 : HT.sIx xs.length 0 none = 0 := by simp [HT.sIx]
  rw [h1]
  obtain ⟨j, rfl⟩ := Int.eq_ofNat_of_zero_le (h : (0 : Int) ≤ i)
  rw [HT.sIx_nat, Int.toNat_natCast, List.drop_zero, Nat.sub_zero]
  rcases Nat.le_total j xs.length with q | q
  · rw [Nat.min_eq_left q]
  · rw [Nat.min_eq_right q, List.take_of_length_le (Nat.le_refl _), List.take_of_length_le q]
structure WOk (w : Str) : Prop where
  word : wordB w = true
  len : w.length ≤ 5
  ok : PyData.strOk w = true
theorem sgn_no32 : sgn 32 = false := by decide
theorem WOk.blank {w : Str} (h : WOk w) : 32 ∉ w.cps.toList := fun q => by
  have h1 := h.word
  unfold wordB onlyB at h1
  rw [Bool.and_eq_true, List.all_eq_true] at h1
  have := h1.2 32 q
  rw [sgn_no32] at this
  cases this
theorem WOk.ne {w : Str} (h : WOk w) : w.cps.toList ≠ [] := fun q => by
  have h1 := h.word
  unfold wordB onlyB at h1
  rw [q] at h1
  cases h1
def words1 : List Str := ["get", "put", "a"]
def words2 : List Str := ["0", "7", "12", "-3", "007"]
def words3 : List Str := ["id=4", "<any>", "=", "x1", "-", "A", "<", "none"]
def words4 : List Str := ["abcdefghijklmnopqrstuvwxyz", "0123456789", "-09az", "!\"#$&'()*+,-./:;<=>?@AZ[\\]^_{|}~"]
theorem w1 : ∀ x ∈ words1, wordB x = true ∧ x.length ≤ 5 ∧ PyData.strOk x = true := by decide +kernel
theorem w2 : ∀ x ∈ words2, wordB x = true ∧ x.length ≤ 5 ∧ PyData.strOk x = true := by decide +kernel
theorem w3 : ∀ x ∈ words3, wordB x = true ∧ x.length ≤ 5 ∧ PyData.strOk x = true := by decide +kernel
theorem w4 : ∀ x ∈ words4, PyData.strOk x = true ∧ x.length ≤ 100 ∧ 0 < x.length ∧ x.cps.toList.all sgn = true := by decide +kernel
theorem glue_p {p : Nat → Prop} {y : Str} (hy : ∀ c ∈ y.cps, p c) : ∀ (xs : List Str) (acc : Array Nat), (∀ x ∈ xs, ∀ c ∈ x.cps, p c) → (∀ c ∈ acc, p c) → (∀ c ∈ xs.foldl (fun acc q => acc ++ y.cps ++ q.cps) acc, p c) ∧ acc.size ≤ (xs.foldl (fun acc q => acc ++ y.cps ++ q.cps) acc).size
  | [], acc, _, h => ⟨h, Nat.le_refl _⟩
  | x :: r, acc, hx, h => by
    have ih := glue_p hy r (acc ++ y.cps ++ x.cps) (fun z hz => hx z (List.mem_cons_of_mem _ hz)) fun c hc => by
      rcases Array.mem_append.mp hc with hc | hc
      · rcases Array.mem_append.mp hc with hc | hc
        · exact h c hc
        · exact hy c hc
      · exact hx x (List.mem_cons_self ..) c hc
    refine ⟨ih.1, Nat.le_trans ?_ ih.2⟩
    rw [Array.size_append, Array.size_append]
    lia
theorem join_word {l : List Str} (hn : 1 ≤ l.length) (hl : l.length ≤ 4) (h : ∀ y ∈ l, PyData.strOk y = true ∧ y.length ≤ 1 ∧ ∃ c, y = ⟨#[c]⟩ ∧ sgn c = true) : WOk (Txt.join "" l) := by
  have hj := ok_join (y := "") (m := 1) (by decide +kernel) (fun y hy => ⟨(h y hy).1, (h y hy).2.1⟩)
  have h0 : (("" : Str)).length = 0 := rfl
  rw [h0] at hj
  refine ⟨?_, by lia, hj.1⟩
  cases l with
  | nil => simp at hn
  | cons x r =>
    have hx := h x (List.mem_cons_self ..)
    obtain ⟨c, hxc, hsc⟩ := hx.2.2
    have hp := glue_p (p := fun c => sgn c = true) (y := "") (fun c hc => by rw [show (Str.ofString "").cps = #[] from rfl] at hc; simp at hc) r x.cps (fun y hy c hc => by
      obtain ⟨c', rfl, h'⟩ := (h y (List.mem_cons_of_mem _ hy)).2.2
      simp at hc
      subst hc
      exact h') (fun c hc => by
      subst hxc
      simp at hc
      subst hc
      exact hsc)
    have e : (Txt.join "" (x :: r)).cps = r.foldl (fun acc q => acc ++ (("" : Str)).cps ++ q.cps) x.cps := rfl
    unfold wordB onlyB
    rw [e, Bool.and_eq_true]
    constructor
    · have hs : 1 ≤ (r.foldl (fun acc q => acc ++ (("" : Str)).cps ++ q.cps) x.cps).size := Nat.le_trans (by subst hxc; simp) hp.2
      cases q : (r.foldl (fun acc q => acc ++ (("" : Str)).cps ++ q.cps) x.cps).toList with
      | nil => rw [← Array.length_toList, q] at hs; simp at hs
      | cons a b => rfl
    · rw [List.all_eq_true]
      intro c hc
      exact hp.1 c (by simpa using hc)
def sp__law_deck (K : PySem.W.Frag) : Sp := fun vs H Q _ => ∃ c : Int, vs = [.int c, .int 0] ∧ ∀ d H', H d = none → Same H H' → Dk H' d 0 → Q (.ref d) H'
def sp__law_pick (K : PySem.W.Frag) : Sp := fun vs H Q _ => ∃ (d : Addr) (m : Int) (n : Nat), vs = [.ref d, .int m] ∧ Dk H d n ∧ n < 1000000 ∧ 0 < m ∧ m < 1000000 ∧ ∀ (r : Int) H', Same (wo d H) H' → Dk H' d (n + 1) → 0 ≤ r → r < m → Q (.int r) H'
def sp__law_kind (K : PySem.W.Frag) : Sp := fun vs H Q _ => ∃ z : Str, vs = [.str z] ∧ TOk z ∧ ∀ H', Same H H' → Q (.str (kindW (lawKindL z.cps.toList))) H'
def sp__law_word (K : PySem.W.Frag) : Sp := fun vs H Q _ => ∃ (d : Addr) (n : Nat), vs = [.ref d] ∧ Dk H d n ∧ n < 900000 ∧ ∀ (x : Str) H', Same (wo d H) H' → Dk H' d (n + 6) → WOk x → Q (.str x) H'
structure LnOk (m : Nat) (x : Str) (ws : List Str) : Prop where
  eq : x = Txt.join " " ws
  pos : 1 ≤ ws.length
  le : ws.length ≤ m
  wd : ∀ w ∈ ws, WOk w
theorem LnOk.split {m : Nat} {x : Str} {ws : List Str} (h : LnOk m x ws) : Txt.split x " " = ws := by
  rw [h.eq]
  exact split_join (by intro e; have := h.pos; rw [e] at this; simp at this) fun w hw => (h.wd w hw).blank
theorem LnOk.ok {m : Nat} {x : Str} {ws : List Str} (h : LnOk m x ws) (hm : m ≤ 12) : PyData.strOk x = true ∧ x.length ≤ 72 := by
  have hj := ok_join (y := " ") (m := 5) (by decide +kernel) (fun y hy => ⟨(h.wd y hy).ok, (h.wd y hy).len⟩)
  have h1 : ((" " : Str)).length = 1 := rfl
  rw [h1, ← h.eq] at hj
  have := h.le
  exact ⟨hj.1, by lia⟩
def sp__law_line (K : PySem.W.Frag) : Sp := fun vs H Q _ => ∃ (d : Addr) (m : Int) (n : Nat), vs = [.ref d, .int m] ∧ Dk H d n ∧ n < 800000 ∧ 0 < m ∧ m < 13 ∧ ∀ (x : Str) (ws : List Str) H', Same (wo d H) H' → Dk H' d (n + 80) → LnOk m.toNat x ws → Q (.str x) H'
def Drawn (w : Str) (p : Pt) : Prop := p = .word w ∨ (p = .hole (lawKindL w.cps.toList) ∧ lawKindL w.cps.toList < 2) ∨ p = .hole 2
def DrawnAll (ws : List Str) (ps : List Pt) : Prop := ps.length = ws.length ∧ ∀ (i : Nat) w p, ws[i]? = some w → ps[i]? = some p → Drawn w p
end LG
namespace LG
open PySem L2
def PatInv (K : PySem.W.Frag) (H : Hp) (d : Addr) (z : Str) (F L : Addr) (n i : Nat) (σ : St) (H3 : Hp) : Prop :=
  (∃ u1 u2 u3, σ = [some (.ref d), some (.str z), some (.ref F), u1, u2, u3]) ∧ Same (wo d H) H3 ∧ Dk H3 d (n + i) ∧ H3 L = some (.lst ((Txt.split z " ").map V.str)) ∧
  ∃ (acc : List V) (ps : List Pt), H3 F = some (.lst acc) ∧ ps.length = i ∧ (∀ p ∈ ps, Pt.ok p) ∧ (∀ (j : Nat) w p, (Txt.split z " ")[j]? = some w → ps[j]? = some p → Drawn w p) ∧ Dens K (lim (upd H F (.lst [])) H3) acc (ps.map Pt.dat)
theorem PatInv.step {K : PySem.W.Frag} {H H5 : Hp} {d F L t : Addr} {z a b wd : Str} {acc : List V} {n i : Nat} {σ : St} {ps : List Pt} {pt : Pt} (hdF : d ≠ F) (hFL : F ≠ L) (hF : H F = none)
    (hσ : ∃ u1 u2 u3, σ = [some (.ref d), some (.str z), some (.ref F), u1, u2, u3]) (s5 : Same (wo d H) H5) (dk5 : Dk H5 d (n + (i + 1))) (hL : H5 L = some (.lst ((Txt.split z " ").map V.str))) (hF5 : H5 F = some (.lst acc)) (hps : ps.length = i) (hok : ∀ p ∈ ps, Pt.ok p)
    (hdr : ∀ (j : Nat) w p, (Txt.split z " ")[j]? = some w → ps[j]? = some p → Drawn w p) (dn : Dens K (lim (upd H F (.lst [])) H5) acc (ps.map Pt.dat)) (hw : (Txt.split z " ")[i]? = some wd) (hd : Drawn wd pt) (e : pt.dat = .tuple [.str a, .str b]) (hpt : pt.ok) (ha : PyData.strOk a = true) (hb : PyData.strOk b = true) (ht : H5 t = none) :
    PatInv K H d z F L n (i + 1) σ (upd (upd H5 t (.tup [.str a, .str b])) F (.lst (acc ++ [.ref t]))) := by
  have hFt : F ≠ t := ne_of_none hF5 ht
  have hLt : L ≠ t := ne_of_none hL ht
  have st : Same H5 (upd H5 t (.tup [.str a, .str b])) := Same.new ht
  refine ⟨hσ, snap_upd (by rw [wo_at hdF.symm]; exact hF) (s5.trans st), (dk5.same st).upd hdF, by rw [upd_ne hFL.symm]; exact st _ _ hL, acc ++ [.ref t], ps ++ [pt], upd_same, by simp [hps], fun p hp => ?_, fun j w p hj hp => ?_, ?_⟩
  · (rcases List.mem_append.mp hp with hp | hp)
    · exact hok p hp
    · simp only [List.mem_singleton] at hp
      subst hp
      exact hpt
  · rcases Nat.lt_trichotomy j ps.length with q | q | q
    · rw [List.getElem?_append_left q] at hp
      exact hdr j w p hj hp
    · subst q
      rw [List.getElem?_append_right (Nat.le_refl _)] at hp
      simp at hp
      subst hp
      rw [hps, hw] at hj
      cases hj
      exact hd
    · rw [List.getElem?_eq_none (by rw [List.length_append, List.length_singleton]; lia)] at hp
      cases hp
  · rw [lim_upd (ys := []) upd_same, List.map_append]
    refine (dn.same (lim_mono st)).append (.cons ?_ .nil)
    have hn : (upd H F (.lst [])) t = none := by rw [upd_ne hFt.symm]; exact dk5.free s5 ht
    rw [e]
    exact .tup (.of ((lim_new hn).trans upd_same)) (.cons (.str ha) (.cons (.str hb) .nil))
end LG
namespace LG
open PySem L2
structure WsOk (ws : List Str) : Prop where
  pos : 1 ≤ ws.length
  le : ws.length ≤ 12
  wd : ∀ w ∈ ws, WOk w
theorem WsOk.line {ws : List Str} (h : WsOk ws) : LnOk 12 (Txt.join " " ws) ws := ⟨rfl, h.pos, h.le, h.wd⟩
def sp__law_lines (K : PySem.W.Frag) : Sp := fun vs H Q _ => ∃ (d : Addr) (m : Int) (n : Nat), vs = [.ref d, .int m] ∧ Dk H d n ∧ n < 700000 ∧ 0 ≤ m ∧ m ≤ 60 ∧
  ∀ D (ls : List Str) H', H D = none → Same (wo d H) H' → Dk H' d (n + 2000) → H' D = some (.lst (ls.map V.str)) → (∀ x ∈ ls, ∃ ws, LnOk 12 x ws) → ls.length ≤ m.toNat → Q (.ref D) H'
def Shapes (Hs : Hp) (acc : List V) : Prop := ∀ x ∈ acc, ∃ (s : Addr) (ws : List Str), x = .ref s ∧ Hs s = some (.lst (ws.map V.str)) ∧ WsOk ws
theorem at_ints {r : Int} (h0 : 0 ≤ r) (h1 : r < 3) : ∃ v : Int, atI [V.int 3, V.int 6, V.int 12] r = some (.int v) ∧ 0 < v ∧ v < 13 := by
  have : r = 0 ∨ r = 1 ∨ r = 2 := by lia
  rcases this with rfl | rfl | rfl
  · exact ⟨3, rfl, by decide, by decide⟩
  · exact ⟨6, rfl, by decide, by decide⟩
  · exact ⟨12, rfl, by decide, by decide⟩
theorem WsOk.set {ws : List Str} (h : WsOk ws) {i : Nat} {x : Str} (hx : WOk x) : WsOk (ws.set i x) := by
  refine ⟨by rw [List.length_set]; exact h.pos, by rw [List.length_set]; exact h.le, fun w hw => ?_⟩
  rcases List.mem_or_eq_of_mem_set hw with q | q
  · exact h.wd w q
  · rw [q]; exact hx
end LG
namespace LG
open PySem L2
structure FitsW (ws : List Str) (ps : List Pt) : Prop where
  ok : POk ps
  len : ps.length = ws.length
  takes : ∀ (i : Nat) w p, ws[i]? = some w → ps[i]? = some p → p.takes w = true
theorem FitsW.all {ws : List Str} {ps : List Pt} (h : FitsW ws ps) : takesAll ps ws = true := by
  unfold takesAll
  rw [decide_eq_true h.len, Bool.true_and]
  exact zip_all fun i p w _ hp hw => h.takes i w p hw hp
theorem drawn_takes {w : Str} {p : Pt} (hw : WOk w) (h : Drawn w p) : p.takes w = true := by
  rcases h with rfl | ⟨rfl, hk⟩ | rfl
  · exact decide_eq_true rfl
  · have e : lawKindL w.cps.toList = kindT w := lawKind_eq hw.ne
    rw [e] at hk ⊢
    have : kindT w = 0 ∨ kindT w = 1 := by lia
    rcases this with q | q
    · rw [q]; exact decide_eq_true q
    · rw [q]; exact decide_eq_true q
  · exact hw.word
theorem FitsW.drawn {ws : List Str} {ps : List Pt} (hok : POk ps) (hw : ∀ w ∈ ws, WOk w) (h : DrawnAll ws ps) : FitsW ws ps :=
  ⟨hok, h.1, fun i w p hi hp => drawn_takes (hw w (List.mem_of_getElem? hi)) (h.2 i w p hi hp)⟩
theorem join2_takes {p q : Pt} {w : Str} (hw : wordB w = true) (hp : p.takes w = true) (hq : q.takes w = true) (op : p.ok) : (joinP [p, q]).takes w = true := by
  have e : joinP [p, q] = if ([q].all fun x => decide (x = p)) = true then p else if ([q].all fun x => decide (x.around = p.around)) = true then .hole p.around else .hole 2 := rfl
  rw [e]
  split
  · exact hp
  · split
    · cases p with
      | word x =>
        have hx : w = x := of_decide_eq_true hp
        subst hx
        show (Pt.hole (kindT w)).takes w = true
        have h3 := kindT_lt w
        have : kindT w = 0 ∨ kindT w = 1 ∨ kindT w = 2 := by lia
        rcases this with z | z | z
        · rw [z]; exact decide_eq_true z
        · rw [z]; exact decide_eq_true z
        · rw [z]; exact hw
      | hole k => exact hp
    · exact hw
theorem join_ok {p q : Pt} (hp : p.ok) : (joinP [p, q]).ok := by
  have e : joinP [p, q] = if ([q].all fun x => decide (x = p)) = true then p else if ([q].all fun x => decide (x.around = p.around)) = true then .hole p.around else .hole 2 := rfl
  rw [e]
  split
  · exact hp
  · split
    · exact around_lt hp
    · exact (by decide : 2 < 3)
theorem getD_at {ps : List Pt} {i : Nat} (h : i < ps.length) : ps[i]? = some (ps.getD i (.hole 2)) := by
  (simp [List.getD, List.getElem?_eq_getElem h])
theorem FitsW.join {ws : List Str} {p q : List Pt} (hw : ∀ w ∈ ws, WOk w) (hp : FitsW ws p) (hq : FitsW ws q) : FitsW ws (joinAll [p, q] ws.length) := by
  have hl : (joinAll [p, q] ws.length).length = ws.length := by simp [joinAll]
  have key : ∀ i x, (joinAll [p, q] ws.length)[i]? = some x → i < ws.length ∧ x = joinP [p.getD i (.hole 2), q.getD i (.hole 2)] := fun i x hx => by
    have hi := ge_len hx
    rw [hl] at hi
    refine ⟨hi, ?_⟩
    unfold joinAll at hx
    rw [List.getElem?_map, List.getElem?_range hi] at hx
    cases hx
    rfl
  refine ⟨⟨by rw [hl, ← hp.len]; exact hp.ok.1, fun x hx => ?_⟩, hl, fun i w x hi hx => ?_⟩
  · obtain ⟨i, hi⟩ := List.getElem?_of_mem hx
    obtain ⟨hlt, rfl⟩ := key i x hi
    exact join_ok (hp.ok.2 _ (List.mem_of_getElem? (getD_at (by rw [hp.len]; exact hlt))))
  · obtain ⟨hlt, rfl⟩ := key i x hx
    have h1 := getD_at (ps := p) (i := i) (by rw [hp.len]; exact hlt)
    have h2 := getD_at (ps := q) (i := i) (by rw [hq.len]; exact hlt)
    exact join2_takes (hw w (List.mem_of_getElem? hi)).word (hp.takes i w _ hi h1) (hq.takes i w _ hi h2) (hp.ok.2 _ (List.mem_of_getElem? h1))
end LG
namespace LG
open PySem L2
section
variable {K : PySem.W.Frag} {H0 H H' : Hp} {d S : Addr} {ws : List Str} {n n' m : Nat} {xs : List V} {pss : List (List Pt)}
end
end LG
namespace LG
open PySem L2
def sp_law (K : PySem.W.Frag) : Sp := fun vs H Q _ => ∃ (a : Addr) (ns : List Int), vs = [.ref a] ∧ SqL K H a (ns.map V.int) ∧ ns.length ≤ 63 ∧ ∀ H', Q (.bl true) H'
def oD : Option (List Pt) → PyData
  | none => .none
  | some ps => patD ps
structure FallsO (l : List (List Pt)) (o : Option (List Pt)) : Prop where
  nil : o = none ↔ l = []
  least : ∀ ps, o = some ps → Least l ps
end LG
namespace LG
open PySem L2 PySem.Builtin PySem.Builtin.Str
def PtW : Pt → Prop
  | .word w => wordB w = true ∧ w.length ≤ 500 ∧ PyData.strOk w = true
  | .hole k => k < 3
def PW (ps : List Pt) : Prop := ∀ p ∈ ps, PtW p
def Words (ws : List Str) : Prop := ∀ w ∈ ws, wordB w = true
def knows (pss : List (List Pt)) (ws : List Str) : Bool := pss.any fun ps => takesAll ps ws
def needless (ps : List Pt) (oss : List (List Pt)) : Bool := oss.any fun os => withinAll ps os
theorem PtW.ok {p : Pt} (h : PtW p) : p.ok := by
  cases p with
  | word w => exact ⟨Nat.le_trans h.2.1 (by decide), h.2.2⟩
  | hole k => exact h
theorem takes_cons (p : Pt) (ps : List Pt) (w : Str) (ws : List Str) : takesAll (p :: ps) (w :: ws) = (p.takes w && takesAll ps ws) := by
  simp only [takesAll, List.length_cons, List.zip_cons_cons, List.all_cons, Nat.add_right_cancel_iff]
  cases p.takes w <;> simp
theorem takes_nc (w : Str) (ws : List Str) : takesAll [] (w :: ws) = false := rfl
theorem takes_cn (p : Pt) (ps : List Pt) : takesAll (p :: ps) [] = false := rfl
theorem within_cons (p : Pt) (ps : List Pt) (q : Pt) (qs : List Pt) : withinAll (p :: ps) (q :: qs) = (p.within q && withinAll ps qs) := by
  simp only [withinAll, List.length_cons, List.zip_cons_cons, List.all_cons, Nat.add_right_cancel_iff]
  cases p.within q <;> simp
theorem within_nc (w : Pt) (ws : List Pt) : withinAll [] (w :: ws) = false := rfl
theorem within_cn (p : Pt) (ps : List Pt) : withinAll (p :: ps) [] = false := rfl
theorem sgn_dig {c : Nat} (h : dig c = true) : sgn c = true := by
  unfold dig at h; unfold sgn
  rw [Bool.and_eq_true, decide_eq_true_eq, decide_eq_true_eq] at h
  rw [Bool.and_eq_true, Bool.and_eq_true, decide_eq_true_eq, decide_eq_true_eq, decide_eq_true_eq]
  lia
theorem sgn_low {c : Nat} (h : low c = true) : sgn c = true := by
  unfold low at h; unfold sgn
  rw [Bool.and_eq_true, decide_eq_true_eq, decide_eq_true_eq] at h
  rw [Bool.and_eq_true, Bool.and_eq_true, decide_eq_true_eq, decide_eq_true_eq, decide_eq_true_eq]
  lia
theorem only_sgn {p : Nat → Bool} (hp : ∀ c, p c = true → sgn c = true) {l : List Nat} (h : onlyB p l = true) : onlyB sgn l = true := by
  unfold onlyB at h ⊢
  rw [Bool.and_eq_true, List.all_eq_true] at h ⊢
  exact ⟨h.1, fun c hc => hp c (h.2 c hc)⟩
theorem kind_word {w : Str} (h : kindT w < 2) : wordB w = true := by
  unfold kindT kindL at h
  unfold wordB
  by_cases h0 : onlyB dig (unminus w.cps.toList) = true
  · generalize w.cps.toList = l at h0
    unfold unminus at h0
    split at h0
    · rename_i r
      have h1 := only_sgn (fun c => sgn_dig) h0
      unfold onlyB at h1 ⊢
      rw [Bool.and_eq_true] at h1 ⊢
      refine ⟨rfl, ?_⟩
      rw [List.all_cons, h1.2]
      rfl
    · exact only_sgn (fun c => sgn_dig) h0
  · rw [if_neg h0] at h
    by_cases h1 : onlyB low w.cps.toList = true
    · exact only_sgn (fun c => sgn_low) h1
    · rw [if_neg h1] at h
      lia
theorem takes_hole {m : Nat} (hm : m < 2) (w : Str) : (Pt.hole m).takes w = decide (kindT w = m) := by
  have : m = 0 ∨ m = 1 := by lia
  rcases this with rfl | rfl <;> rfl
theorem hole_cases {m : Nat} (hm : m < 3) : m < 2 ∨ m = 2 := by lia
theorem takes_word {p : Pt} {w : Str} (hp : PtW p) (h : p.takes w = true) : wordB w = true := by
  cases p with
  | word x =>
    have e : w = x := by simpa [Pt.takes] using h
    rw [e]; exact hp.1
  | hole m =>
    rcases hole_cases hp with hm | rfl
    · rw [takes_hole hm, decide_eq_true_eq] at h
      exact kind_word (by lia)
    · exact h
theorem within_takes {p q : Pt} {w : Str} (hp : PtW p) (h : p.within q = true) (hw : p.takes w = true) : q.takes w = true := by
  cases p with
  | word x =>
    have e : w = x := by simpa [Pt.takes] using hw
    rw [e]; exact h
  | hole m =>
    rw [within_hole, Bool.or_eq_true, decide_eq_true_eq, decide_eq_true_eq] at h
    rcases h with rfl | rfl
    · exact hw
    · exact takes_word hp hw
theorem all_within_takes : ∀ {ps qs : List Pt} {ws : List Str}, PW ps → withinAll ps qs = true → takesAll ps ws = true → takesAll qs ws = true
  | [], [], ws, _, _, h => h
  | [], _ :: _, _, _, h, _ => by rw [within_nc] at h; cases h
  | _ :: _, [], _, _, h, _ => by rw [within_cn] at h; cases h
  | p :: ps, q :: qs, [], _, _, h => by rw [takes_cn] at h; cases h
  | p :: ps, q :: qs, w :: ws, hp, h, hw => by
    rw [within_cons, Bool.and_eq_true] at h
    rw [takes_cons, Bool.and_eq_true] at hw ⊢
    exact ⟨within_takes (hp p (List.mem_cons_self ..)) h.1 hw.1, all_within_takes (fun x hx => hp x (List.mem_cons_of_mem _ hx)) h.2 hw.2⟩
theorem takes_lens {ps : List Pt} {ws : List Str} (h : takesAll ps ws = true) : ps.length = ws.length := by
  unfold takesAll at h
  rw [Bool.and_eq_true, decide_eq_true_eq] at h
  exact h.1
theorem needless_knows {ps : List Pt} {oss : List (List Pt)} {ws : List Str} (hp : PW ps) (h : needless ps oss = true) (hw : takesAll ps ws = true) : knows oss ws = true := by
  unfold needless at h
  unfold knows
  rw [List.any_eq_true] at h ⊢
  obtain ⟨os, ho, hw2⟩ := h
  exact ⟨os, ho, all_within_takes hp hw2 hw⟩
def rep (c n : Nat) : Str := ⟨(List.replicate (n + 1) c).toArray⟩
theorem not_needless {ps : List Pt} {oss : List (List Pt)} {ws : List Str} (hp : PW ps) (hw : takesAll ps ws = true) (hk : knows oss ws = false) : needless ps oss = false := by
  rw [Bool.eq_false_iff]
  intro q
  rw [needless_knows hp q hw] at hk
  cases hk
def startsW (w : Str) : List Pt → Bool
  | [] => false
  | p :: _ => p.takes w
def behindP (oss : List (List Pt)) (w : Str) : List (List Pt) := (oss.filter (startsW w)).map List.tail
theorem behind_cons (p : Pt) (os : List Pt) (oss : List (List Pt)) (w : Str) : behindP ((p :: os) :: oss) w = if p.takes w = true then os :: behindP oss w else behindP oss w := by
  unfold behindP
  by_cases h : p.takes w = true
  · rw [if_pos h, List.filter_cons_of_pos (p := startsW w) (a := p :: os) h]; rfl
  · rw [if_neg h, List.filter_cons_of_neg (p := startsW w) (a := p :: os) h]
theorem knows_behind : ∀ (oss : List (List Pt)) (w : Str) (ws : List Str), (∀ os ∈ oss, os ≠ []) → knows oss (w :: ws) = knows (behindP oss w) ws
  | [], _, _, _ => rfl
  | [] :: oss, _, _, h => (h [] (List.mem_cons_self ..) rfl).elim
  | (p :: os) :: oss, w, ws, h => by
    have ih := knows_behind oss w ws fun x hx => h x (List.mem_cons_of_mem _ hx)
    have e : knows ((p :: os) :: oss) (w :: ws) = ((p.takes w && takesAll os ws) || knows oss (w :: ws)) := by
      show (takesAll (p :: os) (w :: ws) || _) = _
      rw [takes_cons]
      rfl
    rw [e, ih, behind_cons]
    cases p.takes w with
    | true => rw [if_pos rfl]; rfl
    | false => rw [if_neg Bool.false_ne_true]; rfl
end LG
namespace LG
open PySem L2 PySem.Builtin PySem.Builtin.Str
def wkD (w : Str) : PyData := .tuple [.int w.length, .str w]
def wkSh : Sh := .tcons .int (.tcons .str .tnil)
theorem sh_wk (w : Str) : wkSh.has (wkD w) := ⟨_, _, rfl, ⟨_, rfl⟩, _, _, rfl, ⟨_, rfl⟩, rfl⟩
theorem wk_inj {a b : Str} (h : wkD a = wkD b) : a = b := by
  simp only [wkD, PyData.tuple.injEq, List.cons.injEq, PyData.str.injEq] at h
  exact h.2.1
def lkD (ws : List Str) : PyData := .tuple [.int ws.length, .list (ws.map wkD)]
def lkSh : Sh := .tcons .int (.tcons (.list wkSh) .tnil)
theorem sh_wks (ws : List Str) : (Sh.list wkSh).has (.list (ws.map wkD)) := ⟨_, rfl, fun x hx => by
  obtain ⟨w, _, rfl⟩ := List.mem_map.mp hx
  exact sh_wk w⟩
theorem sh_lk (ws : List Str) : lkSh.has (lkD ws) := ⟨_, _, rfl, ⟨_, rfl⟩, _, _, rfl, sh_wks ws, rfl⟩
theorem wks_inj {a b : List Str} (h : a.map wkD = b.map wkD) : a = b := map_inj (fun x y => wk_inj) h
theorem lk_inj {a b : List Str} (h : lkD a = lkD b) : a = b := by
  simp only [lkD, PyData.tuple.injEq, List.cons.injEq, PyData.list.injEq, and_true] at h
  exact wks_inj h.2
theorem dep_wk (w : Str) : (wkD w).depth ≤ 5 := by simp [wkD, PyData.depth, PyData.depthAll]
theorem dep_lk (ws : List Str) : (lkD ws).depth ≤ 100 := by
  have h : PyData.depthAll (ws.map wkD) ≤ 5 := depthAll_le _ fun d hd => by
    obtain ⟨w, _, rfl⟩ := List.mem_map.mp hd
    exact dep_wk w
  simp only [lkD, PyData.depth, PyData.depthAll]
  lia
def wlt (a b : Str) : Bool := ltv (wkD a) (wkD b)
theorem wk_eqv (a b : Str) : PyData.eqv (wkD a) (wkD b) = decide (a = b) := by
  rw [Bool.eq_iff_iff, decide_eq_true_eq, (Sh.ok wkSh).eqv _ _ (sh_wk a) (sh_wk b)]
  exact ⟨wk_inj, fun h => by rw [h]⟩
theorem eqv_int (n : Int) : PyData.eqv (.int n) (.int n) = true := ((Sh.ok .int).eqv _ _ ⟨_, rfl⟩ ⟨_, rfl⟩).mpr rfl
theorem lk_le {vs ws : List Str} (hl : vs.length = ws.length) (h : ltvAll (vs.map wkD) (ws.map wkD) = false) : ltv (lkD vs) (lkD ws) = false := by
  show ltvAll [.int vs.length, .list (vs.map wkD)] [.int ws.length, .list (ws.map wkD)] = false
  rw [hl, ltvAll_cons, if_pos (eqv_int _), ltvAll_cons]
  split
  · rfl
  · exact h
def Bd (w : Str) : Prop := w.length ≤ 500 ∧ PyData.strOk w = true
structure LW (k : Nat) (named : List Str) (x : Str) : Prop where
  wd : wordB x = true
  kd : kindT x = k
  no : x ∉ named
  le : ∀ y, wordB y = true → kindT y = k → y ∉ named → wlt y x = false
  bd : Bd x
def named : List Pt → List Str
  | [] => []
  | .word w :: r => w :: named r
  | .hole _ :: r => named r
structure FW (p : Pt) (ps : List Pt) (oss : List (List Pt)) (w : Str) : Prop where
  tk : p.takes w = true
  nd : needless ps (behindP oss w) = false
  le : ∀ y, p.takes y = true → needless ps (behindP oss y) = false → wlt y w = false
  bd : Bd w
structure LP (ps : List Pt) (oss : List (List Pt)) (ws : List Str) : Prop where
  tk : takesAll ps ws = true
  kn : knows oss ws = false
  le : ∀ vs, takesAll ps vs = true → knows oss vs = false → ltvAll (vs.map wkD) (ws.map wkD) = false
  bd : ∀ w ∈ ws, Bd w
theorem LP.step {p : Pt} {ps : List Pt} {oss : List (List Pt)} {w : Str} {ws : List Str} (hp : PW (p :: ps)) (ho : ∀ os ∈ oss, os ≠ []) (f : FW p ps oss w) (h : LP ps (behindP oss w) ws) : LP (p :: ps) oss (w :: ws) := by
  refine ⟨by rw [takes_cons, f.tk, h.tk]; rfl, by rw [knows_behind _ _ _ ho]; exact h.kn, fun vs hv hk => ?_, fun x hx => ?_⟩
  · cases vs with
    | nil => rw [takes_cn] at hv; cases hv
    | cons v vs =>
      rw [takes_cons, Bool.and_eq_true] at hv
      rw [knows_behind _ _ _ ho] at hk
      have hps : PW ps := fun x hx => hp x (List.mem_cons_of_mem _ hx)
      have h1 := f.le v hv.1 (not_needless hps hv.2 hk)
      rw [List.map_cons, List.map_cons, ltvAll_cons, wk_eqv]
      by_cases e : v = w
      · subst e
        rw [decide_eq_true rfl, if_pos rfl]
        exact h.le vs hv.2 hk
      · rw [decide_eq_false e, if_neg Bool.false_ne_true]
        exact h1
  · rcases List.mem_cons.mp hx with rfl | hx
    · exact f.bd
    · exact h.bd x hx
theorem LP.nil {oss : List (List Pt)} (h : needless [] oss = false) (hl : ∀ os ∈ oss, os.length = 0) : LP [] oss [] := by
  refine ⟨rfl, ?_, fun vs hv _ => ?_, fun x hx => by cases hx⟩
  · rw [Bool.eq_false_iff]
    intro q
    unfold knows at q
    rw [List.any_eq_true] at q
    obtain ⟨os, h1, _⟩ := q
    have h2 := List.eq_nil_of_length_eq_zero (hl os h1)
    subst h2
    have : needless [] oss = true := by
      unfold needless
      rw [List.any_eq_true]
      exact ⟨[], h1, rfl⟩
    rw [h] at this
    cases this
  · cases vs with
    | nil => rfl
    | cons v vs => rw [takes_nc] at hv; cases hv
structure PLn (pss qss : List (List Pt)) (ws : List Str) : Prop where
  pa : knows pss ws ≠ knows qss ws
  wd : Words ws
  bd : ∀ w ∈ ws, Bd w
  ne : ws ≠ []
  ln : ws.length ≤ 12
  le : ∀ vs, knows pss vs ≠ knows qss vs → ltv (lkD vs) (lkD ws) = false
structure LinesOf (pss qss : List (List Pt)) (L : List (List Str)) : Prop where
  of : ∀ ws ∈ L, ∃ ps ∈ pss, LP ps qss ws
  all : ∀ ps ∈ pss, needless ps qss = true ∨ ∃ ws ∈ L, LP ps qss ws
def PsOk (pss : List (List Pt)) : Prop := ∀ ps ∈ pss, PW ps ∧ ps ≠ [] ∧ ps.length ≤ 12
theorem LinesOf.less {pss qss : List (List Pt)} {L : List (List Str)} (hp : PsOk pss) (h : LinesOf pss qss L) {vs : List Str} (h1 : knows pss vs = true) (h2 : knows qss vs = false) : ∃ ws ∈ L, ltv (lkD vs) (lkD ws) = false := by
  unfold knows at h1
  rw [List.any_eq_true] at h1
  obtain ⟨ps, hm, ht⟩ := h1
  rcases h.all ps hm with z | ⟨ws, hw, lp⟩
  · rw [not_needless (hp ps hm).1 ht h2] at z; cases z
  · exact ⟨ws, hw, lk_le (by rw [← takes_lens ht, takes_lens lp.tk]) (lp.le vs ht h2)⟩
end LG
namespace LG
open PySem L2 PySem.Builtin PySem.Builtin.Str
def sp_line_key (K : PySem.W.Frag) : Sp := fun vs H Q _ => ∃ z : Str, vs = [.str z] ∧ LOk z ∧ PyData.strOk z = true ∧ ∀ r H', Same H H' → Den K H' r (lkD (Txt.split z " ")) → Q r H'
end LG
namespace LG
open PySem L2 PySem.Builtin PySem.Builtin.Str
end LG
namespace LG
open PySem L2 PySem.Builtin PySem.Builtin.Str
end LG
namespace LG
open PySem L2
theorem ex_1 {C : St → Prop} {σ : St} {f : Option V → St} (h : ∃ u0, σ = f u0) (k : ∀ u0, C (f u0)) : C σ := by
  obtain ⟨u0, rfl⟩ := h
  exact k _
theorem ex_2 {C : St → Prop} {σ : St} {f : Option V → Option V → St} (h : ∃ u0 u1, σ = f u0 u1) (k : ∀ u0 u1, C (f u0 u1)) : C σ := by
  obtain ⟨u0, u1, rfl⟩ := h
  exact k _ _
theorem ex_3 {C : St → Prop} {σ : St} {f : Option V → Option V → Option V → St} (h : ∃ u0 u1 u2, σ = f u0 u1 u2) (k : ∀ u0 u1 u2, C (f u0 u1 u2)) : C σ := by
  obtain ⟨u0, u1, u2, rfl⟩ := h
  exact k _ _ _
theorem ex_9 {C : St → Prop} {σ : St} {f : Option V → Option V → Option V → Option V → Option V → Option V → Option V → Option V → Option V → St} (h : ∃ u0 u1 u2 u3 u4 u5 u6 u7 u8, σ = f u0 u1 u2 u3 u4 u5 u6 u7 u8) (k : ∀ u0 u1 u2 u3 u4 u5 u6 u7 u8, C (f u0 u1 u2 u3 u4 u5 u6 u7 u8)) : C σ := by
  obtain ⟨u0, u1, u2, u3, u4, u5, u6, u7, u8, rfl⟩ := h
  exact k _ _ _ _ _ _ _ _ _
theorem ex_10 {C : St → Prop} {σ : St} {f : Option V → Option V → Option V → Option V → Option V → Option V → Option V → Option V → Option V → Option V → St} (h : ∃ u0 u1 u2 u3 u4 u5 u6 u7 u8 u9, σ = f u0 u1 u2 u3 u4 u5 u6 u7 u8 u9) (k : ∀ u0 u1 u2 u3 u4 u5 u6 u7 u8 u9, C (f u0 u1 u2 u3 u4 u5 u6 u7 u8 u9)) : C σ := by
  obtain ⟨u0, u1, u2, u3, u4, u5, u6, u7, u8, u9, rfl⟩ := h
  exact k _ _ _ _ _ _ _ _ _ _
theorem ex_12 {C : St → Prop} {σ : St} {f : Option V → Option V → Option V → Option V → Option V → Option V → Option V → Option V → Option V → Option V → Option V → Option V → St} (h : ∃ u0 u1 u2 u3 u4 u5 u6 u7 u8 u9 u10 u11, σ = f u0 u1 u2 u3 u4 u5 u6 u7 u8 u9 u10 u11) (k : ∀ u0 u1 u2 u3 u4 u5 u6 u7 u8 u9 u10 u11, C (f u0 u1 u2 u3 u4 u5 u6 u7 u8 u9 u10 u11)) : C σ := by
  obtain ⟨u0, u1, u2, u3, u4, u5, u6, u7, u8, u9, u10, u11, rfl⟩ := h
  exact k _ _ _ _ _ _ _ _ _ _ _ _
end LG
namespace LG
open PySem L2 PySem.Builtin PySem.Builtin.Str
end LG
namespace LG
open PySem L2 PySem.Builtin PySem.Builtin.Str PySem.StrLaws
end LG
namespace LG
open PySem L2 PySem.Builtin PySem.Builtin.Str PySem.StrLaws
end LG
namespace LG
open PySem PySem.Spec PyProof.Rows L2
open PySem.Builtin PySem.Builtin.Str
theorem mem_fold (c : Nat) : ∀ (r : List Str) (acc : Array Nat), c ∈ (r.foldl (fun acc p => acc ++ ("" : Str).cps ++ p.cps) acc).toList ↔ c ∈ acc.toList ∨ ∃ p ∈ r, c ∈ p.cps.toList
  | [], acc => by simp
  | p :: r, acc => by
    rw [List.foldl_cons, mem_fold c r]
    have e : (acc ++ ("" : Str).cps ++ p.cps).toList = acc.toList ++ p.cps.toList := by
      rw [Array.toList_append, Array.toList_append]
      have : ("" : Str).cps.toList = [] := by decide +kernel
      rw [this, List.append_nil]
    rw [e, List.mem_append]
    constructor
    · rintro ((h | h) | ⟨q, hq, h⟩)
      · exact .inl h
      · exact .inr ⟨p, .head _, h⟩
      · exact .inr ⟨q, .tail _ hq, h⟩
    · rintro (h | ⟨q, hq, h⟩)
      · exact .inl (.inl h)
      · (rcases List.mem_cons.mp hq with rfl | hq)
        · exact .inl (.inr h)
        · exact .inr ⟨q, hq, h⟩
theorem mem_glued (c : Nat) (ps : List Str) : c ∈ (glued "" ps).cps.toList ↔ ∃ p ∈ ps, c ∈ p.cps.toList := by
  unfold glued
  cases ps with
  | nil =>
    have : ((([] : List Str).drop 1).foldl (fun acc p => acc ++ ("" : Str).cps ++ p.cps) ([].headD Str.empty).cps).toList = [] := by decide +kernel
    rw [this]
    simp
  | cons a r =>
    show c ∈ (r.foldl (fun acc p => acc ++ ("" : Str).cps ++ p.cps) a.cps).toList ↔ _
    rw [mem_fold]
    simp
theorem replace_is (z : Str) : (Txt.replace z " " "" = z ∧ Txt.split z " " = [z]) ∨ Txt.replace z " " "" = glued "" (Txt.split z " ") := by
  unfold Txt.replace Txt.split
  have e0 : ((" " : Str).length == 0 && ("" : Str).length == 0) = false := by decide +kernel
  rw [e0, Bool.or_false]
  cases ho : (occurrences z " " 0 z.length (z.length + 1)).isEmpty with
  | true =>
    simp only [if_true]
    exact .inl ⟨trivial, by split <;> rfl⟩
  | false =>
    have hc : (decide (z.length < (" " : Str).length) || decide (strKind z < strKind " ")) = false := by
      rw [Bool.or_eq_false_iff]
      constructor
      · refine decide_eq_false fun h => ?_
        have h1 : (" " : Str).length = 1 := by decide +kernel
        rw [h1] at h
        have hz : z = ⟨#[]⟩ := str_ext (by
          have : z.cps.size = 0 := by have : z.length = z.cps.size := rfl; lia
          rw [Array.eq_empty_of_size_eq_zero this])
        rw [hz] at ho
        revert ho
        decide +kernel
      · refine decide_eq_false fun h => ?_
        have h1 : strKind " " = 1 := by decide +kernel
        rw [h1] at h
        unfold PySem.Builtin.Str.strKind at h
        split at h
        · lia
        · split at h <;> lia
    rw [hc]
    (simp only [Bool.false_eq_true, if_false])
    exact .inr trivial
theorem mem_replace (z : Str) (c : Nat) : c ∈ (Txt.replace z " " "").cps.toList ↔ ∃ w ∈ Txt.split z " ", c ∈ w.cps.toList := by
  rcases replace_is z with ⟨e, e2⟩ | e
  · rw [e, e2]; simp
  · rw [e]; exact mem_glued c _
theorem fold_le (y : Str) : ∀ (r : List Str) (a b : Array Nat), a.size ≤ b.size → (r.foldl (fun acc p => acc ++ ("" : Str).cps ++ p.cps) a).size ≤ (r.foldl (fun acc p => acc ++ y.cps ++ p.cps) b).size
  | [], _, _, h => h
  | p :: r, a, b, h => by
    (rw [List.foldl_cons, List.foldl_cons])
    refine fold_le y r _ _ ?_
    have : ("" : Str).cps.size = 0 := by decide +kernel
    simp only [Array.size_append]
    lia
theorem repl_len (z : Str) : (Txt.replace z " " "").length ≤ z.length := by
  rcases replace_is z with ⟨e, _⟩ | e
  · rw [e]; exact Nat.le_refl _
  · have h := join_split' z
    have : (glued "" (Txt.split z " ")).length ≤ (glued " " (Txt.split z " ")).length := fold_le " " _ _ _ (Nat.le_refl _)
    have e3 : glued " " (Txt.split z " ") = z := h
    rw [e3] at this
    rw [e]
    exact this
theorem inV_strs (x : Str) (l : List Str) : inV (.str x) (l.map V.str) = decide (x ∈ l) := by
  unfold inV
  rw [List.any_map, Bool.eq_iff_iff, List.any_eq_true, decide_eq_true_eq]
  constructor
  · rintro ⟨y, hy, h⟩
    have : y = x := by simpa [eqV] using h
    rw [← this]; exact hy
  · intro h
    exact ⟨x, h, by simp [eqV]⟩
def lineL (z : Str) : Bool := decide ((Txt.split z " ").length ≤ 12) && (Txt.split z " ").all wordB
def rng (c : Nat) : Bool := (decide (33 ≤ c) && decide (c ≤ 36)) || (decide (38 ≤ c) && decide (c ≤ 126))
theorem rng_sgn (c : Nat) : rng c = sgn c := by
  unfold rng sgn
  rw [Bool.eq_iff_iff]
  simp only [Bool.or_eq_true, Bool.and_eq_true, decide_eq_true_eq]
  lia
theorem law_line (z : Str) : (if (Txt.split z " ").length > 12 then false else if ("" : Str) ∈ Txt.split z " " then false else (Txt.replace z " " "").cps.toList.all rng) = lineL z := by
  unfold lineL
  by_cases h1 : (Txt.split z " ").length > 12
  · rw [if_pos h1, decide_eq_false (by lia), Bool.false_and]
  · rw [if_neg h1, decide_eq_true (by lia), Bool.true_and]
    have hall : (Txt.replace z " " "").cps.toList.all rng = true ↔ ∀ w ∈ Txt.split z " ", w.cps.toList.all sgn = true := by
      rw [List.all_eq_true]
      constructor
      · intro h w hw
        rw [List.all_eq_true]
        intro c hc
        rw [← rng_sgn]
        exact h c ((mem_replace z c).mpr ⟨w, hw, hc⟩)
      · intro h c hc
        obtain ⟨w, hw, hc⟩ := (mem_replace z c).mp hc
        rw [rng_sgn]
        exact List.all_eq_true.mp (h w hw) c hc
    by_cases h2 : ("" : Str) ∈ Txt.split z " "
    · rw [if_pos h2]
      refine (Bool.eq_false_iff.mpr fun h => ?_).symm
      have := List.all_eq_true.mp h _ h2
      revert this
      decide +kernel
    · rw [if_neg h2, Bool.eq_iff_iff, hall, List.all_eq_true]
      constructor
      · intro h w hw
        have hne : w ≠ "" := fun e => h2 (e ▸ hw)
        have : w.cps.toList ≠ [] := fun e => hne (str_ext (by rw [e]; decide +kernel))
        unfold wordB onlyB
        rw [h w hw, Bool.and_true]
        cases q : w.cps.toList with
        | nil => exact absurd q this
        | cons _ _ => rfl
      · intro h w hw
        have := h w hw
        unfold wordB onlyB at this
        rw [Bool.and_eq_true] at this
        exact this.2
def LOrd (l : List Str) : Prop := l.Pairwise fun a b => ltv (lkD (Txt.split b " ")) (lkD (Txt.split a " ")) = false
theorem lord_unique {l l' : List Str} (hp : l.Perm l') (h : LOrd l) (h' : LOrd l') : l = l' := by
  refine map_inj (f := fun z => lkD (Txt.split z " ")) (fun a b e => ?_) ?_
  · have := lk_inj e
    rw [← join_split' a, ← join_split' b, this]
  · refine sorted_unique (Sh.ok lkSh) (fun x hx => ?_) (hp.map _) ?_ ?_
    · obtain ⟨z, _, rfl⟩ := List.mem_map.mp hx
      exact sh_lk _
    · rw [List.pairwise_map]; exact h
    · rw [List.pairwise_map]; exact h'
def plD (z : Str) : PyData := .tuple [lkD (Txt.split z " "), .str z]
def plSh : Sh := .tcons lkSh (.tcons .str .tnil)
theorem sh_pl (z : Str) : plSh.has (plD z) := ⟨_, _, rfl, sh_lk _, _, _, rfl, ⟨_, rfl⟩, rfl⟩
theorem dep_pl (z : Str) : (plD z).depth ≤ 100 := by
  have h : PyData.depthAll ((Txt.split z " ").map wkD) ≤ 5 := depthAll_le _ fun d hd => by
    obtain ⟨w, _, rfl⟩ := List.mem_map.mp hd
    exact dep_wk w
  simp only [plD, lkD, PyData.depth, PyData.depthAll]
  lia
theorem pl_lt {a b : Str} (h : ltv (plD b) (plD a) = false) : ltv (lkD (Txt.split b " ")) (lkD (Txt.split a " ")) = false := by
  cases q : ltv (lkD (Txt.split b " ")) (lkD (Txt.split a " ")) with
  | false => rfl
  | true =>
    exfalso
    have hne : ¬ PyData.eqv (lkD (Txt.split b " ")) (lkD (Txt.split a " ")) = true := fun e => by
      have := ((Sh.ok lkSh).eqv _ _ (sh_lk _) (sh_lk _)).mp e
      rw [this, (Sh.ok lkSh).irr _ (sh_lk _)] at q
      cases q
    have e : ltv (plD b) (plD a) = ltv (lkD (Txt.split b " ")) (lkD (Txt.split a " ")) := by
      unfold plD
      rw [ltv, ltvAll_cons, if_neg hne]
    rw [e, q] at h
    cases h
def six6 : List Str := ["", "4", "none", "(4, 2)", "-1", "."]
def Tg : Nat → PyData → Prop
  | 0, d => match d with
    | .none => True
    | .bool _ => True
    | .int i => i.natAbs ≤ 10 ^ 39
    | .str x => x ∈ six6
    | .list ds => ds = []
    | .tuple ds => ds = []
    | .dict _ => False
  | n + 1, d => match d with
    | .none => True
    | .bool _ => True
    | .int i => i.natAbs ≤ 10 ^ 39
    | .str x => x ∈ six6
    | .list ds => ds.length ≤ 3 ∧ ∀ d ∈ ds, Tg n d
    | .tuple ds => ds.length ≤ 3 ∧ ∀ d ∈ ds, Tg n d
    | .dict _ => False
theorem Tg.cases {n : Nat} {d : PyData} (h : Tg n d) : d = .none ∨ (∃ b, d = .bool b) ∨ (∃ i : Int, d = .int i ∧ i.natAbs ≤ 10 ^ 39) ∨ (∃ x ∈ six6, d = .str x) ∨ ∃ ds, (d = .list ds ∨ d = .tuple ds) ∧ ds.length ≤ 3 ∧ (ds = [] ∨ ∃ m, n = m + 1 ∧ ∀ e ∈ ds, Tg m e) := by
  cases n with
  | zero =>
    cases d with
    | none => exact .inl rfl
    | bool t => exact .inr (.inl ⟨t, rfl⟩)
    | int i => exact .inr (.inr (.inl ⟨i, rfl, h⟩))
    | str x => exact .inr (.inr (.inr (.inl ⟨x, h, rfl⟩)))
    | list ds => have h : ds = [] := h; exact .inr (.inr (.inr (.inr ⟨ds, .inl rfl, by rw [h]; decide, .inl h⟩)))
    | tuple ds => have h : ds = [] := h; exact .inr (.inr (.inr (.inr ⟨ds, .inr rfl, by rw [h]; decide, .inl h⟩)))
    | dict _ => exact (h : False).elim
  | succ n =>
    cases d with
    | none => exact .inl rfl
    | bool t => exact .inr (.inl ⟨t, rfl⟩)
    | int i => exact .inr (.inr (.inl ⟨i, rfl, h⟩))
    | str x => exact .inr (.inr (.inr (.inl ⟨x, h, rfl⟩)))
    | list ds => exact .inr (.inr (.inr (.inr ⟨ds, .inl rfl, h.1, .inr ⟨n, rfl, h.2⟩⟩)))
    | tuple ds => exact .inr (.inr (.inr (.inr ⟨ds, .inr rfl, h.1, .inr ⟨n, rfl, h.2⟩⟩)))
    | dict _ => exact (h : False).elim
theorem Tg.scal {n : Nat} {d : PyData} (h : Tg 0 d) (hl : ∀ ds, d ≠ .list ds ∧ d ≠ .tuple ds) : Tg n d := by
  rcases h.cases with rfl | ⟨b, rfl⟩ | ⟨i, rfl, hi⟩ | ⟨x, hx, rfl⟩ | ⟨ds, e, _⟩
  · cases n <;> trivial
  · cases n <;> trivial
  · cases n <;> exact hi
  · cases n <;> exact hx
  · rcases e with e | e
    · exact absurd e (hl ds).1
    · exact absurd e (hl ds).2
theorem text_from_le : ∀ (ts : List Str) (k : Nat) (acc : Str), (textFrom k acc ts).length ≤ acc.length + piled ts
  | [], k, acc => by show acc.length ≤ acc.length + _; lia
  | t :: r, k, acc => by
    have ih := text_from_le r (k + 1) (acc ++ (if k > 0 then ", " else "" : String) ++ t)
    have e : (acc ++ (if k > 0 then ", " else "" : String) ++ t).length ≤ acc.length + 2 + t.length := by
      (rw [strLen_append, strLen_append])
      have : ((if k > 0 then ", " else "" : String) : Str).length ≤ 2 := by split <;> decide
      lia
    rw [piled_cons]
    show (textFrom (k + 1) (acc ++ (if k > 0 then ", " else "" : String) ++ t) r).length ≤ _
    lia
theorem list_text_le (ts : List Str) : (listText ts).length ≤ piled ts + 4 := by
  unfold listText
  rw [strLen_append]
  have h1 := text_from_le ts 0 "["
  have h2 : ((("[" : String) : Str)).length = 1 := rfl
  have h3 : ((("]" : String) : Str)).length = 1 := rfl
  lia
theorem tuple_text_le (ts : List Str) : (tupleText ts).length ≤ piled ts + 4 := by
  unfold tupleText
  (rw [strLen_append, strLen_append])
  have opens : (Str.ofString "(").length = 1 := rfl
  have e3 : (((if ts.length == 1 then ",)" else ")" : String) : Str)).length ≤ 2 := by split <;> decide
  by_cases h : ts = []
  · subst h
    have : (Str.join ", " []).length = 0 := rfl
    lia
  · (have := join_length_add ts h)
    lia
def TgB (n : Nat) (d : PyData) : Prop := d.showable = true ∧ d.hasDict = false ∧ d.depth ≤ n + 1 ∧ d.shown.length ≤ 200 * 4 ^ n
theorem tgb_list {m : Nat} {ds : List PyData} (hl : ds.length ≤ 3) (h : ∀ d ∈ ds, TgB m d) : PyData.showableAll ds = true ∧ PyData.hasDictAll ds = false ∧ PyData.depthAll ds ≤ m + 1 ∧ piled (PyData.shownAll ds) ≤ ds.length * (200 * 4 ^ m + 2) := by
  clear hl
  induction ds with
  | nil => exact ⟨rfl, rfl, Nat.zero_le _, Nat.zero_le _⟩
  | cons d r ih =>
    obtain ⟨a1, a2, a3, a4⟩ := h d (.head _)
    obtain ⟨b1, b2, b3, b4⟩ := ih fun e he => h e (.tail _ he)
    refine ⟨by rw [PyData.showableAll, a1, b1]; rfl, by rw [PyData.hasDictAll, a2, b2]; rfl, ?_, ?_⟩
    · rw [PyData.depthAll]; lia
    · rw [PyData.shownAll, piled_cons, List.length_cons, Nat.succ_mul]; lia
theorem tgb_int {i : Int} (h : i.natAbs ≤ 10 ^ 39) : TgB 0 (.int i) := by
  have h1 : i.natAbs < 10 ^ 40 := Nat.lt_of_le_of_lt h (by decide)
  have h2 := int_text_length_le10 (a := i) (k := 40) (by decide) h1
  have h3 : i.natAbs.log2 < 1920 := by
    by_cases h0 : i.natAbs = 0
    · rw [h0]; decide +kernel
    · have : i.natAbs.log2 < 140 := (Nat.log2_lt h0).mpr (Nat.lt_of_lt_of_le h1 (by decide))
      lia
  refine ⟨by rw [PyData.showable]; exact decide_eq_true h3, rfl, Nat.zero_le _, ?_⟩
  rw [PyData.shown]
  show (Str.ofString (toString i)).length ≤ 200 * 4 ^ 0
  rw [PySem.ofString_length]
  lia
theorem tgb_six {x : Str} (h : x ∈ six6) : TgB 0 (.str x) := by
  refine ⟨rfl, rfl, Nat.zero_le _, ?_⟩
  rw [PyData.shown]
  have h1 : ∀ x ∈ six6, x.length ≤ 6 ∧ PyData.strOk x = true := by decide +kernel
  have h2 := StrLaws.reprText_len x fun c hc => Nat.lt_of_lt_of_le (mem_of_ok (h1 x h).2 c (by simpa using hc)) (by decide)
  have := (h1 x h).1
  lia
theorem tg_bd : ∀ {n : Nat} {d : PyData}, Tg n d → TgB n d := by
  intro n
  induction n with
  | zero =>
    intro d h
    rcases h.cases with rfl | ⟨b, rfl⟩ | ⟨i, rfl, hi⟩ | ⟨x, hx, rfl⟩ | ⟨ds, e, _, q⟩
    · exact ⟨rfl, rfl, by decide, by decide +kernel⟩
    · exact ⟨rfl, rfl, Nat.zero_le _, by cases b <;> decide +kernel⟩
    · exact tgb_int hi
    · exact tgb_six hx
    · rcases q with rfl | ⟨m, e, _⟩
      · rcases e with rfl | rfl
        · exact ⟨rfl, rfl, by decide, by decide +kernel⟩
        · exact ⟨rfl, rfl, by decide, by decide +kernel⟩
      · cases e
  | succ n ih =>
    intro d h
    have up : ∀ {d}, TgB 0 d → TgB (n + 1) d := fun b => ⟨b.1, b.2.1, Nat.le_trans b.2.2.1 (by lia), Nat.le_trans b.2.2.2 (Nat.mul_le_mul_left _ (Nat.pow_le_pow_right (by decide) (Nat.zero_le _)))⟩
    rcases h.cases with rfl | ⟨b, rfl⟩ | ⟨i, rfl, hi⟩ | ⟨x, hx, rfl⟩ | ⟨ds, e, hl, q⟩
    · exact up ⟨rfl, rfl, by decide, by decide +kernel⟩
    · exact up ⟨rfl, rfl, Nat.zero_le _, by cases b <;> decide +kernel⟩
    · exact up (tgb_int hi)
    · exact up (tgb_six hx)
    · have hb : ∀ e ∈ ds, TgB n e := by
        rcases q with rfl | ⟨m, e, q⟩
        · intro e he; cases he
        · cases e
          exact fun e he => ih (q e he)
      obtain ⟨a1, a2, a3, a4⟩ := tgb_list hl hb
      have h4 : 1 ≤ 4 ^ n := Nat.one_le_pow _ _ (by decide)
      have h5 : ds.length * (200 * 4 ^ n + 2) ≤ 3 * (200 * 4 ^ n + 2) := Nat.mul_le_mul_right _ hl
      have h6 : 200 * 4 ^ (n + 1) = 800 * 4 ^ n := by rw [Nat.pow_succ]; lia
      rcases e with rfl | rfl
      · have := list_text_le (PyData.shownAll ds)
        exact ⟨by rw [PyData.showable]; exact a1, by rw [PyData.hasDict]; exact a2, by rw [PyData.depth]; lia, by rw [PyData.shown]; lia⟩
      · have := tuple_text_le (PyData.shownAll ds)
        exact ⟨by rw [PyData.showable]; exact a1, by rw [PyData.hasDict]; exact a2, by rw [PyData.depth]; lia, by rw [PyData.shown]; lia⟩
theorem tg_str {n : Nat} {z : Str} (h : Tg n (.str z)) : TOk z := by
  rcases h.cases with e | ⟨b, e⟩ | ⟨i, e, _⟩ | ⟨x, hx, e⟩ | ⟨ds, e, _⟩
  · cases e
  · cases e
  · cases e
  · injection e with e
    subst e
    exact (show ∀ x ∈ six6, x.length ≤ 10000 ∧ PyData.strOk x = true by decide +kernel) z hx
  · rcases e with e | e <;> cases e
theorem tg_showy {n : Nat} {d : PyData} (hn : n ≤ 3) (h : Tg n d) : Showy d := by
  obtain ⟨a, b, c, e⟩ := tg_bd h
  refine ⟨a, b, by lia, fun _ => Nat.le_trans e ?_⟩
  have : 4 ^ n ≤ 4 ^ 3 := Nat.pow_le_pow_right (by decide) hn
  have h2 : (200 * 4 ^ 3 : Nat) ≤ sizeLine := by decide
  exact Nat.le_trans (Nat.mul_le_mul_left _ this) h2
theorem str_showy (z : Str) : Showy (.str z) := ⟨rfl, rfl, Nat.zero_le _, fun h => absurd rfl (h z)⟩
end LG
namespace K01
open PySem L2 LG
def top (i : Nat) : Stmt := PySem.Challenge.pw_loggather_k01_words_and_lines.main.body.getD i (.Pass ⟨0, 0, 0, 0⟩)
set_option genSizeOf false in
set_option genInjectivity false in
structure Ad where
  f_has_only : Addr
  d_has_only : FuncData
  f_is_word : Addr
  d_is_word : FuncData
  f_kind_of : Addr
  d_kind_of : FuncData
  f_words_of : Addr
  d_words_of : FuncData
  f_is_line : Addr
  d_is_line : FuncData
  f_word_key : Addr
  d_word_key : FuncData
  f_line_key : Addr
  d_line_key : FuncData
  f_in_order : Addr
  d_in_order : FuncData
  f__law_deck : Addr
  d__law_deck : FuncData
  f__law_pick : Addr
  d__law_pick : FuncData
  f__law_kind : Addr
  d__law_kind : FuncData
  f__law_word : Addr
  d__law_word : FuncData
  f__law_line : Addr
  d__law_line : FuncData
  f__law_lines : Addr
  d__law_lines : FuncData
  f__law_thing : Addr
  d__law_thing : FuncData
  f__law_is_line : Addr
  d__law_is_line : FuncData
  f__law_bent : Addr
  d__law_bent : FuncData
  f__law_words_right : Addr
  d__law_words_right : FuncData
  f__law_line_place : Addr
  d__law_line_place : FuncData
  f_law : Addr
  d_law : FuncData
structure Tx (K : PySem.W.Frag) (mg : Str → Option Value) (A : Ad) : Prop where
  n_all : mg "all" = none
  n_bool : mg "bool" = none
  n_int : mg "int" = none
  n_isinstance : mg "isinstance" = none
  n_len : mg "len" = none
  n_list : mg "list" = none
  n_range : mg "range" = none
  n_sorted : mg "sorted" = none
  n_str : mg "str" = none
  n_tuple : mg "tuple" = none
  g_MOST_WORDS : ∃ t, mg "MOST_WORDS" = some (.int 12 t)
  g_FIGURES : ∃ t, mg "FIGURES" = some (.str FIGS t)
  g_SMALL_LETTERS : ∃ t, mg "SMALL_LETTERS" = some (.str LOWS t)
  g_WORD_SIGNS : ∃ t, mg "WORD_SIGNS" = some (.str SIGNS t)
  has_only : DefAt K mg "has_only" (top 5) ["text", "signs"] A.f_has_only A.d_has_only
  is_word : DefAt K mg "is_word" (top 6) ["thing"] A.f_is_word A.d_is_word
  kind_of : DefAt K mg "kind_of" (top 7) ["word"] A.f_kind_of A.d_kind_of
  words_of : DefAt K mg "words_of" (top 8) ["line"] A.f_words_of A.d_words_of
  is_line : DefAt K mg "is_line" (top 9) ["thing"] A.f_is_line A.d_is_line
  word_key : DefAt K mg "word_key" (top 10) ["word"] A.f_word_key A.d_word_key
  line_key : DefAt K mg "line_key" (top 11) ["line"] A.f_line_key A.d_line_key
  in_order : DefAt K mg "in_order" (top 12) ["lines"] A.f_in_order A.d_in_order
  _law_deck : DefAt K mg "_law_deck" (top 14) ["cell", "turn"] A.f__law_deck A.d__law_deck
  _law_pick : DefAt K mg "_law_pick" (top 15) ["deck", "many"] A.f__law_pick A.d__law_pick
  _law_kind : DefAt K mg "_law_kind" (top 16) ["word"] A.f__law_kind A.d__law_kind
  _law_word : DefAt K mg "_law_word" (top 17) ["deck"] A.f__law_word A.d__law_word
  _law_line : DefAt K mg "_law_line" (top 18) ["deck", "most"] A.f__law_line A.d__law_line
  _law_lines : DefAt K mg "_law_lines" (top 19) ["deck", "most"] A.f__law_lines A.d__law_lines
  _law_thing : DefAt K mg "_law_thing" (top 20) ["deck", "deep"] A.f__law_thing A.d__law_thing
  _law_is_line : DefAt K mg "_law_is_line" (top 21) ["thing"] A.f__law_is_line A.d__law_is_line
  _law_bent : DefAt K mg "_law_bent" (top 22) ["deck", "line"] A.f__law_bent A.d__law_bent
  _law_words_right : DefAt K mg "_law_words_right" (top 23) ["deck", "word"] A.f__law_words_right A.d__law_words_right
  _law_line_place : DefAt K mg "_law_line_place" (top 24) ["line"] A.f__law_line_place A.d__law_line_place
section
variable {P : Program} {w : World} {K : PySem.W.Frag} {mg : Str → Option Value} {base : Heap} {A : Ad}
theorem sc_has_only : FnScope ["text", "signs"] ["text", "signs"] (defScope (top 5)) := ⟨rfl, rfl, rfl, by decide +kernel, rfl, by decide +kernel, by decide +kernel⟩
set_option maxHeartbeats 8000000 in
theorem ok_has_only (T : Tx K mg A) : FnOk P w K mg base CX0 1 A.f_has_only A.d_has_only ["text", "signs"] (sp_has_only K) := by
  refine T.has_only.fn.ok sc_has_only (fun vs H Q E h => ?_) (fun cdv Ar outer s H vs Q E hr h => ?_)
  · obtain ⟨z, y, rfl, _⟩ := h; rfl
  · obtain ⟨z, y, rfl, hz, k⟩ := h
    refine ⟨_, pss_one (ps_ret (pe_and (pe_cmpR (op_ne) (pv 0) (pe_str) (nomark _)) (pe_one (pe_cmpR (op_eq) (pe_bm PySem.F.plainAttrs_str PySem.F.slot_str_strip PySem.F.type_str_strip mt_stripC (pv 0) (pa_cons (pv 1) (pa_nil))) (pe_str) (nomark _))))), ?_⟩
    refine ⟨_, rfl, rfl, _, rfl, ?_⟩
    have e := only_eq z y
    by_cases hn : z.cps.toList.isEmpty = true
    · have e1 : (!decide (V.str z = V.str "")) = false := by rw [dec_nil, hn]; rfl
      rw [e1, Bool.false_and] at e
      rw [e1, if_neg Bool.false_ne_true, e]
      exact k
    · have e1 : (!decide (V.str z = V.str "")) = true := by rw [dec_nil, Bool.eq_false_iff.mpr hn]; rfl
      rw [e1, Bool.true_and] at e
      rw [e1, if_pos rfl]
      refine ⟨_, rfl, rfl, _, rfl, z, y, rfl, rfl, hz.s, rfl, ?_⟩
      rw [e]
      exact k
theorem sc_is_word : FnScope ["thing"] ["thing"] (defScope (top 6)) := ⟨rfl, rfl, rfl, by decide +kernel, rfl, by decide +kernel, by decide +kernel⟩
set_option maxHeartbeats 8000000 in
theorem ok_is_word (T : Tx K mg A) : FnOk P w K mg base CX0 2 A.f_is_word A.d_is_word ["thing"] (sp_is_word K) := by
  have G_has_only : FnOk P w K mg base CX0 1 A.f_has_only A.d_has_only ["text", "signs"] (sp_has_only K) := (ok_has_only T).mono (by decide)
  refine T.is_word.fn.ok sc_is_word (fun vs H Q E h => ?_) (fun cdv Ar outer s H vs Q E hr h => ?_)
  · obtain ⟨z, rfl, _⟩ := h; rfl
  · obtain ⟨z, rfl, hz, k⟩ := h
    refine ⟨_, pss_one (ps_ret (pe_and (pe_callB (r := rIsi K) call_isi (by rfl) T.n_isinstance bt_isinstance (pa_cons (pv 0) (pa_cons (pe_bltn (v := .ty "str") (by rfl) T.n_str bt_str rfl) (pa_nil)))) (pe_one (pe_call G_has_only hr (by rfl) T.has_only.mg T.has_only.fn.kp T.has_only.bd .nil pass0 (pa_cons (pv 0) (pa_cons (pe_glob (v := .str SIGNS) (by rfl) (Exists.choose_spec T.g_WORD_SIGNS) ⟨_, rfl⟩) (pa_nil))))))), ?_⟩
    refine ⟨_, rfl, _, "str", _, true, rfl, .str z, by rfl, _, rfl, iteT ?_⟩
    refine ⟨_, rfl, z, SIGNS, rfl, hz, ?_⟩
    rw [has_signs]
    exact k
theorem sc_kind_of : FnScope ["word"] ["word"] (defScope (top 7)) := ⟨rfl, rfl, rfl, by decide +kernel, rfl, by decide +kernel, by decide +kernel⟩
set_option maxHeartbeats 8000000 in
theorem ok_kind_of (T : Tx K mg A) : FnOk P w K mg base CX0 2 A.f_kind_of A.d_kind_of ["word"] (sp_kind_of K) := by
  have G_has_only : FnOk P w K mg base CX0 1 A.f_has_only A.d_has_only ["text", "signs"] (sp_has_only K) := (ok_has_only T).mono (by decide)
  refine T.kind_of.fn.ok sc_kind_of (fun vs H Q E h => ?_) (fun cdv Ar outer s H vs Q E hr h => ?_)
  · obtain ⟨z, rfl, _⟩ := h; rfl
  · obtain ⟨z, rfl, hz, k⟩ := h
    refine ⟨_, pss_cons (ps_if (pt_val (pe_call G_has_only hr (by rfl) T.has_only.mg T.has_only.fn.kp T.has_only.bd .nil pass0 (pa_cons (pe_bm PySem.F.plainAttrs_str PySem.F.slot_str_removeprefix PySem.F.type_str_removeprefix mt_rmpre (pv 0) (pa_cons (pe_str) (pa_nil))) (pa_cons (pe_glob (v := .str FIGS) (by rfl) (Exists.choose_spec T.g_FIGURES) ⟨_, rfl⟩) (pa_nil))))) (pss_one (ps_ret (pe_str))) (pss_nil))
      (pss_cons (ps_if (pt_val (pe_call G_has_only hr (by rfl) T.has_only.mg T.has_only.fn.kp T.has_only.bd .nil pass0 (pa_cons (pv 0) (pa_cons (pe_glob (v := .str LOWS) (by rfl) (Exists.choose_spec T.g_SMALL_LETTERS) ⟨_, rfl⟩) (pa_nil))))) (pss_one (ps_ret (pe_str))) (pss_nil))
      (pss_one (ps_ret (pe_str)))), ?_⟩
    refine ⟨_, rfl, rfl, z, "-", rfl, rfl, hz.s, _, FIGS, rfl, Nat.le_trans (minus_len z) hz, _, rfl, ?_⟩
    rw [has_figs, minus_eq]
    have e : kindT z = if onlyB dig (unminus z.cps.toList) = true then 0 else if onlyB low z.cps.toList = true then 1 else 2 := rfl
    rw [e] at k
    by_cases h1 : onlyB dig (unminus z.cps.toList) = true
    · rw [h1, if_pos rfl] at k
      rw [h1]
      exact iteT k
    · rw [if_neg h1] at k
      rw [Bool.eq_false_iff.mpr h1]
      refine iteF ?_
      refine ⟨_, rfl, z, LOWS, rfl, hz, _, rfl, ?_⟩
      rw [has_lows]
      by_cases h2 : onlyB low z.cps.toList = true
      · rw [if_pos h2] at k
        rw [h2]
        exact iteT k
      · rw [if_neg h2] at k
        rw [Bool.eq_false_iff.mpr h2]
        exact iteF k
theorem sc_words_of : FnScope ["line"] ["line"] (defScope (top 8)) := ⟨rfl, rfl, rfl, by decide +kernel, rfl, by decide +kernel, by decide +kernel⟩
set_option maxHeartbeats 8000000 in
theorem ok_words_of (T : Tx K mg A) : FnOk P w K mg base CX0 1 A.f_words_of A.d_words_of ["line"] (sp_words_of K) := by
  refine T.words_of.fn.ok sc_words_of (fun vs H Q E h => ?_) (fun cdv Ar outer s H vs Q E hr h => ?_)
  · obtain ⟨z, rfl, _⟩ := h; rfl
  · obtain ⟨z, rfl, hz, k⟩ := h
    refine ⟨_, pss_one (ps_ret (pe_bm PySem.F.plainAttrs_str PySem.F.slot_str_split PySem.F.type_str_split mt_split (pv 0) (pa_cons (pe_str) (pa_nil)))), ?_⟩
    exact ⟨_, rfl, rfl, z, " ", rfl, rfl, by decide +kernel, Nat.le_trans (Nat.add_le_add_right hz 2) (by decide), fun l hl => k l hl⟩
end
end K01
namespace K01
open PySem L2 LG
section
variable {P : Program} {w : World} {K : PySem.W.Frag} {mg : Str → Option Value} {base : Heap} {A : Ad}
def sp__law_pick (K : PySem.W.Frag) : Sp := fun vs H Q _ => ∃ (d : Addr) (m : Int) (n : Nat), vs = [.ref d, .int m] ∧ Dk H d n ∧ n < 1000000 ∧ 0 < m ∧ m < 100000000000000 ∧ ∀ (r : Int) H', Same (wo d H) H' → Dk H' d (n + 1) → 0 ≤ r → r < m → Q (.int r) H'
theorem sc__law_deck : FnScope ["cell", "turn"] ["cell", "turn"] (defScope (top 14)) := ⟨rfl, rfl, rfl, by decide +kernel, rfl, by decide +kernel, by decide +kernel⟩
set_option maxHeartbeats 8000000 in
theorem ok__law_deck (T : Tx K mg A) : FnOk P w K mg base CX0 1 A.f__law_deck A.d__law_deck ["cell", "turn"] (sp__law_deck K) := by
  refine T._law_deck.fn.ok sc__law_deck (fun vs H Q E h => ?_) (fun cdv Ar outer s H vs Q E hr h => ?_)
  · obtain ⟨c, rfl, _⟩ := h; rfl
  · obtain ⟨c, rfl, k⟩ := h
    refine ⟨_, pss_cons (ps_if (pt_cmpR (op_ge) (pv 0) (pe_op op_pow (pe_int) (pe_int)) (nomark _)) (pss_one (ps_ret (pe_lst (pa_cons (pe_op op_sub (pv 0) (pe_op op_pow (pe_int) (pe_int))) (pa_cons (pe_op op_mod (pv 0) (pe_int)) (pa_cons (pv 1) (pa_nil))))))) (pss_nil))
      (pss_one (ps_ret (pe_lst (pa_cons (pe_int) (pa_cons (pe_op op_mod (pv 0) (pe_int)) (pa_cons (pv 1) (pa_nil))))))), ?_⟩
    refine ⟨_, rfl, _, _, rfl, rfl, ⟨by decide, by decide, by decide⟩, _, _, rfl, rfl, _, rfl, ?_⟩
    refine ite2 (fun hc => ?_) (fun hc => ?_)
    · refine ⟨_, rfl, _, _, rfl, rfl, ⟨by decide, by decide, by decide⟩, _, _, rfl, rfl, _, rfl, _, _, rfl, rfl, (by show (0 : Int) < 2147483579; decide), _, rfl, (by show 3 ≤ sizeLine; decide), fun d hd => ?_⟩
      have hc' : (10 : Int) ^ (18 : Int).toNat ≤ c := of_decide_eq_true hc
      exact k d _ hd (Same.new hd) ⟨_, _, _, upd_same, by lia, Int.emod_nonneg _ (by decide), Int.emod_lt_of_pos _ (by decide), by decide, by decide⟩
    · refine ⟨_, rfl, _, _, rfl, rfl, (by show (0 : Int) < 2147483579; decide), _, rfl, (by show 3 ≤ sizeLine; decide), fun d hd => ?_⟩
      exact k d _ hd (Same.new hd) ⟨_, _, _, upd_same, by decide, Int.emod_nonneg _ (by decide), Int.emod_lt_of_pos _ (by decide), by decide, by decide⟩
theorem sc__law_pick : FnScope ["deck", "many", "found", "number"] ["deck", "many"] (defScope (top 15)) := ⟨rfl, rfl, rfl, by decide +kernel, rfl, by decide +kernel, by decide +kernel⟩
set_option maxHeartbeats 8000000 in
theorem ok__law_pick (T : Tx K mg A) : FnOk P w K mg base CX0 1 A.f__law_pick A.d__law_pick ["deck", "many"] (sp__law_pick K) := by
  refine T._law_pick.fn.ok sc__law_pick (fun vs H Q E h => ?_) (fun cdv Ar outer s H vs Q E hr h => ?_)
  · obtain ⟨d, m, n, rfl, _⟩ := h; rfl
  · obtain ⟨d, m, n, rfl, hdk, hn, hm0, hm1, k⟩ := h
    refine ⟨_, pss_cons (ps_if (pt_cmpR (op_gt) (pe_ix (r := rIxL K) ix_list (pv 0) (pe_int) (fun _ _ => rfl)) (pe_int) (nomark _)) (pss_cons (ps_set (i := 2) sc__law_pick.nd rfl (Or.inl rfl) (pe_op op_mod (pe_ix (r := rIxL K) ix_list (pv 0) (pe_int) (fun _ _ => rfl)) (pv 1)))
      (pss_cons (ps_asg (pe_op op_fdivL (pe_ix (r := rIxL K) ix_list (pv 0) (pe_int) (fun _ _ => rfl)) (pv 1)) (pg_sub (pv 0) (pe_int) set_list))
      (pss_one (ps_ret (pv 2))))) (pss_nil))
      (pss_cons (ps_asg (pe_op op_add (pe_ix (r := rIxL K) ix_list (pv 0) (pe_int) (fun _ _ => rfl)) (pe_int)) (pg_sub (pv 0) (pe_int) set_list))
      (pss_cons (ps_set (i := 3) sc__law_pick.nd rfl (Or.inl rfl) (pe_op op_mod (pe_op op_pow (pe_op op_add (pe_ix (r := rIxL K) ix_list (pv 0) (pe_int) (fun _ _ => rfl)) (pe_op op_mul (pe_int) (pe_ix (r := rIxL K) ix_list (pv 0) (pe_int) (fun _ _ => rfl)))) (pe_int)) (pe_int)))
      (pss_cons (ps_set (i := 2) sc__law_pick.nd rfl (Or.inl rfl) (pe_op op_fdiv (pe_op op_mod (pe_op op_pow (pe_op op_add (pv 3) (pe_op op_mul (pe_int) (pe_ix (r := rIxL K) ix_list (pv 0) (pe_int) (fun _ _ => rfl)))) (pe_int)) (pe_int)) (pe_int)))
      (pss_cons (ps_if (pt_cmpR (op_gt) (pv 1) (pe_int) (nomark _)) (pss_one (ps_ret (pe_op op_mod (pe_op op_add (pe_op op_mul (pv 2) (pe_int)) (pv 3)) (pv 1)))) (pss_nil))
      (pss_one (ps_ret (pe_op op_mod (pv 2) (pv 1)))))))), ?_⟩
    obtain ⟨a, b, c, hd, ha, hb, hb2, hc, hc2⟩ := hdk
    have hq : SqL K H d [.int a, .int b, .int c] := .of hd
    refine ⟨_, rfl, d, _, 0, _, rfl, rfl, hq, rfl, _, _, rfl, rfl, _, rfl, ?_⟩
    refine ite2 (fun h1 => ?_) (fun h1 => ?_)
    · refine ⟨_, rfl, d, _, 0, _, rfl, rfl, hq, rfl, _, rfl, _, _, rfl, rfl, hm0, ?_⟩
      refine ⟨_, rfl, d, _, 0, _, rfl, rfl, hq, rfl, _, rfl, _, _, rfl, rfl, ⟨hm0, by lia⟩, ?_⟩
      refine ⟨_, rfl, d, _, 0, 0, rfl, rfl, hd, rfl, ?_⟩
      refine ⟨_, rfl, ?_⟩
      exact k _ _ same_upd ⟨_, _, _, upd_same, Int.ediv_nonneg ha (by lia), hb, hb2, hc, by lia⟩ (Int.emod_nonneg _ (by lia)) (Int.emod_lt_of_pos _ hm0)
    · refine ⟨_, rfl, d, _, 2, _, rfl, rfl, hq, rfl, _, _, rfl, rfl, ?_⟩
      refine ⟨_, rfl, d, _, 2, 2, rfl, rfl, hd, rfl, ?_⟩
      have hq2 : SqL K (upd H d (.lst [.int a, .int b, .int (c + 1)])) d [.int a, .int b, .int (c + 1)] := .of upd_same
      have h2 := Int.emod_nonneg ((b + 15485867 * (c + 1)) ^ (5 : Int).toNat) (show (2147483647 : Int) ≠ 0 by decide)
      have h3 := Int.emod_lt_of_pos ((b + 15485867 * (c + 1)) ^ (5 : Int).toNat) (show (0 : Int) < 2147483647 by decide)
      refine ⟨_, rfl, d, _, 1, _, rfl, rfl, hq2, rfl, _, rfl, d, _, 2, _, rfl, rfl, hq2, rfl, _, _, rfl, rfl, .inl ⟨by decide, by decide⟩, _, _, rfl, rfl, _, _, rfl, rfl, ⟨by decide, by decide, by lia⟩, _, _, rfl, rfl, (by show (0 : Int) < 2147483647; decide), ?_⟩
      generalize (b + 15485867 * (c + 1)) ^ (5 : Int).toNat % 2147483647 = N1 at h2 h3 ⊢
      refine ⟨_, rfl, _, rfl, d, _, 2, _, rfl, rfl, hq2, rfl, _, _, rfl, rfl, .inl ⟨by decide, by decide⟩, _, _, rfl, rfl, _, _, rfl, rfl, ⟨by decide, by decide, by lia⟩, _, _, rfl, rfl, (by show (0 : Int) < 2147483629; decide), _, _, rfl, rfl, ⟨by decide, by decide⟩, ?_⟩
      have h4 := Int.emod_nonneg ((N1 + 7919 * (c + 1)) ^ (3 : Int).toNat) (show (2147483629 : Int) ≠ 0 by decide)
      have h5 := Int.emod_lt_of_pos ((N1 + 7919 * (c + 1)) ^ (3 : Int).toNat) (show (0 : Int) < 2147483629 by decide)
      generalize (N1 + 7919 * (c + 1)) ^ (3 : Int).toNat % 2147483629 = N2 at h4 h5 ⊢
      have h6 : 0 ≤ N2 / 32 := Int.ediv_nonneg h4 (by decide)
      have h7 : N2 / 32 ≤ N2 := Int.ediv_le_self _ h4
      refine ⟨_, rfl, _, _, rfl, rfl, _, rfl, ?_⟩
      refine ite2 (fun hbig => ?_) (fun hbig => ?_)
      · refine ⟨_, rfl, _, _, rfl, rfl, .inl ⟨by lia, by lia⟩, _, rfl, _, _, rfl, rfl, _, rfl, _, _, rfl, rfl, hm0, ?_⟩
        exact k _ _ same_upd ⟨_, _, _, upd_same, ha, hb, hb2, by lia, by lia⟩ (Int.emod_nonneg _ (by lia)) (Int.emod_lt_of_pos _ hm0)
      · refine ⟨_, rfl, _, rfl, _, _, rfl, rfl, hm0, ?_⟩
        exact k _ _ same_upd ⟨_, _, _, upd_same, ha, hb, hb2, by lia, by lia⟩ (Int.emod_nonneg _ (by lia)) (Int.emod_lt_of_pos _ hm0)
theorem sc__law_kind : FnScope ["word", "figures"] ["word"] (defScope (top 16)) := ⟨rfl, rfl, rfl, by decide +kernel, rfl, by decide +kernel, by decide +kernel⟩
set_option maxHeartbeats 8000000 in
theorem ok__law_kind (T : Tx K mg A) : FnOk P w K mg base CX0 1 A.f__law_kind A.d__law_kind ["word"] (sp__law_kind K) := by
  refine T._law_kind.fn.ok sc__law_kind (fun vs H Q E h => ?_) (fun cdv Ar outer s H vs Q E hr h => ?_)
  · obtain ⟨z, rfl, _⟩ := h; rfl
  · obtain ⟨z, rfl, hz, k⟩ := h
    refine ⟨_, pss_cons (ps_set (i := 1) sc__law_kind.nd rfl (Or.inl rfl) (pe_ifExp (pt_cmpR (op_eq) (pe_slice sl_str (pv 0) (po_none) (po_some (pe_int))) (pe_str) (nomark _)) (pe_slice sl_str (pv 0) (po_some (pe_int)) (po_none)) (pv 0)))
      (pss_cons (ps_if ((pw_and (pt_cmpR (op_ne) (pv 1) (pe_str) (nomark _)) (pw_and1 (pt_cmpR (r := rEqD K) (op_eqD hr) (pe_comp (N' := ["sign"]) (n := 1) (fi := []) (g := gName 0) rfl (cscope (defScope (top 16)) ["word", "figures"] (by decide +kernel)) (pi_str (pv 1)) (fun s H fp => pg_name (i := 0) (show (["sign"] : List Str).Nodup by decide +kernel) rfl (Or.inl rfl) (.inr rfl)) (fun s H fp => pifs_one (pt_not (pt_chain op_le_str op_le_str (pe_str) (pv 0) (pe_str)))) (fun s H fp => pv 0)) (pe_lst (pa_nil)) (nomark _)))).pt) (pss_one (ps_ret (pe_str))) (pss_nil))
      (pss_one (ps_ret (pe_ifExp (pt_cmpR (r := rEqD K) (op_eqD hr) (pe_comp (N' := ["sign"]) (n := 1) (fi := []) (g := gName 0) rfl (cscope (defScope (top 16)) ["word", "figures"] (by decide +kernel)) (pi_str (pv 0)) (fun s H fp => pg_name (i := 0) (show (["sign"] : List Str).Nodup by decide +kernel) rfl (Or.inl rfl) (.inr rfl)) (fun s H fp => pifs_one (pt_not (pt_chain op_le_str op_le_str (pe_str) (pv 0) (pe_str)))) (fun s H fp => pv 0)) (pe_lst (pa_nil)) (nomark _)) (pe_str) (pe_str))))), ?_⟩
    have hl : z.length ≤ sizeLine := Nat.le_trans hz.1 (by decide)
    have hf := ok_slice (z := z) (l := some 1) (u := none) hz.2
    have c0 : ("0" : Str) = ⟨#[48]⟩ := by decide +kernel
    have c9 : ("9" : Str) = ⟨#[57]⟩ := by decide +kernel
    have ca : ("a" : Str) = ⟨#[97]⟩ := by decide +kernel
    have cz : ("z" : Str) = ⟨#[122]⟩ := by decide +kernel
    have ek : lawKindL z.cps.toList = if onlyB dig (unminus z.cps.toList) = true then 0 else if z.cps.toList.all low = true then 1 else 2 := rfl
    rw [ek] at k
    refine ⟨_, rfl, _, rfl, z, rfl, hl, rfl, _, rfl, ?_⟩
    rw [dash_head]
    have hfig : ∃ f : Str, f.cps.toList = unminus z.cps.toList ∧ PyData.strOk f = true ∧ f.length ≤ 10000 ∧ (f = if z.cps.toList.head? = some 45 then Txt.slice z (some 1) none else z) := by
      by_cases hd : z.cps.toList.head? = some 45
      · exact ⟨_, by rw [if_pos hd, slice_tail]; exact unminus_yes hd, by rw [if_pos hd]; exact hf.1, by rw [if_pos hd]; exact Nat.le_trans hf.2 hz.1, rfl⟩
      · exact ⟨_, by rw [if_neg hd]; exact unminus_no hd, by rw [if_neg hd]; exact hz.2, by rw [if_neg hd]; exact hz.1, rfl⟩
    obtain ⟨f, f1, f2, f3, f4⟩ := hfig
    have tail : ∀ H2, Same H H2 → onlyB dig (unminus z.cps.toList) = false → tRet (tIf (tTest (tOp (rEqD K) (tComp (iStr (tVar 0)) (gName 0) (tNot (tTest (tChain (fun x y H Q => ∃ i j, x = .str i ∧ y = .str j ∧ Q (.bl (!decide (j.cps.toList < i.cps.toList))) H) (fun x y H Q => ∃ i j, x = .str i ∧ y = .str j ∧ Q (.bl (!decide (j.cps.toList < i.cps.toList))) H) (tC (.str "a")) (tVar 0) (tC (.str "z"))))) (tVar 0) 1 []) (tLst tNil))) (tC (.str "name")) (tC (.str "other"))) { nx := fun _ H' => Q .non H', rt := Q } [some (.str z), some (.str f)] H2 := fun H2 s2 hno => by
      refine no_signsX (fun c => !(decide (97 ≤ c) && decide (c ≤ 122))) rfl hz.2 (Nat.le_trans hz.1 (by decide)) (fun c H2 R h => not_betweenX ca cz h) fun H3 s3 => ?_
      have e : (z.cps.toList.all fun c => !(!(decide (97 ≤ c) && decide (c ≤ 122)))) = z.cps.toList.all low := by
        congr 1
        funext c
        simp [low]
      rw [e]
      have kk := k H3 (s2.trans s3)
      rw [hno, if_neg Bool.false_ne_true] at kk
      by_cases hb : z.cps.toList.all low = true
      · rw [if_pos hb] at kk
        rw [hb]
        exact iteT kk
      · rw [if_neg hb] at kk
        rw [Bool.eq_false_iff.mpr hb]
        exact iteF kk
    by_cases hd : z.cps.toList.head? = some 45
    · rw [decide_eq_true hd]
      rw [if_pos hd] at f4
      subst f4
      refine iteT ⟨_, rfl, _, rfl, z, rfl, hl, ?_⟩
      refine ⟨_, rfl, rfl, _, rfl, ?_⟩
      rw [dec_nil, f1]
      by_cases he : (unminus z.cps.toList).isEmpty = true
      · rw [he]
        refine iteF ?_
        refine iteF ?_
        exact tail H (Same.refl _) (by unfold onlyB; rw [he]; rfl)
      · rw [Bool.eq_false_iff.mpr he]
        refine iteT ?_
        refine no_signsX (fun c => !(decide (48 ≤ c) && decide (c ≤ 57))) rfl f2 (Nat.le_trans f3 (by decide)) (fun c H2 R h => not_betweenX c0 c9 h) fun H2 s2 => ?_
        have e : ((Txt.slice z (some 1) none).cps.toList.all fun c => !(!(decide (48 ≤ c) && decide (c ≤ 57)))) = (unminus z.cps.toList).all dig := by
          rw [f1]
          congr 1
          funext c
          simp [dig]
        rw [e]
        by_cases hb : (unminus z.cps.toList).all dig = true
        · rw [hb]
          refine iteT ?_
          have ho : onlyB dig (unminus z.cps.toList) = true := by unfold onlyB; rw [Bool.eq_false_iff.mpr he, hb]; rfl
          have kk := k H2 s2
          rw [ho, if_pos rfl] at kk
          exact kk
        · rw [Bool.eq_false_iff.mpr hb]
          refine iteF ?_
          exact tail H2 s2 (by unfold onlyB; rw [Bool.eq_false_iff.mpr hb, Bool.and_false])
    · rw [decide_eq_false hd]
      rw [if_neg hd] at f4
      subst f4
      refine iteF ⟨_, rfl, ?_⟩
      refine ⟨_, rfl, rfl, _, rfl, ?_⟩
      rw [dec_nil, f1]
      by_cases he : (unminus f.cps.toList).isEmpty = true
      · rw [he]
        refine iteF ?_
        refine iteF ?_
        exact tail H (Same.refl _) (by unfold onlyB; rw [he]; rfl)
      · rw [Bool.eq_false_iff.mpr he]
        refine iteT ?_
        refine no_signsX (fun c => !(decide (48 ≤ c) && decide (c ≤ 57))) rfl f2 (Nat.le_trans f3 (by decide)) (fun c H2 R h => not_betweenX c0 c9 h) fun H2 s2 => ?_
        have e : (f.cps.toList.all fun c => !(!(decide (48 ≤ c) && decide (c ≤ 57)))) = (unminus f.cps.toList).all dig := by
          rw [← f1]
          congr 1
          funext c
          simp [dig]
        rw [e]
        by_cases hb : (unminus f.cps.toList).all dig = true
        · rw [hb]
          refine iteT ?_
          have ho : onlyB dig (unminus f.cps.toList) = true := by unfold onlyB; rw [Bool.eq_false_iff.mpr he, hb]; rfl
          have kk := k H2 s2
          rw [ho, if_pos rfl] at kk
          exact kk
        · rw [Bool.eq_false_iff.mpr hb]
          refine iteF ?_
          exact tail H2 s2 (by unfold onlyB; rw [Bool.eq_false_iff.mpr hb, Bool.and_false])
theorem sc__law_word : FnScope ["deck", "way", "some"] ["deck"] (defScope (top 17)) := ⟨rfl, rfl, rfl, by decide +kernel, rfl, by decide +kernel, by decide +kernel⟩
set_option maxHeartbeats 8000000 in
theorem ok__law_word (T : Tx K mg A) : FnOk P w K mg base CX0 2 A.f__law_word A.d__law_word ["deck"] (sp__law_word K) := by
  have G__law_pick : FnOk P w K mg base CX0 1 A.f__law_pick A.d__law_pick ["deck", "many"] (sp__law_pick K) := (ok__law_pick T).mono (by decide)
  refine T._law_word.fn.ok sc__law_word (fun vs H Q E h => ?_) (fun cdv Ar outer s H vs Q E hr h => ?_)
  · obtain ⟨d, n, rfl, _⟩ := h; rfl
  · obtain ⟨d, n, rfl, hdk, hn, k⟩ := h
    refine ⟨_, pss_cons (ps_set (i := 1) sc__law_word.nd rfl (Or.inl rfl) (pe_call G__law_pick hr (by rfl) T._law_pick.mg T._law_pick.fn.kp T._law_pick.bd .nil pass0 (pa_cons (pv 0) (pa_cons (pe_int) (pa_nil)))))
      (pss_cons (ps_if (pt_cmpR (op_lt) (pv 1) (pe_int) (nomark _)) (pss_one (ps_ret (pe_ix (r := rIxL K) ix_list (pe_lst (pa_cons (pe_str) (pa_cons (pe_str) (pa_cons (pe_str) (pa_nil))))) (pe_call G__law_pick hr (by rfl) T._law_pick.mg T._law_pick.fn.kp T._law_pick.bd .nil pass0 (pa_cons (pv 0) (pa_cons (pe_int) (pa_nil)))) (fun _ _ => rfl)))) (pss_nil))
      (pss_cons (ps_if (pt_cmpR (op_lt) (pv 1) (pe_int) (nomark _)) (pss_one (ps_ret (pe_ix (r := rIxL K) ix_list (pe_lst (pa_cons (pe_str) (pa_cons (pe_str) (pa_cons (pe_str) (pa_cons (pe_str) (pa_cons (pe_str) (pa_nil))))))) (pe_call G__law_pick hr (by rfl) T._law_pick.mg T._law_pick.fn.kp T._law_pick.bd .nil pass0 (pa_cons (pv 0) (pa_cons (pe_int) (pa_nil)))) (fun _ _ => rfl)))) (pss_nil))
      (pss_cons (ps_if (pt_cmpR (op_lt) (pv 1) (pe_int) (nomark _)) (pss_one (ps_ret (pe_ix (r := rIxL K) ix_list (pe_lst (pa_cons (pe_str) (pa_cons (pe_str) (pa_cons (pe_str) (pa_cons (pe_str) (pa_cons (pe_str) (pa_cons (pe_str) (pa_cons (pe_str) (pa_cons (pe_str) (pa_nil)))))))))) (pe_call G__law_pick hr (by rfl) T._law_pick.mg T._law_pick.fn.kp T._law_pick.bd .nil pass0 (pa_cons (pv 0) (pa_cons (pe_int) (pa_nil)))) (fun _ _ => rfl)))) (pss_nil))
      (pss_cons (ps_set (i := 2) sc__law_word.nd rfl (Or.inr rfl) (pe_ix (r := rIxL K) ix_list (pe_lst (pa_cons (pe_str) (pa_cons (pe_str) (pa_cons (pe_str) (pa_cons (pe_str) (pa_nil)))))) (pe_op op_sub (pv 1) (pe_int)) (fun _ _ => rfl)))
      (pss_one (ps_ret (pe_bm (r := rJoin K) PySem.F.plainAttrs_str PySem.F.slot_str_join PySem.F.type_str_join mt_join (pe_str) (pa_cons (pe_comp (N' := ["k", "some", "deck"]) (n := 1) (fi := [2, 0]) (g := gName 0) rfl (cscope (defScope (top 17)) ["deck", "way", "some"] (by decide +kernel)) (pi_range1 (by rfl) T.n_range (pa_cons (pe_op op_add (pe_int) (pe_call G__law_pick hr (by rfl) T._law_pick.mg T._law_pick.fn.kp T._law_pick.bd .nil pass0 (pa_cons (pv 0) (pa_cons (pe_int) (pa_nil))))) (pa_nil))) (fun s H fp => pg_name (i := 0) (show (["k", "some", "deck"] : List Str).Nodup by decide +kernel) rfl (Or.inl rfl) (.inr rfl)) (fun s H fp => pifs_nil) (fun s H fp => pe_ix ix_str (pv 1) (pe_call G__law_pick hr (by rfl) T._law_pick.mg T._law_pick.fn.kp T._law_pick.bd .nil pass0 (pa_cons (pv 2) (pa_cons (pe_callB call_len_str (by rfl) T.n_len PySem.boot_len (pa_cons (pv 1) (pa_nil))) (pa_nil)))) (fun _ _ => rfl))) (pa_nil))))))))), ?_⟩
    refine ⟨_, rfl, d, 12, n, rfl, hdk, by lia, by decide, by decide, fun way H1 s1 dk1 w0 w12 => ?_⟩
    refine ⟨_, rfl, _, _, rfl, rfl, _, rfl, ?_⟩
    refine ite2 (fun _ => ?_) (fun _ => ?_)
    · refine ⟨(by show 3 ≤ sizeLine; decide), fun p hp => ⟨_, rfl, d, 3, n + 1, rfl, dk1.same (Same.new hp), by lia, by decide, by decide, fun r H2 s2 dk2 r0 r1 => ?_⟩⟩
      obtain ⟨x, hx, ha⟩ := at_strs (l := words1) r0 r1
      have hp2 : H2 p = some (.lst (words1.map V.str)) := keepN s2 upd_same (dk1.ne hp)
      have hw := w1 x hx
      exact ⟨p, _, r, _, rfl, rfl, .of hp2, ha, k x H2 (wo_trans (s1.trans (Same.new hp)) s2) (dk2.mono (by lia)) ⟨hw.1, hw.2.1, hw.2.2⟩⟩
    · refine ⟨_, rfl, _, _, rfl, rfl, _, rfl, ?_⟩
      refine ite2 (fun _ => ?_) (fun _ => ?_)
      · refine ⟨(by show 5 ≤ sizeLine; decide), fun p hp => ⟨_, rfl, d, 5, n + 1, rfl, dk1.same (Same.new hp), by lia, by decide, by decide, fun r H2 s2 dk2 r0 r1 => ?_⟩⟩
        obtain ⟨x, hx, ha⟩ := at_strs (l := words2) r0 r1
        have hp2 : H2 p = some (.lst (words2.map V.str)) := keepN s2 upd_same (dk1.ne hp)
        have hw := w2 x hx
        exact ⟨p, _, r, _, rfl, rfl, .of hp2, ha, k x H2 (wo_trans (s1.trans (Same.new hp)) s2) (dk2.mono (by lia)) ⟨hw.1, hw.2.1, hw.2.2⟩⟩
      · refine ⟨_, rfl, _, _, rfl, rfl, _, rfl, ?_⟩
        refine ite2 (fun _ => ?_) (fun h8 => ?_)
        · refine ⟨(by show 8 ≤ sizeLine; decide), fun p hp => ⟨_, rfl, d, 8, n + 1, rfl, dk1.same (Same.new hp), by lia, by decide, by decide, fun r H2 s2 dk2 r0 r1 => ?_⟩⟩
          obtain ⟨x, hx, ha⟩ := at_strs (l := words3) r0 r1
          have hp2 : H2 p = some (.lst (words3.map V.str)) := keepN s2 upd_same (dk1.ne hp)
          have hw := w3 x hx
          exact ⟨p, _, r, _, rfl, rfl, .of hp2, ha, k x H2 (wo_trans (s1.trans (Same.new hp)) s2) (dk2.mono (by lia)) ⟨hw.1, hw.2.1, hw.2.2⟩⟩
        · have h8' : ¬ way < 8 := fun h => h8 (decide_eq_true h)
          obtain ⟨x, hx, ha⟩ := at_strs (l := words4) (r := way - 8) (by lia) (by show way - 8 < 4; lia)
          have hxx := w4 x hx
          refine ⟨(by show 4 ≤ sizeLine; decide), fun p hp => ⟨_, rfl, _, _, rfl, rfl, p, _, way - 8, _, rfl, rfl, .of upd_same, ha, ?_⟩⟩
          have dkp : Dk (upd H1 p (.lst (words4.map V.str))) d (n + 1) := dk1.same (Same.new hp)
          refine ⟨rfl, _, rfl, d, 4, n + 1, rfl, dkp, by lia, by decide, by decide, fun r4 H2 s2 dk2 r0 r1 => ?_⟩
          refine ⟨_, _, rfl, rfl, 1 + r4, rfl, by lia, by lia, fun D hD => ?_⟩
          have hdD : d ≠ D := dk2.ne hD
          refine comp_range (fun i acc σ H3 => (∃ u, σ = [u, some (.str x), some (.ref d)]) ∧ Same (wo d H2) H3 ∧ Dk H3 d (n + 2 + i) ∧ ∃ l : List Str, acc = l.map V.str ∧ l.length = i ∧ ∀ y ∈ l, PyData.strOk y = true ∧ y.length ≤ 1 ∧ ∃ c, y = ⟨#[c]⟩ ∧ sgn c = true) upd_same ⟨⟨_, rfl⟩, wo_same.trans (Same.new hD), dk2.same (Same.new hD), [], rfl, rfl, fun y hy => by cases hy⟩ (fun i acc σ H3 hi hD3 q => ?_) (fun acc σ H3 hD3 q => ?_)
          · obtain ⟨q0, s3, dk3, l, rfl, hl, hok⟩ := q
            apply ex_1 q0
            clear q0
            intro u
            refine compY ⟨_, rfl, _, rfl, _, rfl, x, rfl, Nat.le_trans hxx.2.1 (by decide), d, x.length, n + 2 + i, rfl, dk3, by lia, by lia, by lia, fun r H4 s4 dk4 q0 q1 => ?_⟩
            obtain ⟨c, j, hc, hj⟩ := at_sign q0 q1
            have hsc : sgn c = true := List.all_eq_true.mp hxx.2.2.2 c (by simpa using Array.mem_of_getElem? hj)
            refine ⟨x, r, c, rfl, rfl, Nat.le_trans hxx.2.1 (by decide), hc, _, keepN s4 hD3 hdD, small (by simp only [List.length_map]; lia), _, upd_same, ⟨_, rfl⟩, snap_upd (by rw [wo_at hdD.symm]; exact hD) (wo_trans s3 s4), dk4.upd hdD, l ++ [⟨#[c]⟩], by simp, by simp [hl], fun y hy => ?_⟩
            rcases List.mem_append.mp hy with hy | hy
            · exact hok y hy
            · simp only [List.mem_singleton] at hy
              subst hy
              exact ⟨ok_sign hxx.1 hj, Nat.le_refl _, c, rfl, hsc⟩
          · obtain ⟨_, s3, dk3, l, rfl, hl, hok⟩ := q
            have hl4 : l.length ≤ 4 := by lia
            refine ⟨"", D, l, rfl, rfl, .of hD3, join_fits (fun y hy => (hok y hy).2.1) ?_, ?_⟩
            · have : (("" : Str)).length = 0 := rfl
              rw [this]; lia
            · exact k _ H3 (wo_trans (wo_trans (s1.trans (Same.new hp)) s2) s3) (dk3.mono (by lia)) (join_word (by lia) hl4 hok)
theorem sc__law_line : FnScope ["deck", "most"] ["deck", "most"] (defScope (top 18)) := ⟨rfl, rfl, rfl, by decide +kernel, rfl, by decide +kernel, by decide +kernel⟩
set_option maxHeartbeats 8000000 in
theorem ok__law_line (T : Tx K mg A) : FnOk P w K mg base CX0 3 A.f__law_line A.d__law_line ["deck", "most"] (sp__law_line K) := by
  have G__law_word : FnOk P w K mg base CX0 2 A.f__law_word A.d__law_word ["deck"] (sp__law_word K) := (ok__law_word T).mono (by decide)
  have G__law_pick : FnOk P w K mg base CX0 2 A.f__law_pick A.d__law_pick ["deck", "many"] (sp__law_pick K) := (ok__law_pick T).mono (by decide)
  refine T._law_line.fn.ok sc__law_line (fun vs H Q E h => ?_) (fun cdv Ar outer s H vs Q E hr h => ?_)
  · obtain ⟨d, m, n, rfl, _⟩ := h; rfl
  · obtain ⟨d, m, n, rfl, hdk, hn, hm0, hm1, k⟩ := h
    refine ⟨_, pss_one (ps_ret (pe_bm (r := rJoin K) PySem.F.plainAttrs_str PySem.F.slot_str_join PySem.F.type_str_join mt_join (pe_str) (pa_cons (pe_comp (N' := ["k", "deck"]) (n := 1) (fi := [0]) (g := gName 0) rfl (cscope (defScope (top 18)) ["deck", "most"] (by decide +kernel)) (pi_range1 (by rfl) T.n_range (pa_cons (pe_op op_add (pe_int) (pe_call G__law_pick hr (by rfl) T._law_pick.mg T._law_pick.fn.kp T._law_pick.bd .nil pass0 (pa_cons (pv 0) (pa_cons (pv 1) (pa_nil))))) (pa_nil))) (fun s H fp => pg_name (i := 0) (show (["k", "deck"] : List Str).Nodup by decide +kernel) rfl (Or.inl rfl) (.inr rfl)) (fun s H fp => pifs_nil) (fun s H fp => pe_call G__law_word hr (by rfl) T._law_word.mg T._law_word.fn.kp T._law_word.bd .nil pass0 (pa_cons (pv 1) (pa_nil)))) (pa_nil)))), ?_⟩
    refine ⟨rfl, _, rfl, _, rfl, d, m, n, rfl, hdk, by lia, hm0, by lia, fun r4 H2 s2 dk2 r0 r1 => ?_⟩
    refine ⟨_, _, rfl, rfl, 1 + r4, rfl, by lia, by lia, fun D hD => ?_⟩
    have hdD : d ≠ D := dk2.ne hD
    refine comp_range (fun i acc σ H3 => (∃ u, σ = [u, some (.ref d)]) ∧ Same (wo d H2) H3 ∧ Dk H3 d (n + 1 + 6 * i) ∧ ∃ l : List Str, acc = l.map V.str ∧ l.length = i ∧ ∀ y ∈ l, WOk y) upd_same ⟨⟨_, rfl⟩, wo_same.trans (Same.new hD), dk2.same (Same.new hD), [], rfl, rfl, fun y hy => by cases hy⟩ (fun i acc σ H3 hi hD3 q => ?_) (fun acc σ H3 hD3 q => ?_)
    · obtain ⟨q0, s3, dk3, l, rfl, hl, hok⟩ := q
      apply ex_1 q0
      clear q0
      intro u
      refine compY ⟨_, rfl, d, n + 1 + 6 * i, rfl, dk3, by lia, fun x H4 s4 dk4 hx => ?_⟩
      refine ⟨_, keepN s4 hD3 hdD, small (by simp only [List.length_map]; lia), _, upd_same, ⟨_, rfl⟩, snap_upd (by rw [wo_at hdD.symm]; exact hD) (wo_trans s3 s4), (dk4.upd hdD).mono (by lia), l ++ [x], by simp, by simp [hl], fun y hy => ?_⟩
      rcases List.mem_append.mp hy with hy | hy
      · exact hok y hy
      · simp only [List.mem_singleton] at hy
        subst hy
        exact hx
    · obtain ⟨_, s3, dk3, l, rfl, hl, hok⟩ := q
      have h1 : ((" " : Str)).length = 1 := rfl
      refine ⟨" ", D, l, rfl, rfl, .of hD3, join_fits (fun y hy => (hok y hy).len) ?_, ?_⟩
      · rw [h1]; lia
      · exact k _ l H3 (wo_trans s2 s3) (dk3.mono (by lia)) ⟨rfl, by lia, by lia, hok⟩
end
end K01
namespace K01
open PySem L2 LG
section
variable {P : Program} {w : World} {K : PySem.W.Frag} {mg : Str → Option Value} {base : Heap} {A : Ad}
theorem sc__law_lines : FnScope ["deck", "most", "shapes", "found", "k", "words", "turn"] ["deck", "most"] (defScope (top 19)) := ⟨rfl, rfl, rfl, by decide +kernel, rfl, by decide +kernel, by decide +kernel⟩
set_option maxHeartbeats 8000000 in
theorem ok__law_lines (T : Tx K mg A) : FnOk P w K mg base CX0 4 A.f__law_lines A.d__law_lines ["deck", "most"] (sp__law_lines K) := by
  have G__law_pick : FnOk P w K mg base CX0 3 A.f__law_pick A.d__law_pick ["deck", "many"] (sp__law_pick K) := (ok__law_pick T).mono (by decide)
  have G__law_word : FnOk P w K mg base CX0 3 A.f__law_word A.d__law_word ["deck"] (sp__law_word K) := (ok__law_word T).mono (by decide)
  have G__law_line : FnOk P w K mg base CX0 3 A.f__law_line A.d__law_line ["deck", "most"] (sp__law_line K) := (ok__law_line T).mono (by decide)
  refine T._law_lines.fn.ok sc__law_lines (fun vs H Q E h => ?_) (fun cdv Ar outer s H vs Q E hr h => ?_)
  · obtain ⟨d, m, n, rfl, _⟩ := h; rfl
  · obtain ⟨d, m, n, rfl, hdk, hn, hm0, hm1, k⟩ := h
    refine ⟨_, pss_cons (ps_comp (i := 2) (N' := ["k", "deck"]) (n := 1) (fi := [0]) (g := gName 0) sc__law_lines.nd rfl (Or.inl rfl) rfl (cscope (defScope (top 19)) ["deck", "most", "shapes", "found", "k", "words", "turn"] (by decide +kernel)) (pi_range1 (by rfl) T.n_range (pa_cons (pe_op op_add (pe_int) (pe_call G__law_pick hr (by rfl) T._law_pick.mg T._law_pick.fn.kp T._law_pick.bd .nil pass0 (pa_cons (pv 0) (pa_cons (pe_int) (pa_nil))))) (pa_nil))) (fun s H fp => pg_name (i := 0) (show (["k", "deck"] : List Str).Nodup by decide +kernel) rfl (Or.inl rfl) (.inr rfl)) (fun s H fp => pifs_nil) (fun s H fp => pe_bmK (K := K) rfl PySem.F.plainAttrs_str PySem.F.slot_str_split PySem.F.type_str_split mt_split (pe_call G__law_line hr (by rfl) T._law_line.mg T._law_line.fn.kp T._law_line.bd .nil pass0 (pa_cons (pv 1) (pa_cons (pe_ix (r := rIxL K) ix_list (pe_lst (pa_cons (pe_int) (pa_cons (pe_int) (pa_cons (pe_int) (pa_nil))))) (pe_call G__law_pick hr (by rfl) T._law_pick.mg T._law_pick.fn.kp T._law_pick.bd .nil pass0 (pa_cons (pv 1) (pa_cons (pe_int) (pa_nil)))) (fun _ _ => rfl)) (pa_nil)))) (pa_cons (pe_str) (pa_nil))))
      (pss_cons (ps_set (i := 3) sc__law_lines.nd rfl (Or.inl rfl) (pe_lst (pa_nil)))
      (pss_cons (ps_for PassesOwn.never rfl (pi_range1 (by rfl) T.n_range (pa_cons (pe_call G__law_pick hr (by rfl) T._law_pick.mg T._law_pick.fn.kp T._law_pick.bd .nil pass0 (pa_cons (pv 0) (pa_cons (pe_op op_add (pv 1) (pe_int)) (pa_nil)))) (pa_nil))) (pg_name (i := 4) sc__law_lines.nd rfl (Or.inl rfl)) (pss_cons (ps_set (i := 5) sc__law_lines.nd rfl (Or.inl rfl) (pe_callTy (r := rListOf K) call_listO (by rfl) T.n_list bt_list (pa_cons (pe_ix (r := rIxL K) ix_list (pv 2) (pe_call G__law_pick hr (by rfl) T._law_pick.mg T._law_pick.fn.kp T._law_pick.bd .nil pass0 (pa_cons (pv 0) (pa_cons (pe_callB (r := rLenS K) call_lenS (by rfl) T.n_len PySem.boot_len (pa_cons (pv 2) (pa_nil))) (pa_nil)))) (fun _ _ => rfl)) (pa_nil))))
      (pss_cons (ps_for PassesOwn.never rfl (pi_range1 (by rfl) T.n_range (pa_cons (pe_call G__law_pick hr (by rfl) T._law_pick.mg T._law_pick.fn.kp T._law_pick.bd .nil pass0 (pa_cons (pv 0) (pa_cons (pe_int) (pa_nil)))) (pa_nil))) (pg_name (i := 6) sc__law_lines.nd rfl (Or.inl rfl)) (pss_one (ps_asg (pe_call G__law_word hr (by rfl) T._law_word.mg T._law_word.fn.kp T._law_word.bd .nil pass0 (pa_cons (pv 0) (pa_nil))) (pg_sub (pv 5) (pe_call G__law_pick hr (by rfl) T._law_pick.mg T._law_pick.fn.kp T._law_pick.bd .nil pass0 (pa_cons (pv 0) (pa_cons (pe_callB (r := rLenS K) call_lenS (by rfl) T.n_len PySem.boot_len (pa_cons (pv 5) (pa_nil))) (pa_nil)))) set_list))))
      (pss_cons (ps_expr (pe_bm PySem.F.plainAttrs_list PySem.F.slot_list_append PySem.F.type_list_append mt_append (pv 3) (pa_cons (pe_bm (r := rJoin K) PySem.F.plainAttrs_str PySem.F.slot_str_join PySem.F.type_str_join mt_join (pe_str) (pa_cons (pv 5) (pa_nil))) (pa_nil))))
      (pss_one (ps_if (pt_cmpR (op_eq) (pe_call G__law_pick hr (by rfl) T._law_pick.mg T._law_pick.fn.kp T._law_pick.bd .nil pass0 (pa_cons (pv 0) (pa_cons (pe_int) (pa_nil)))) (pe_int) (nomark _)) (pss_one (ps_expr (pe_bm PySem.F.plainAttrs_list PySem.F.slot_list_append PySem.F.type_list_append mt_append (pv 3) (pa_cons (pe_ix (r := rIxL K) ix_list (pv 3) (pe_call G__law_pick hr (by rfl) T._law_pick.mg T._law_pick.fn.kp T._law_pick.bd .nil pass0 (pa_cons (pv 0) (pa_cons (pe_callB (r := rLenS K) call_lenS (by rfl) T.n_len PySem.boot_len (pa_cons (pv 3) (pa_nil))) (pa_nil)))) (fun _ _ => rfl)) (pa_nil))))) (pss_nil)))))))
      (pss_one (ps_ret (pe_slice (r := rSlL K) sl_list (pv 3) (po_none) (po_some (pv 1))))))), ?_⟩
    have h1 : ((" " : Str)).length = 1 := rfl
    refine ⟨_, rfl, d, 3, n, rfl, hdk, by lia, by decide, by decide, fun r H1 s1 dk1 r0 r1 => ⟨_, _, rfl, rfl, 1 + r, rfl, by lia, by lia, fun SH hSH => ?_⟩⟩
    have hdSH : d ≠ SH := dk1.ne hSH
    refine comp_range (fun i acc σ H3 => (∃ u, σ = [u, some (.ref d)]) ∧ Same (wo d H1) H3 ∧ Dk H3 d (n + 1 + 81 * i) ∧ acc.length = i ∧ ∀ x ∈ acc, ∃ (s : Addr) (ws : List Str), x = .ref s ∧ s ≠ d ∧ s ≠ SH ∧ H3 s = some (.lst (ws.map V.str)) ∧ WsOk ws) upd_same ⟨⟨_, rfl⟩, wo_same.trans (Same.new hSH), dk1.same (Same.new hSH), rfl, fun x hx => by cases hx⟩ (fun i acc σ H3 hi hD3 q => ?_) (fun acc σ H3 hD3 q => ?_)
    · obtain ⟨q0, s3, dk3, hal, hsh⟩ := q
      apply ex_1 q0
      clear q0
      intro u
      refine compY ?_
      refine ⟨_, rfl, (by show 3 ≤ sizeLine; decide), fun p hp => ⟨_, rfl, d, 3, _, rfl, dk3.same (Same.new hp), by lia, by decide, by decide, fun r3 H4 s4 dk4 q0 q1 => ?_⟩⟩
      have hp4 : H4 p = some (.lst [.int 3, .int 6, .int 12]) := keepN s4 upd_same (dk3.ne hp)
      obtain ⟨v, hv, hv0, hv1⟩ := at_ints q0 q1
      refine ⟨p, _, r3, _, rfl, rfl, .of hp4, hv, d, v, _, rfl, dk4, by lia, hv0, hv1, fun x ws H5 s5 dk5 hln => ?_⟩
      have hlo := hln.ok (by lia)
      have hs35 : Same (wo d H3) H5 := wo_trans (wo_trans (wo_same.trans (Same.new hp)) s4) s5
      have hSH5 : H5 SH = some (.lst acc) := keepN hs35 hD3 hdSH
      refine ⟨rfl, x, " ", rfl, rfl, by rw [h1]; decide, Nat.le_trans (Nat.add_le_add_right hlo.2 2) (by decide), fun l hl => ?_⟩
      have sl : Same H5 (upd H5 l (.lst ((Txt.split x " ").map V.str))) := Same.new hl
      have hlSH : l ≠ SH := (ne_of_none hSH5 hl).symm
      have hld : l ≠ d := (dk5.ne hl).symm
      refine ⟨acc, sl _ _ hSH5, small (by lia), _, upd_same, ⟨_, rfl⟩, snap_upd (by rw [wo_at hdSH.symm]; exact hSH) (wo_trans s3 (hs35.trans sl)), ((dk5.same sl).upd hdSH).mono (by lia), by rw [List.length_append, hal]; rfl, fun y hy => ?_⟩
      rcases List.mem_append.mp hy with hy | hy
      · obtain ⟨s, ws', rfl, g1, g2, g3, g4⟩ := hsh y hy
        exact ⟨s, ws', rfl, g1, g2, by rw [upd_ne g2]; exact sl _ _ (keepN hs35 g3 g1.symm), g4⟩
      · simp only [List.mem_singleton] at hy
        subst hy
        refine ⟨l, ws, rfl, hld, hlSH, by rw [upd_ne hlSH, upd_same, hln.split], hln.pos, Nat.le_trans hln.le (by lia), hln.wd⟩
    · obtain ⟨_, s3, dk3, hal, hsh⟩ := q
      have hHs1 : Same (wo d H) (wo d H3) := same_wo wo_self (wo_trans s1 s3)
      have hSHs : (wo d H3) SH = some (.lst acc) := by rw [wo_at hdSH.symm]; exact hD3
      have hshs : Shapes (wo d H3) acc := fun x hx => by
        obtain ⟨s, ws, rfl, g1, g2, g3, g4⟩ := hsh x hx
        exact ⟨s, ws, rfl, by rw [wo_at g1]; exact g3, g4⟩
      have hds : (wo d H3) d = none := wo_self
      have hsm0 : Same (wo d H3) H3 := wo_same
      refine ⟨Nat.zero_le _, fun F hF => ?_⟩
      have hdF : d ≠ F := dk3.ne hF
      have hFs : (wo d H3) F = none := hsm0.free hF
      have hFH : H F = none := by
        have := hHs1.free hFs
        rwa [wo_at hdF.symm] at this
      generalize wo d H3 = Hs at hHs1 hSHs hshs hds hsm0 hFs
      have sF : Same H3 (upd H3 F (.lst [])) := Same.new hF
      refine ⟨_, rfl, _, rfl, _, _, rfl, rfl, d, _, _, rfl, dk3.same sF, by lia, by lia, by lia, fun r2 H4 s4 dk4 q0 q1 => ⟨r2, rfl, by lia, by lia, ?_⟩⟩
      have hacc1 : 1 ≤ acc.length := by lia
      refine for_range (fun i σ H5 => (∃ u4 u5 u6, σ = [some (.ref d), some (.int m), some (.ref SH), some (.ref F), u4, u5, u6]) ∧ Same Hs H5 ∧ Dk H5 d (n + 400 + 20 * i) ∧ ∃ ls : List Str, H5 F = some (.lst (ls.map V.str)) ∧ ls.length ≤ 2 * i ∧ ∀ x ∈ ls, ∃ ws, LnOk 12 x ws)
        ⟨⟨_, _, _, rfl⟩, fun b o e => s4 b o (by rw [wo_at (ne_of_none e hds)]; exact sF b o (hsm0 b o e)), dk4.mono (by lia), [], keepN s4 upd_same hdF, Nat.le_refl _, fun x hx => by cases hx⟩ (fun i σ H5 hi q => ?_) (fun σ H5 q => ?_)
      · obtain ⟨q0, s5, dk5, ls, hF5, hll, hlok⟩ := q
        apply ex_3 q0
        clear q0
        intro u4 u5 u6
        have keepS : ∀ {Ha Hb : Hp}, Same Hs Ha → Same (wo d Ha) Hb → Same Hs Hb := fun sa sb b o e => sb b o (by rw [wo_at (ne_of_none e hds)]; exact sa b o e)
        refine ⟨_, rfl, _, rfl, _, rfl, SH, _, rfl, .inl (.of (s5 _ _ hSHs)), d, _, _, rfl, dk5, by lia, by lia, by lia, fun rk H6 s6 dk6 k0 k1 => ?_⟩
        have s6' := keepS s5 s6
        have hF6 := keepN s6 hF5 hdF
        obtain ⟨jj, rfl⟩ := Int.eq_ofNat_of_zero_le (k0 : (0 : Int) ≤ rk)
        have hjj : jj < acc.length := by lia
        have hxj : acc[jj]? = some acc[jj] := List.getElem?_eq_getElem hjj
        obtain ⟨sA, ws, ex, hsA, hws⟩ := hshs acc[jj] (List.mem_of_getElem? hxj)
        refine ⟨SH, acc, _, _, rfl, rfl, .of (s6' _ _ hSHs), atI_nat hxj, sA, _, by rw [ex], .inl (.of (s6' _ _ hsA)), fun W hW => ?_⟩
        have sW : Same H6 (upd H6 W (.lst (ws.map V.str))) := Same.new hW
        have hdW : d ≠ W := dk6.ne hW
        have hFW : F ≠ W := ne_of_none hF6 hW
        have hWs : Hs W = none := s6'.free hW
        refine ⟨_, rfl, d, 3, _, rfl, dk6.same sW, by lia, by decide, by decide, fun r3 H8 s8 dk8 g0 g1 => ⟨r3, rfl, by lia, by lia, ?_⟩⟩
        refine for_range (fun j σ H9 => (∃ u4 u6, σ = [some (.ref d), some (.int m), some (.ref SH), some (.ref F), u4, some (.ref W), u6]) ∧ Same Hs H9 ∧ Dk H9 d (n + 400 + 20 * i + 2 + 7 * j) ∧ H9 F = some (.lst (ls.map V.str)) ∧ ∃ l : List Str, H9 W = some (.lst (l.map V.str)) ∧ WsOk l)
          ⟨⟨_, _, rfl⟩, keepS (s6'.trans sW) s8, dk8.mono (by lia), keepN s8 (sW _ _ hF6) hdF, ws, keepN s8 upd_same hdW, hws⟩ (fun j σ H9 hj q => ?_) (fun σ H9 q => ?_)
        · obtain ⟨q0, s9, dk9, hF9, l, hW9, hl9⟩ := q
          apply ex_2 q0
          clear q0
          intro u4 u6
          have hlp := hl9.pos
          have hlq := hl9.le
          refine ⟨_, rfl, d, _, rfl, dk9, by lia, fun x H10 s10 dk10 hx => ?_⟩
          have hW10 := keepN s10 hW9 hdW
          refine ⟨_, rfl, _, rfl, _, rfl, W, _, rfl, .inl (.of hW10), d, _, _, rfl, dk10, by lia, by rw [List.length_map]; lia, by rw [List.length_map]; lia, fun rj H11 s11 dk11 j0 j1 => ?_⟩
          have hW11 := keepN s11 hW10 hdW
          exact ⟨W, _, rj, _, rfl, rfl, hW11, ixN_in j0 j1, ⟨_, _, rfl⟩, snap_upd hWs (keepS (keepS s9 s10) s11), (dk11.upd hdW).mono (by lia), by rw [upd_ne hFW]; exact keepN s11 (keepN s10 hF9 hdF) hdF, l.set rj.toNat x, by rw [upd_same, List.map_set], hl9.set hx⟩
        · obtain ⟨q0, s9, dk9, hF9, l, hW9, hl9⟩ := q
          apply ex_2 q0
          clear q0
          intro u4 u6
          have hlp := hl9.pos
          have hlq := hl9.le
          refine ⟨_, rfl, .inl ⟨rfl, _, .of hF9⟩, rfl, _, rfl, " ", W, l, rfl, rfl, .of hW9, join_fits (fun y hy => (hl9.wd y hy).len) (by rw [h1]; lia), F, _, _, rfl, rfl, hF9, small (by rw [List.length_map]; lia), ?_⟩
          have hF12 : (upd H9 F (.lst (ls.map V.str ++ [.str (Txt.join " " l)]))) F = some (.lst ((ls ++ [Txt.join " " l]).map V.str)) := by rw [upd_same]; simp
          have hok12 : ∀ x ∈ ls ++ [Txt.join " " l], ∃ ws, LnOk 12 x ws := fun x hx => by
            (rcases List.mem_append.mp hx with hx | hx)
            · exact hlok x hx
            · (simp only [List.mem_singleton] at hx)
              subst hx
              exact ⟨l, hl9.line⟩
          refine ⟨_, rfl, d, 6, _, rfl, dk9.upd hdF, by lia, by decide, by decide, fun r5 H13 s13 dk13 t0 t1 => ⟨rfl, _, rfl, ?_⟩⟩
          have hF13 := keepN s13 hF12 hdF
          have s13' := keepS (snap_upd (D := F) (o := .lst (ls.map V.str ++ [.str (Txt.join " " l)])) hFs s9) s13
          have hlen12 : (ls ++ [Txt.join " " l]).length = ls.length + 1 := by simp
          refine ite2 (fun _ => ?_) (fun _ => ?_)
          · refine ⟨_, rfl, .inl ⟨rfl, _, .of hF13⟩, _, rfl, _, rfl, _, rfl, F, _, rfl, .inl (.of hF13), d, _, _, rfl, dk13, by lia, by rw [List.length_map]; lia, by rw [List.length_map]; lia, fun rq H14 s14 dk14 z0 z1 => ?_⟩
            rw [List.length_map] at z1
            obtain ⟨x, hx, hat⟩ := at_strs z0 z1
            have hF14 := keepN s14 hF13 hdF
            refine ⟨F, _, _, _, rfl, rfl, .of hF14, hat, F, _, _, rfl, rfl, hF14, small (by rw [List.length_map]; lia), ⟨_, _, _, rfl⟩, snap_upd hFs (keepS s13' s14), (dk14.upd hdF).mono (by lia), (ls ++ [Txt.join " " l]) ++ [x], by rw [upd_same]; simp, by rw [List.length_append, hlen12]; simp; lia, fun y hy => ?_⟩
            rcases List.mem_append.mp hy with hy | hy
            · exact hok12 y hy
            · simp only [List.mem_singleton] at hy
              subst hy
              exact hok12 y hx
          · exact ⟨⟨_, _, _, rfl⟩, s13', dk13.mono (by lia), ls ++ [Txt.join " " l], hF13, by lia, hok12⟩
      · obtain ⟨q0, s5, dk5, ls, hF5, hll, hlok⟩ := q
        apply ex_3 q0
        clear q0
        intro u4 u5 u6
        refine ⟨_, rfl, _, rfl, m, rfl, F, _, rfl, .of hF5, fun D hD => ?_⟩
        rw [cut_take hm0, ← List.map_take]
        have hdD : d ≠ D := dk5.ne hD
        have hDH : H D = none := by
          have := (hHs1.trans s5).free hD
          rwa [wo_at hdD.symm] at this
        exact k D (ls.take m.toNat) _ hDH ((hHs1.trans s5).trans (Same.new hD)) ((dk5.same (Same.new hD)).mono (by lia)) upd_same (fun x hx => hlok x (List.mem_of_mem_take hx)) (by rw [List.length_take]; lia)
end
end K01
namespace K01
open PySem L2 LG
section
variable {P : Program} {w : World} {K : PySem.W.Frag} {mg : Str → Option Value} {base : Heap} {A : Ad}
theorem sc_word_key : FnScope ["word"] ["word"] (defScope (top 10)) := ⟨rfl, rfl, rfl, by decide +kernel, rfl, by decide +kernel, by decide +kernel⟩
set_option maxHeartbeats 8000000 in
theorem ok_word_key (T : Tx K mg A) : FnOk P w K mg base CX0 1 A.f_word_key A.d_word_key ["word"] (sp_word_key K) := by
  refine T.word_key.fn.ok sc_word_key (fun vs H Q E h => ?_) (fun cdv Ar outer s H vs Q E hr h => ?_)
  · obtain ⟨x, rfl, _⟩ := h; rfl
  · obtain ⟨x, rfl, hw, k⟩ := h
    refine ⟨_, pss_one (ps_ret (pe_tup (pa_cons (pe_callB call_len_str (by rfl) T.n_len PySem.boot_len (pa_cons (pv 0) (pa_nil))) (pa_cons (pv 0) (pa_nil))))), ?_⟩
    exact ⟨_, rfl, x, rfl, hw.s, _, rfl, (by show 2 ≤ sizeLine; decide), fun p hp => k p hp⟩
end
end K01
namespace K01
open PySem L2 LG
section
variable {P : Program} {w : World} {K : PySem.W.Frag} {mg : Str → Option Value} {base : Heap} {A : Ad}
theorem sc_line_key : FnScope ["line", "words"] ["line"] (defScope (top 11)) := ⟨rfl, rfl, rfl, by decide +kernel, rfl, by decide +kernel, by decide +kernel⟩
set_option maxHeartbeats 8000000 in
theorem ok_line_key (T : Tx K mg A) : FnOk P w K mg base CX0 2 A.f_line_key A.d_line_key ["line"] (sp_line_key K) := by
  have G_words_of : FnOk P w K mg base CX0 1 A.f_words_of A.d_words_of ["line"] (sp_words_of K) := (ok_words_of T).mono (by decide)
  have G_word_key : FnOk P w K mg base CX0 1 A.f_word_key A.d_word_key ["word"] (sp_word_key K) := (ok_word_key T).mono (by decide)
  refine T.line_key.fn.ok sc_line_key (fun vs H Q E h => ?_) (fun cdv Ar outer s H vs Q E hr h => ?_)
  · obtain ⟨z, rfl, _⟩ := h; rfl
  · obtain ⟨z, rfl, hz, hzs, k⟩ := h
    refine ⟨_, pss_cons (ps_set (i := 1) sc_line_key.nd rfl (Or.inl rfl) (pe_call G_words_of hr (by rfl) T.words_of.mg T.words_of.fn.kp T.words_of.bd .nil pass0 (pa_cons (pv 0) (pa_nil))))
      (pss_one (ps_ret (pe_tup (pa_cons (pe_callB (r := rLenS K) call_lenS (by rfl) T.n_len PySem.boot_len (pa_cons (pv 1) (pa_nil))) (pa_cons (pe_comp (N' := ["word"]) (n := 1) (fi := []) (g := gName 0) rfl (cscope (defScope (top 11)) ["line", "words"] (by decide +kernel)) (pi_list (pv 1)) (fun s H fp => pg_name (i := 0) (show (["word"] : List Str).Nodup by decide +kernel) rfl (Or.inl rfl) (.inr rfl)) (fun s H fp => pifs_nil) (fun s H fp => pe_call G_word_key hr (by rfl) T.word_key.mg T.word_key.fn.kp T.word_key.bd .nil pass0 (pa_cons (pv 0) (pa_nil)))) (pa_nil)))))), ?_⟩
    have hz' : z.length ≤ 10000 := hz
    refine ⟨_, rfl, z, rfl, hz, fun l hl => ?_⟩
    have sl : Same H (upd H l (.lst ((Txt.split z " ").map V.str))) := Same.new hl
    have hsz := (L2.split_len1 (z := z) (y := " ")).2
    have hws := ok_split (y := " ") hzs
    generalize Txt.split z " " = ws at sl k hsz hws
    have hq : SqL K (upd H l (.lst (ws.map V.str))) l (ws.map V.str) := .of upd_same
    refine ⟨_, rfl, l, _, rfl, .inl hq, ?_⟩
    rw [List.length_map]
    refine ⟨_, rfl, l, rfl, ⟨_, hq⟩, fun D hD => ?_⟩
    generalize upd H l (.lst (ws.map V.str)) = H1 at sl hq hD
    refine comp_list (K := K) (xs := ws.map V.str) (fun i acc σ H2 => (∃ u, σ = [u]) ∧ Same H1 H2 ∧ Dens K (lim (upd H1 D (.lst [])) H2) acc ((ws.take i).map wkD)) upd_same ⟨⟨_, rfl⟩, Same.new hD, .nil⟩ (fun i acc σ H2 _ _ p => p.2.1.seq hq) (fun i x acc σ H2 hx hDx p => ?_) (fun acc σ H2 hDx p => ?_)
    · obtain ⟨⟨u, rfl⟩, s2, dn⟩ := p
      obtain ⟨w, hw, rfl⟩ := strs_at hx
      have hi := ge_len hw
      have hal : acc.length = i := by rw [dn.length, List.length_map, List.length_take]; lia
      have hwo := hws w (List.mem_of_getElem? hw)
      refine compY ⟨_, rfl, w, rfl, Nat.le_trans hwo.2 hz, fun p hp => ⟨acc, (Same.new hp) _ _ hDx, small (by lia), _, upd_same, ⟨_, rfl⟩, snap_upd hD (s2.trans (Same.new hp)), ?_⟩⟩
      rw [lim_upd (ys := []) upd_same, take_next hw]
      exact (dn.same (lim_mono (Same.new hp))).append (.cons (.tup (.of ((lim_new (by rw [upd_ne (ne_of_none hDx hp).symm]; exact s2.free hp)).trans upd_same)) (.cons (.int _) (.cons (.str hwo.1) .nil))) .nil)
    · obtain ⟨_, s2, dn⟩ := p
      refine ⟨(by show 2 ≤ sizeLine; decide), fun t ht => ?_⟩
      rw [List.length_map, List.take_of_length_le (Nat.le_refl _)] at dn
      refine k _ _ ((sl.trans s2).trans (Same.new ht)) ?_
      exact .tup (.of upd_same) (.cons (.int _) (.cons (.lst (.of ((Same.new ht) _ _ hDx)) ((dn.same lim_same).same (Same.new ht))) .nil))
end
end K01
namespace K01
open PySem L2 LG
section
variable {P : Program} {w : World} {K : PySem.W.Frag} {mg : Str → Option Value} {base : Heap} {A : Ad}
def lineD : PyData → Bool
  | .str z => lineL z
  | _ => false
def isStrD : PyData → Bool
  | .str _ => true
  | _ => false
def Kd (H : Hp) (v : V) : Prop := v = .non ∨ (∃ b, v = .bl b) ∨ (∃ i, v = .int i) ∨ (∃ z, v = .str z) ∨ ∃ a xs, v = .ref a ∧ (H a = some (.lst xs) ∨ H a = some (.tup xs))
theorem Kd.same {H H' : Hp} {v : V} (h : Kd H v) (s : Same H H') : Kd H' v := by
  rcases h with h | h | h | h | ⟨a, xs, e, h⟩
  · exact .inl h
  · exact .inr (.inl h)
  · exact .inr (.inr (.inl h))
  · exact .inr (.inr (.inr (.inl h)))
  · exact .inr (.inr (.inr (.inr ⟨a, xs, e, h.elim (fun h => .inl (s _ _ h)) fun h => .inr (s _ _ h)⟩)))
structure Thing (K : PySem.W.Frag) (H : Hp) (v : V) (d : PyData) : Prop where
  den : Den K H v d
  kd : Kd H v
  sh : Showy d
  tx : ∀ z, d = .str z → TOk z
theorem Thing.same {K : PySem.W.Frag} {H H' : Hp} {v : V} {d : PyData} (h : Thing K H v d) (s : Same H H') : Thing K H' v d := ⟨h.den.same s, h.kd.same s, h.sh, h.tx⟩
theorem Thing.isi {K : PySem.W.Frag} {H : Hp} {v : V} {d : PyData} (h : Thing K H v d) : ∃ t, TyOf K H v t ∧ PySem.W.kitOne K t (.type "str") = some (isStrD d) := by
  have hd := h.den
  rcases h.kd with rfl | ⟨b, rfl⟩ | ⟨i, rfl⟩ | ⟨z, rfl⟩ | ⟨a, xs, rfl, e⟩
  · cases hd; exact ⟨_, .non, rfl⟩
  · cases hd; exact ⟨_, .bl b, rfl⟩
  · cases hd; exact ⟨_, .int i, rfl⟩
  · cases hd; exact ⟨_, .str z, rfl⟩
  · rcases e with e | e
    · exact ⟨_, .lst e, by cases hd <;> rfl⟩
    · exact ⟨_, .tup e, by cases hd <;> rfl⟩
theorem Thing.line {K : PySem.W.Frag} {H : Hp} {v : V} {d : PyData} (h : Thing K H v d) : (∃ z, v = .str z ∧ d = .str z ∧ TOk z) ∨ isStrD d = false := by
  have hd := h.den
  cases hd with
  | str hx => exact .inl ⟨_, rfl, rfl, h.tx _ rfl⟩
  | _ => exact .inr rfl
theorem str_thing {K : PySem.W.Frag} {H : Hp} {z : Str} (h : TOk z) : Thing K H (.str z) (.str z) := ⟨.str h.2, .inr (.inr (.inr (.inl ⟨z, rfl⟩))), str_showy z, fun y e => by cases e; exact h⟩
def sp_is_line (K : PySem.W.Frag) : Sp := fun vs H Q _ => ∃ (v : V) (d : PyData), vs = [v] ∧ Thing K H v d ∧ ∀ H', Same H H' → Q (.bl (lineD d)) H'
def sp__law_is_line (K : PySem.W.Frag) : Sp := sp_is_line K
def sp_in_order (K : PySem.W.Frag) : Sp := fun vs H Q _ => ∃ (a : Addr) (zs : List Str), vs = [.ref a] ∧ SqL K H a (zs.map V.str) ∧ zs.length < 64 ∧ (∀ z ∈ zs, LOk z ∧ PyData.strOk z = true) ∧
  ∀ (D : Addr) (l : List Str) H', H D = none → Same H H' → l.Perm zs → LOrd l → H' D = some (.lst (l.map V.str)) → Q (.ref D) H'
def sp__law_line_place (K : PySem.W.Frag) : Sp := fun vs H Q _ => ∃ z : Str, vs = [.str z] ∧ LOk z ∧ PyData.strOk z = true ∧ ∀ r H', Same H H' → Den K (lim H H') r (lkD (Txt.split z " ")) → Q r H'
theorem picked_strs {f : Str → PyData} {zs : List Str} {p : List Nat} (hp : p.Perm (List.range zs.length)) : picked (zs.map V.str) p = (p.map fun i => zs.getD i Str.empty).map V.str ∧ (p.map fun i => (zs.map f).getD i .none) = (p.map fun i => zs.getD i Str.empty).map f := by
  have hlt : ∀ i ∈ p, i < zs.length := fun i hi => by have := hp.mem_iff.mp hi; simpa using this
  constructor
  · unfold picked
    rw [List.map_map]
    refine List.map_congr_left fun i hi => ?_
    simp [List.getD_eq_getElem?_getD, hlt i hi]
  · rw [List.map_map]
    refine List.map_congr_left fun i hi => ?_
    simp [List.getD_eq_getElem?_getD, hlt i hi]
theorem flat_strs (ws : List Str) : (ws.map V.str).all flatV = true := by
  rw [List.all_map, List.all_eq_true]
  exact fun _ _ => rfl
theorem none_left (l : List Nat) (f : Nat → Bool) : PyData.eqv (.list (((l.filter f).map sg).map .str)) (.list []) = l.all fun c => !f c := by
  have : PyData.eqv (.list (((l.filter f).map sg).map .str)) (.list []) = (l.filter f).isEmpty := by
    cases l.filter f with
    | nil => rfl
    | cons a r => rfl
  rw [this, Bool.eq_iff_iff, List.isEmpty_iff, List.filter_eq_nil_iff, List.all_eq_true]
  simp
theorem sc_is_line : FnScope ["thing", "words"] ["thing"] (defScope (top 9)) := ⟨rfl, rfl, rfl, by decide +kernel, rfl, by decide +kernel, by decide +kernel⟩
set_option maxHeartbeats 8000000 in
theorem ok_is_line (T : Tx K mg A) : FnOk P w K mg base CX0 3 A.f_is_line A.d_is_line ["thing"] (sp_is_line K) := by
  have G_words_of : FnOk P w K mg base CX0 2 A.f_words_of A.d_words_of ["line"] (sp_words_of K) := (ok_words_of T).mono (by decide)
  have G_is_word : FnOk P w K mg base CX0 2 A.f_is_word A.d_is_word ["thing"] (sp_is_word K) := (ok_is_word T).mono (by decide)
  refine T.is_line.fn.ok sc_is_line (fun vs H Q E h => ?_) (fun cdv Ar outer s H vs Q E hr h => ?_)
  · obtain ⟨v, d, rfl, _⟩ := h; rfl
  · obtain ⟨v, d, rfl, th, k⟩ := h
    refine ⟨_, pss_cons (ps_if (pt_not (pt_val (pe_callB (r := rIsi K) call_isi (by rfl) T.n_isinstance bt_isinstance (pa_cons (pv 0) (pa_cons (pe_bltn (v := .ty "str") (by rfl) T.n_str bt_str rfl) (pa_nil)))))) (pss_one (ps_ret (pe_bl))) (pss_nil))
      (pss_cons (ps_set (i := 1) sc_is_line.nd rfl (Or.inl rfl) (pe_call G_words_of hr (by rfl) T.words_of.mg T.words_of.fn.kp T.words_of.bd .nil pass0 (pa_cons (pv 0) (pa_nil))))
      (pss_one (ps_ret (pe_and (pe_cmpR (op_le) (pe_callB (r := rLenS K) call_lenS (by rfl) T.n_len PySem.boot_len (pa_cons (pv 1) (pa_nil))) (pe_glob (v := .int 12) (by rfl) (Exists.choose_spec T.g_MOST_WORDS) ⟨_, rfl⟩) (nomark _)) (pe_one (pe_callB (r := rAll K) (call_all rfl) (by rfl) T.n_all bt_all (pa_cons (pe_comp (N' := ["word"]) (n := 1) (fi := []) (g := gName 0) rfl (cscope (defScope (top 9)) ["thing", "words"] (by decide +kernel)) (pi_list (pv 1)) (fun s H fp => pg_name (i := 0) (show (["word"] : List Str).Nodup by decide +kernel) rfl (Or.inl rfl) (.inr rfl)) (fun s H fp => pifs_nil) (fun s H fp => pe_call G_is_word hr (by rfl) T.is_word.mg T.is_word.fn.kp T.is_word.bd .nil pass0 (pa_cons (pv 0) (pa_nil)))) (pa_nil)))))))), ?_⟩
    obtain ⟨t, ht, hk⟩ := th.isi
    refine ⟨_, rfl, _, "str", t, isStrD d, rfl, ht, hk, _, rfl, ?_⟩
    rcases th.line with ⟨z, rfl, rfl, hz⟩ | hno
    · refine iteF ?_
      have hz1 : LOk z := hz.1
      refine ⟨_, rfl, z, rfl, hz1, fun l hl' => ?_⟩
      have sl : Same H (upd H l (.lst ((Txt.split z " ").map V.str))) := Same.new hl'
      have hws := ok_split (y := " ") hz.2
      have kk : ∀ H', Same H H' → Q (.bl (decide ((Txt.split z " ").length ≤ 12) && (Txt.split z " ").all wordB)) H' := k
      have hcnt := (L2.split_len1 (z := z) (y := " ")).2
      generalize Txt.split z " " = ws at sl hws kk hcnt
      have hq : SqL K (upd H l (.lst (ws.map V.str))) l (ws.map V.str) := .of upd_same
      refine ⟨_, rfl, l, _, rfl, .inl hq, _, _, rfl, rfl, _, rfl, ?_⟩
      rw [List.length_map]
      generalize upd H l (.lst (ws.map V.str)) = H1 at sl hq
      by_cases h12 : ws.length ≤ 12
      · rw [decide_eq_true (show (ws.length : Int) ≤ 12 by lia)]
        refine iteT ?_
        refine ⟨_, rfl, l, rfl, ⟨_, hq⟩, fun D hD => ?_⟩
        refine comp_list (K := K) (xs := ws.map V.str) (fun i acc σ H2 => (∃ u, σ = [u]) ∧ Same H1 H2 ∧ acc = ((ws.take i).map wordB).map V.bl) upd_same ⟨⟨_, rfl⟩, Same.new hD, rfl⟩ (fun i acc σ H2 _ _ p => p.2.1.seq hq) (fun i x acc σ H2 hx hDx p => ?_) (fun acc σ H2 hDx p => ?_)
        · obtain ⟨⟨u, rfl⟩, s2, rfl⟩ := p
          obtain ⟨w, hw', rfl⟩ := strs_at hx
          have hi := ge_len hw'
          have hm := List.mem_of_getElem? hw'
          refine compY ⟨_, rfl, w, rfl, Nat.le_trans (hws w hm).2 hz1, _, hDx, small (by rw [List.length_map, List.length_map, List.length_take]; lia), _, upd_same, ⟨_, rfl⟩, snap_upd hD s2, ?_⟩
          rw [List.take_add_one, hw', List.map_append, List.map_append]
          rfl
        · obtain ⟨_, s2, rfl⟩ := p
          rw [List.length_map, List.take_length] at hDx
          refine ⟨D, _, rfl, .of hDx, ?_⟩
          have := kk H2 (sl.trans s2)
          rw [decide_eq_true h12, Bool.true_and] at this
          have e : (ws.map wordB).all id = ws.all wordB := by rw [List.all_map]; rfl
          rw [e]
          exact this
      · rw [decide_eq_false (show ¬ (ws.length : Int) ≤ 12 by lia)]
        refine iteF ?_
        have := kk H1 sl
        rw [decide_eq_false h12, Bool.false_and] at this
        exact this
    · rw [hno]
      refine iteT ?_
      have := k H (Same.refl H)
      have e : lineD d = false := by cases d <;> first | rfl | cases hno
      rw [e] at this
      exact this
theorem sc_in_order : FnScope ["lines"] ["lines"] (defScope (top 12)) := ⟨rfl, rfl, rfl, by decide +kernel, rfl, by decide +kernel, by decide +kernel⟩
set_option maxHeartbeats 8000000 in
theorem ok_in_order (T : Tx K mg A) : FnOk P w K mg base CX0 5 A.f_in_order A.d_in_order ["lines"] (sp_in_order K) := by
  have GK_line_key : FnOk P w K mg base CX0 2 A.f_line_key A.d_line_key ["line"] (sp_line_key K) := (ok_line_key T).mono (by decide)
  refine T.in_order.fn.ok sc_in_order (fun vs H Q E h => ?_) (fun cdv Ar outer s H vs Q E hr h => ?_)
  · obtain ⟨a, zs, rfl, _⟩ := h; rfl
  · obtain ⟨a, zs, rfl, hq, hlen, hok, k⟩ := h
    refine ⟨_, pss_one (ps_ret (pe_sortK (a := .int) (r := .tcons (.list wkSh) .tnil) .int GK_line_key hr T.line_key.bd (by rfl) T.n_sorted (by rfl) T.line_key.mg (pa_cons (pv 0) (pa_nil)))), ?_⟩
    refine ⟨_, rfl, _, rfl, a, zs.map V.str, rfl, hq, by rw [List.length_map]; exact hlen, ?_⟩
    refine tkeys_all (K := K) (H0 := H) (zs.map V.str) (zs.map fun z => lkD (Txt.split z " ")) [] [] H (by rw [List.length_map, List.length_map]) (Same.refl H) .nil (fun i x d H2 Q2 hx hd s2 kk => ?_) (fun ks H1 s1 d1 => ?_)
    · obtain ⟨z, e, rfl⟩ := strs_at hx
      rw [List.getElem?_map, e] at hd
      cases hd
      have hz := hok z (List.mem_of_getElem? e)
      exact ⟨z, rfl, hz.1, hz.2, fun r H' sr dr => kk r H' sr dr⟩
    · have d1' : Dens K H1 ks (zs.map fun z => lkD (Txt.split z " ")) := by simpa using d1
      refine ⟨zs.map fun z => lkD (Txt.split z " "), d1', fun d hd => ?_, fun d hd => ?_, fun D0 p hD0 hp ho => ?_⟩
      · obtain ⟨z, _, rfl⟩ := List.mem_map.mp hd
        exact sh_lk _
      · obtain ⟨z, _, rfl⟩ := List.mem_map.mp hd
        exact dep_lk _
      · rw [List.length_map] at hp
        obtain ⟨e1, e2⟩ := picked_strs (f := fun z => lkD (Txt.split z " ")) hp
        rw [e1]
        refine k D0 _ _ (s1.free hD0) (s1.trans (Same.new hD0)) ((hp.map fun i => zs.getD i Str.empty).trans (by rw [range_picked])) ?_ upd_same
        unfold InOrd at ho
        rw [e2, List.pairwise_map] at ho
        exact ho
theorem sc__law_line_place : FnScope ["line", "words"] ["line"] (defScope (top 24)) := ⟨rfl, rfl, rfl, by decide +kernel, rfl, by decide +kernel, by decide +kernel⟩
set_option maxHeartbeats 8000000 in
theorem ok__law_line_place (T : Tx K mg A) : FnOk P w K mg base CX0 1 A.f__law_line_place A.d__law_line_place ["line"] (sp__law_line_place K) := by
  refine T._law_line_place.fn.ok sc__law_line_place (fun vs H Q E h => ?_) (fun cdv Ar outer s H vs Q E hr h => ?_)
  · obtain ⟨z, rfl, _⟩ := h; rfl
  · obtain ⟨z, rfl, hz, hzs, k⟩ := h
    refine ⟨_, pss_cons (ps_set (i := 1) sc__law_line_place.nd rfl (Or.inl rfl) (pe_bm PySem.F.plainAttrs_str PySem.F.slot_str_split PySem.F.type_str_split mt_split (pv 0) (pa_cons (pe_str) (pa_nil))))
      (pss_one (ps_ret (pe_tup (pa_cons (pe_callB (r := rLenS K) call_lenS (by rfl) T.n_len PySem.boot_len (pa_cons (pv 1) (pa_nil))) (pa_cons (pe_comp (N' := ["word"]) (n := 1) (fi := []) (g := gName 0) rfl (cscope (defScope (top 24)) ["line", "words"] (by decide +kernel)) (pi_list (pv 1)) (fun s H fp => pg_name (i := 0) (show (["word"] : List Str).Nodup by decide +kernel) rfl (Or.inl rfl) (.inr rfl)) (fun s H fp => pifs_nil) (fun s H fp => pe_tup (pa_cons (pe_callB call_len_str (by rfl) T.n_len PySem.boot_len (pa_cons (pv 0) (pa_nil))) (pa_cons (pv 0) (pa_nil))))) (pa_nil)))))), ?_⟩
    have hz' : z.length ≤ 10000 := hz
    refine ⟨_, rfl, rfl, z, " ", rfl, rfl, (by decide +kernel), Nat.le_trans (Nat.add_le_add_right hz' 2) (by decide), fun l hl => ?_⟩
    have sl : Same H (upd H l (.lst ((Txt.split z " ").map V.str))) := Same.new hl
    have hsz := (L2.split_len1 (z := z) (y := " ")).2
    have hws := ok_split (y := " ") hzs
    generalize Txt.split z " " = ws at sl k hsz hws
    have hq : SqL K (upd H l (.lst (ws.map V.str))) l (ws.map V.str) := .of upd_same
    refine ⟨_, rfl, l, _, rfl, .inl hq, ?_⟩
    rw [List.length_map]
    refine ⟨_, rfl, l, rfl, ⟨_, hq⟩, fun D hD => ?_⟩
    generalize upd H l (.lst (ws.map V.str)) = H1 at sl hq hD
    refine comp_list (K := K) (xs := ws.map V.str) (fun i acc σ H2 => (∃ u, σ = [u]) ∧ Same H1 H2 ∧ Dens K (lim (upd H1 D (.lst [])) H2) acc ((ws.take i).map wkD)) upd_same ⟨⟨_, rfl⟩, Same.new hD, .nil⟩ (fun i acc σ H2 _ _ p => p.2.1.seq hq) (fun i x acc σ H2 hx hDx p => ?_) (fun acc σ H2 hDx p => ?_)
    · obtain ⟨⟨u, rfl⟩, s2, dn⟩ := p
      obtain ⟨w, hw, rfl⟩ := strs_at hx
      have hi := ge_len hw
      have hal : acc.length = i := by rw [dn.length, List.length_map, List.length_take]; lia
      have hwo := hws w (List.mem_of_getElem? hw)
      refine compY ⟨_, rfl, w, rfl, Nat.le_trans (Nat.le_trans hwo.2 hz') (by decide), _, rfl, (by show 2 ≤ sizeLine; decide), fun p hp => ⟨acc, (Same.new hp) _ _ hDx, small (by lia), _, upd_same, ⟨_, rfl⟩, snap_upd hD (s2.trans (Same.new hp)), ?_⟩⟩
      rw [lim_upd (ys := []) upd_same, take_next hw]
      exact (dn.same (lim_mono (Same.new hp))).append (.cons (.tup (.of ((lim_new (by rw [upd_ne (ne_of_none hDx hp).symm]; exact s2.free hp)).trans upd_same)) (.cons (.int _) (.cons (.str hwo.1) .nil))) .nil)
    · obtain ⟨_, s2, dn⟩ := p
      rw [List.length_map, List.take_length] at dn
      have hHD : H D = none := sl.free hD
      have dn2 : Dens K (lim H H2) acc (ws.map wkD) := dn.same (lim_back (sl.ll.trans (Same.ll (Same.new hD))))
      refine ⟨(by show 2 ≤ sizeLine; decide), fun p hp => ?_⟩
      have sp : Same H2 (upd H2 p (.tup [.int ws.length, .ref D])) := Same.new hp
      have hHp : H p = none := (sl.trans s2).free hp
      refine k _ _ (sl.trans (s2.trans sp)) (.tup (.of ((lim_new hHp).trans upd_same)) (.cons (.int _) (.cons (.lst (.of ?_) (dn2.same (lim_mono sp))) .nil)))
      rw [lim_new hHD]
      exact sp _ _ hDx
theorem sc__law_is_line : FnScope ["thing"] ["thing"] (defScope (top 21)) := ⟨rfl, rfl, rfl, by decide +kernel, rfl, by decide +kernel, by decide +kernel⟩
set_option maxHeartbeats 8000000 in
theorem ok__law_is_line (T : Tx K mg A) : FnOk P w K mg base CX0 1 A.f__law_is_line A.d__law_is_line ["thing"] (sp__law_is_line K) := by
  refine T._law_is_line.fn.ok sc__law_is_line (fun vs H Q E h => ?_) (fun cdv Ar outer s H vs Q E hr h => ?_)
  · obtain ⟨v, d, rfl, _⟩ := h; rfl
  · obtain ⟨v, d, rfl, th, k⟩ := h
    refine ⟨_, pssq_if (ptq_or (pt_not (pt_val (pe_callB (r := rIsi K) call_isi (by rfl) T.n_isinstance bt_isinstance (pa_cons (pv 0) (pa_cons (pe_bltn (v := .ty "str") (by rfl) T.n_str bt_str rfl) (pa_nil)))))) (ptq_or (pt_cmpR (op_gt) (pe_callB (r := rLenS K) call_lenS (by rfl) T.n_len PySem.boot_len (pa_cons (pe_bm PySem.F.plainAttrs_str PySem.F.slot_str_split PySem.F.type_str_split mt_split (pv 0) (pa_cons (pe_str) (pa_nil))) (pa_nil))) (pe_int) (nomark _)) (ptq_one (pt_cmpR (r := rIn K false) (op_in_seq) (pe_str) (pe_bm PySem.F.plainAttrs_str PySem.F.slot_str_split PySem.F.type_str_split mt_split (pv 0) (pa_cons (pe_str) (pa_nil))) (by rfl)) ⟨_, rfl⟩))) (pss_one (ps_ret (pe_bl)))
      (pssq_ret (peq_cmpR (r := rEqD K) (op_eqD hr) (peq_comp (N' := ["sign"]) (n := 1) (fi := []) (g := gName 0) rfl (cscope (defScope (top 21)) ["thing"] (by decide +kernel)) (piq_str (peq_replace (pv 0))) (fun s H fp => pg_name (i := 0) (show (["sign"] : List Str).Nodup by decide +kernel) rfl (Or.inl rfl) (.inr rfl)) (fun s H fp => pifs_one ((pw_and (pt_not (pt_chain op_le_str op_le_str (pe_str) (pv 0) (pe_str))) (pw_and1 (pt_not (pt_chain op_le_str op_le_str (pe_str) (pv 0) (pe_str))))).pt)) (fun s H fp => pv 0)) (pe_lst pa_nil) (nomark _))), ?_⟩
    obtain ⟨t, ht, hk⟩ := th.isi
    refine ⟨_, rfl, _, "str", t, isStrD d, rfl, ht, hk, _, rfl, ?_⟩
    rcases th.line with ⟨z, rfl, rfl, hz⟩ | hno
    · refine iteF ?_
      have hz1 : z.length ≤ 10000 := hz.1
      have hzl : z.length + 2 ≤ sizeLine := Nat.le_trans (Nat.add_le_add_right hz1 2) (by decide)
      have hle := law_line z
      refine ⟨_, rfl, rfl, z, " ", rfl, rfl, (by decide +kernel), hzl, fun l hl => ?_⟩
      have sl : Same H (upd H l (.lst ((Txt.split z " ").map V.str))) := Same.new hl
      refine ⟨l, _, rfl, .inl (.of upd_same), _, _, rfl, rfl, _, rfl, ?_⟩
      rw [List.length_map]
      by_cases h12 : (Txt.split z " ").length > 12
      · rw [if_pos h12] at hle
        rw [decide_eq_true (show (12 : Int) < ((Txt.split z " ").length : Int) by lia)]
        refine iteT (iteT ?_)
        have := k _ sl
        rw [show lineD (.str z) = false from hle.symm] at this
        exact this
      · rw [if_neg h12] at hle
        rw [decide_eq_false (show ¬ (12 : Int) < ((Txt.split z " ").length : Int) by lia)]
        refine iteF ?_
        refine ⟨_, rfl, rfl, z, " ", rfl, rfl, (by decide +kernel), hzl, fun l2 hl2 => ?_⟩
        have sl2 := sl.trans (Same.new hl2 (o := .lst ((Txt.split z " ").map V.str)))
        refine ⟨l2, _, rfl, .inl (.of upd_same), rfl, flat_strs _, _, rfl, ?_⟩
        rw [show (if false = true then !inV (.str "") ((Txt.split z " ").map V.str) else inV (.str "") ((Txt.split z " ").map V.str)) = decide (("" : Str) ∈ Txt.split z " ") from inV_strs _ _]
        generalize upd (upd H l (.lst ((Txt.split z " ").map V.str))) l2 (.lst ((Txt.split z " ").map V.str)) = H1 at sl2
        by_cases hin : ("" : Str) ∈ Txt.split z " "
        · rw [if_pos hin] at hle
          rw [decide_eq_true hin]
          refine iteT ?_
          have := k _ sl2
          rw [show lineD (.str z) = false from hle.symm] at this
          exact this
        · rw [if_neg hin] at hle
          rw [decide_eq_false hin]
          refine iteF ?_
          have hok : PyData.strOk (Txt.replace z " " "") = true := ok_of_mem fun c hc => by
            obtain ⟨w, hw, hc⟩ := (mem_replace z c).mp (by simpa using hc)
            exact mem_of_ok (ok_split (y := " ") hz.2 w hw).1 c (by simpa using hc)
          refine ⟨_, rfl, z, rfl, (by decide +kernel), hz1, (by decide +kernel), _, rfl, fun D hD => ?_⟩
          have c33 : ("!" : Str) = ⟨#[33]⟩ := by decide +kernel
          have c36 : ("$" : Str) = ⟨#[36]⟩ := by decide +kernel
          have c38 : ("&" : Str) = ⟨#[38]⟩ := by decide +kernel
          have c126 : ("~" : Str) = ⟨#[126]⟩ := by decide +kernel
          refine comp_signsX (fun c => !rng c) hok (Nat.le_trans (repl_len z) (Nat.le_trans hz1 (by decide))) hD (fun c H2 R h => ?_) fun H2 s2 hD2 => ?_
          · refine not_betweenX c33 c36 ?_
            by_cases h1 : (decide (33 ≤ c) && decide (c ≤ 36)) = true
            · rw [h1]
              refine iteF ?_
              have : rng c = true := by unfold rng; rw [h1]; rfl
              rw [this] at h
              exact h
            · rw [Bool.eq_false_iff.mpr h1]
              refine iteT (not_betweenX c38 c126 ?_)
              have : rng c = (decide (38 ≤ c) && decide (c ≤ 126)) := by unfold rng; rw [Bool.eq_false_iff.mpr h1, Bool.false_or]
              rw [this] at h
              exact h
          · refine ⟨Nat.zero_le _, fun p hp => ?_⟩
            refine ⟨.list ((((Txt.replace z " " "").cps.toList.filter fun c => !rng c).map sg).map .str), .list [], .lst (.of (by rw [upd_ne (ne_of_none hD2 hp)]; exact hD2)) (dens_strs (ok_sg hok)), .lst (.of upd_same) .nil, ?_, ?_⟩
            · have : PyData.depthAll ((((Txt.replace z " " "").cps.toList.filter fun c => !rng c).map sg).map PyData.str) ≤ 0 := depthAll_le _ fun d hd => by
                obtain ⟨x, _, rfl⟩ := List.mem_map.mp hd
                exact Nat.le_refl _
              show PyData.depthAll _ + 1 ≤ 100
              lia
            · have e : ((Txt.replace z " " "").cps.toList.all fun c => !(!rng c)) = lineD (.str z) := by
                simp only [Bool.not_not]
                exact hle
              rw [none_left, e]
              exact k _ (sl2.trans (s2.trans (Same.new hp)))
    · rw [hno]
      refine iteT (iteT ?_)
      have := k H (Same.refl H)
      have e : lineD d = false := by cases d <;> first | rfl | cases hno
      rw [e] at this
      exact this
end
end K01
namespace K01
open PySem L2 LG
section
variable {P : Program} {w : World} {K : PySem.W.Frag} {mg : Str → Option Value} {base : Heap} {A : Ad}
def sp__law_words_right (K : PySem.W.Frag) : Sp := fun vs H Q _ => ∃ (d : Addr) (w : Str), vs = [.ref d, .str w] ∧ WOk w ∧ ∀ H', Same H H' → Q (.bl true) H'
def sp__law_bent (K : PySem.W.Frag) : Sp := fun vs H Q _ => ∃ (d : Addr) (z : Str) (n : Nat), vs = [.ref d, .str z] ∧ Dk H d n ∧ n < 900000 ∧ z.length ≤ 200 ∧ PyData.strOk z = true ∧
  ∀ (y : Str) H', Same (wo d H) H' → Dk H' d (n + 3) → TOk y → Q (.str y) H'
theorem kinds_alike {o : Str} (h : o.cps.toList ≠ []) : kindW (lawKindL o.cps.toList) = kindW (kindT o) := by rw [lawKind_eq h]; rfl
theorem add_ne {x y : Str} (h : x.cps.toList ≠ [] ∨ y.cps.toList ≠ []) : (x ++ y).cps.toList ≠ [] := by
  have e : (x ++ y).cps.toList = x.cps.toList ++ y.cps.toList := Array.toList_append
  rw [e]
  intro z
  rw [List.append_eq_nil_iff] at z
  rcases h with h | h
  · exact h z.1
  · exact h z.2
theorem add_tok {x y : Str} (hx : x.length ≤ 4000) (hy : y.length ≤ 4000) (h1 : PyData.strOk x = true) (h2 : PyData.strOk y = true) : TOk (x ++ y) := by
  refine ⟨by rw [strLen_append]; lia, ok_of_mem fun c hc => ?_⟩
  have e : (x ++ y).cps = x.cps ++ y.cps := rfl
  rw [e, Array.mem_append] at hc
  rcases hc with hc | hc
  · exact mem_of_ok h1 c hc
  · exact mem_of_ok h2 c hc
theorem word_ne {w : Str} (h : WOk w) : w.cps.toList ≠ [] := fun e => by
  have := h.word
  unfold wordB onlyB at this
  rw [e] at this
  cases this
theorem head_ne {w : Str} (h : w.cps.toList ≠ []) : (Txt.slice w none (some 1)).cps.toList ≠ [] := by
  rw [slice_head]
  cases e : w.cps.toList with
  | nil => exact absurd e h
  | cons a r => simp
theorem sc__law_words_right : FnScope ["deck", "word", "other"] ["deck", "word"] (defScope (top 23)) := ⟨rfl, rfl, rfl, by decide +kernel, rfl, by decide +kernel, by decide +kernel⟩
set_option maxHeartbeats 8000000 in
theorem ok__law_words_right (T : Tx K mg A) : FnOk P w K mg base CX0 3 A.f__law_words_right A.d__law_words_right ["deck", "word"] (sp__law_words_right K) := by
  have G_kind_of : FnOk P w K mg base CX0 2 A.f_kind_of A.d_kind_of ["word"] (sp_kind_of K) := (ok_kind_of T).mono (by decide)
  have G__law_kind : FnOk P w K mg base CX0 2 A.f__law_kind A.d__law_kind ["word"] (sp__law_kind K) := (ok__law_kind T).mono (by decide)
  refine T._law_words_right.fn.ok sc__law_words_right (fun vs H Q E h => ?_) (fun cdv Ar outer s H vs Q E hr h => ?_)
  · obtain ⟨d, w, rfl, _⟩ := h; rfl
  · obtain ⟨d, w, rfl, hw, k⟩ := h
    refine ⟨_, pss_cons (ps_for PassesOwn.never rfl (pi_list (pe_lstj (paj_cons (pv 1) (paj_cons (pe_op op_add_str (pe_str) (pv 1)) (paj_cons (pe_op op_add_str (pv 1) (pe_str)) (paj_cons (pe_slice sl_str (pv 1) (po_none) (po_some (pe_int))) (paj_cons (pe_op op_add_str (pv 1) (pe_str)) (paj_cons (pe_op op_add_str (pe_op op_mulS (pe_str) (pe_int)) (pv 1)) (paj_nil))))))))) (pg_name (i := 2) sc__law_words_right.nd rfl (Or.inl rfl)) (pss_one (ps_if (pt_cmpR (op_ne) (pe_call G_kind_of hr (by rfl) T.kind_of.mg T.kind_of.fn.kp T.kind_of.bd .nil pass0 (pa_cons (pv 2) (pa_nil))) (pe_call G__law_kind hr (by rfl) T._law_kind.mg T._law_kind.fn.kp T._law_kind.bd .nil pass0 (pa_cons (pv 2) (pa_nil))) (nomark _)) (pss_one (ps_ret (pe_bl))) (pss_nil))))
      (pss_one (ps_ret (pe_and (pe_cmpR (op_eq) (pe_call G_kind_of hr (by rfl) T.kind_of.mg T.kind_of.fn.kp T.kind_of.bd .nil pass0 (pa_cons (pe_str) (pa_nil))) (pe_str) (nomark _)) (pe_and (pe_cmpR (op_eq) (pe_call G_kind_of hr (by rfl) T.kind_of.mg T.kind_of.fn.kp T.kind_of.bd .nil pass0 (pa_cons (pe_str) (pa_nil))) (pe_str) (nomark _)) (pe_one (pe_cmpR (op_eq) (pe_call G_kind_of hr (by rfl) T.kind_of.mg T.kind_of.fn.kp T.kind_of.bd .nil pass0 (pa_cons (pe_str) (pa_nil))) (pe_str) (nomark _))))))), ?_⟩
    have hwl : w.length ≤ 5 := hw.len
    have hws : w.length ≤ sizeLine := Nat.le_trans hwl (by decide)
    have add : ∀ {x y : Str}, x.length ≤ 100 → y.length ≤ 100 → x.length + y.length ≤ sizeLine := fun a b => Nat.le_trans (Nat.add_le_add a b) (by decide)
    have e1 := ok_slice (z := w) (l := none) (u := some 1) hw.ok
    refine ⟨_, rfl, _, rfl, "-", w, rfl, rfl, add (by decide +kernel) (by lia), _, rfl, w, "0", rfl, rfl, add (by lia) (by decide +kernel), _, rfl, _, rfl, w, rfl, hws, _, rfl, w, "-", rfl, rfl, add (by lia) (by decide +kernel), "0", 5, rfl, rfl, by decide, by decide, by decide +kernel, by decide +kernel, _, rfl, timesS "0" 5, w, rfl, rfl, add (by decide +kernel) (by lia), (by show 6 ≤ sizeLine; decide), fun l hl => ?_⟩
    have hne := word_ne hw
    have ok1 : ∀ x : Str, x ∈ (["-", "0", timesS "0" 5] : List Str) → x.length ≤ 5 ∧ PyData.strOk x = true ∧ x.cps.toList ≠ [] := by decide +kernel
    have a1 := ok1 "-" (by decide +kernel)
    have a2 := ok1 "0" (by decide +kernel)
    have a3 := ok1 (timesS "0" 5) (by decide +kernel)
    let six : List Str := [w, "-" ++ w, w ++ "0", Txt.slice w none (some 1), w ++ "-", timesS "0" 5 ++ w]
    have sixok : ∀ o ∈ six, TOk o ∧ o.cps.toList ≠ [] := by
      intro o ho
      simp only [six, List.mem_cons, List.not_mem_nil, or_false] at ho
      rcases ho with rfl | rfl | rfl | rfl | rfl | rfl
      · exact ⟨⟨by lia, hw.ok⟩, hne⟩
      · exact ⟨add_tok (by lia) (by lia) a1.2.1 hw.ok, add_ne (.inl a1.2.2)⟩
      · exact ⟨add_tok (by lia) (by lia) hw.ok a2.2.1, add_ne (.inl hne)⟩
      · exact ⟨⟨by lia, e1.1⟩, head_ne hne⟩
      · exact ⟨add_tok (by lia) (by lia) hw.ok a1.2.1, add_ne (.inl hne)⟩
      · exact ⟨add_tok (by lia) (by lia) a3.2.1 hw.ok, add_ne (.inl a3.2.2)⟩
    have sl : Same H (upd H l (.lst (six.map V.str))) := Same.new hl
    have hq : SqL K (upd H l (.lst (six.map V.str))) l (six.map V.str) := .of upd_same
    refine ⟨l, rfl, ⟨_, hq⟩, ?_⟩
    refine for_list (K := K) (xs := six.map V.str) (fun i σ H2 => (∃ u, σ = [some (.ref d), some (.str w), u]) ∧ Same (upd H l (.lst (six.map V.str))) H2) ⟨⟨_, rfl⟩, Same.refl _⟩ (fun i σ H2 _ p => p.2.seq hq) (fun i x σ H2 hx p => ?_) (fun σ H2 p => ?_)
    · obtain ⟨⟨u, rfl⟩, s2⟩ := p
      obtain ⟨o, ho, rfl⟩ := strs_at hx
      obtain ⟨h1, h2⟩ := sixok o (List.mem_of_getElem? ho)
      refine ⟨_, rfl, o, rfl, h1.1, _, rfl, o, rfl, h1, fun H3 s3 => ⟨rfl, _, rfl, ?_⟩⟩
      refine iteNS ?_ ⟨⟨_, rfl⟩, s2.trans s3⟩
      rw [kinds_alike h2]
    · obtain ⟨⟨u, rfl⟩, s2⟩ := p
      have q1 : kindW (kindT "-") = "other" := by decide +kernel
      have q2 : kindW (kindT "-0") = "number" := by decide +kernel
      have q3 : kindW (kindT "00") = "number" := by decide +kernel
      have tl : ∀ x : Str, x ∈ (["-", "-0", "00"] : List Str) → LOk x := by unfold LOk; decide +kernel
      refine ⟨"-", rfl, tl _ (by decide +kernel), rfl, _, rfl, ?_⟩
      rw [decide_eq_true (show V.str (kindW (kindT "-")) = V.str "other" by rw [q1])]
      refine iteT ⟨"-0", rfl, tl _ (by decide +kernel), rfl, _, rfl, ?_⟩
      rw [decide_eq_true (show V.str (kindW (kindT "-0")) = V.str "number" by rw [q2])]
      refine iteT ⟨"00", rfl, tl _ (by decide +kernel), rfl, ?_⟩
      rw [decide_eq_true (show V.str (kindW (kindT "00")) = V.str "number" by rw [q3])]
      exact k H2 (sl.trans s2)
def nine : List Str := ["", " ", "\n", " x", "x ", "~", "!", timesS " 0" 11, "z"]
theorem nine_ok : ∀ x ∈ nine, x.length ≤ 22 ∧ PyData.strOk x = true := by decide +kernel
theorem at_txt {l : List Str} {r : Int} (h0 : 0 ≤ r) (h1 : r < l.length) : ∃ o ∈ l, atI (l.map V.str) r = some (.str o) := by
  obtain ⟨n, rfl⟩ : ∃ n : Nat, r = n := ⟨r.toNat, by lia⟩
  have hn : n < l.length := by lia
  exact ⟨l[n], List.getElem_mem hn, atI_nat (by rw [List.getElem?_map, List.getElem?_eq_getElem hn]; rfl)⟩
def rd__law_bent_2 (K : PySem.W.Frag) : TS := tRet (tOp (fun x y H Q => ∃ i j, x = V.str i ∧ y = V.str j ∧ i.length + j.length ≤ sizeLine ∧ Q (V.str (i ++ j)) H)
          (tOp (fun x y H Q => ∃ i j, x = V.str i ∧ y = V.str j ∧ i.length + j.length ≤ sizeLine ∧ Q (V.str (i ++ j)) H) (tSl rSlS (tVar 1) tNoPart (tPart (tVar 2))) (tVar 3))
          (tSl rSlS (tVar 1) (tPart (tOp (rI0 fun i j => V.int (i + j)) (tVar 2) (tCall (sp__law_pick K) [] E0 (tCons (tVar 0) (tCons (tC (V.int 2)) tNil))))) tNoPart))
def rd__law_bent_1 (K : PySem.W.Frag) : TS := tAsg (tOp (rIxL K) (tLst (tCons (tC (V.str "")) (tCons (tC (V.str " ")) (tCons (tC (V.str "\n")) (tCons (tC (V.str " x")) (tCons (tC (V.str "x ")) (tCons (tC (V.str "~")) (tCons (tC (V.str "!"))
      (tCons (tOp (fun x y H Q => ∃ (z : Str) (n : Nat), x = V.str z ∧ y = V.int (n : Int) ∧ 1 < n ∧ n ≤ 100 ∧ 1 ≤ z.length ∧ z.length ≤ 100 ∧ Q (V.str (timesS z n)) H) (tC (V.str " 0")) (tC (V.int 11))) (tCons (tC (V.str "z")) tNil))))))))))
    (tCall (sp__law_pick K) [] E0 (tCons (tVar 0) (tCons (tC (V.int 9)) tNil)))) (gName 3)
def rd__law_bent (K : PySem.W.Frag) : TS := tSeq (tAsg (tCall (sp__law_pick K) [] E0 (tCons (tVar 0) (tCons (tOp (rI0 fun i j => V.int (i + j)) (tCB (fun xs H Q => ∃ z : Str, xs = [V.str z] ∧ z.length ≤ sizeLine ∧ Q (V.int (z.length : Int)) H) (tCons (tVar 1) tNil)) (tC (V.int 1))) tNil))) (gName 2))
  (tSeq (rd__law_bent_1 K) (rd__law_bent_2 K))
theorem sc__law_bent : FnScope ["deck", "line", "at", "some"] ["deck", "line"] (defScope (top 22)) := ⟨rfl, rfl, rfl, by decide +kernel, rfl, by decide +kernel, by decide +kernel⟩
set_option maxHeartbeats 8000000 in
theorem ok__law_bent (T : Tx K mg A) : FnOk P w K mg base CX0 2 A.f__law_bent A.d__law_bent ["deck", "line"] (sp__law_bent K) := by
  have G__law_pick : FnOk P w K mg base CX0 1 A.f__law_pick A.d__law_pick ["deck", "many"] (sp__law_pick K) := (ok__law_pick T).mono (by decide)
  refine T._law_bent.fn.ok sc__law_bent (fun vs H Q E h => ?_) (fun cdv Ar outer s H vs Q E hr h => ?_)
  · obtain ⟨d, z, n, rfl, _⟩ := h; rfl
  · obtain ⟨d, z, n, rfl, hdk, hn, hz, hzs, k⟩ := h
    have q : ∃ t, PSsj (cxOf CX0 P w K mg base ["deck", "line", "at", "some"] "_law_bent" (defScope (top 22)) A.f__law_bent cdv Ar outer s H E).nox (defBody (top 22)) t ∧ t = rd__law_bent K := ⟨_, pssj_cons ⟨ps_set (i := 2) sc__law_bent.nd rfl (Or.inl rfl) (pe_call G__law_pick hr (by rfl) T._law_pick.mg T._law_pick.fn.kp T._law_pick.bd .nil pass0 (pa_cons (pv 0) (pa_cons (pe_op op_add (pe_callB call_len_str (by rfl) T.n_len PySem.boot_len (pa_cons (pv 1) (pa_nil))) (pe_int)) (pa_nil))))⟩
      (pssj_cons (psj_ix (i := 3) sc__law_bent.nd rfl (Or.inl rfl) (by first | exact .inl rfl | exact .inr rfl) (paj_s (paj_s (paj_s (paj_s (paj_s (paj_s (paj_s (paj_cons (pe_op op_mulS (pe_str) (pe_int)) (paj_s (paj_nil))))))))))  (pe_call G__law_pick hr (by rfl) T._law_pick.mg T._law_pick.fn.kp T._law_pick.bd .nil pass0 (pa_cons (pv 0) (pa_cons (pe_int) (pa_nil)))) (fun _ _ => rfl) (by rfl))
      ⟨pss_one (ps_ret (pe_op op_add_str (pe_op op_add_str (pe_slice sl_str (pv 1) (po_none) (po_some (pv 2))) (pv 3)) (pe_slice sl_str (pv 1) (po_some (pe_op op_add (pv 2) (pe_call G__law_pick hr (by rfl) T._law_pick.mg T._law_pick.fn.kp T._law_pick.bd .nil pass0 (pa_cons (pv 0) (pa_cons (pe_int) (pa_nil)))))) (po_none))))⟩), rfl⟩
    obtain ⟨t, ⟨h3⟩, et⟩ := q
    refine ⟨t, ?_, ?_⟩
    · assumption
    rw [et]
    clear h3 et
    have hzl : z.length ≤ sizeLine := Nat.le_trans hz (by decide)
    refine ⟨_, rfl, _, rfl, z, rfl, hzl, _, _, rfl, rfl, d, _, n, rfl, hdk, by lia, by lia, by lia, fun r1 H1 s1 dk1 a0 a1 => ?_⟩
    refine ⟨" 0", 11, rfl, rfl, by decide, by decide, by decide +kernel, by decide +kernel, (by show 9 ≤ sizeLine; decide), fun l hl => ?_⟩
    have sl : Same H1 (upd H1 l (.lst (nine.map V.str))) := Same.new hl
    have hll : (upd H1 l (.lst (nine.map V.str))) l = some (.lst (nine.map V.str)) := upd_same
    have hdl : d ≠ l := dk1.ne hl
    have dkl := dk1.same sl
    refine ⟨_, rfl, d, 9, _, rfl, dkl, by lia, by decide, by decide, fun r2 H2 s2 dk2 b0 b1 => ?_⟩
    have s02 : Same (wo d H) H2 := wo_trans (s1.trans sl) s2
    obtain ⟨o, ho, hat⟩ := at_txt (l := nine) b0 b1
    refine ⟨l, _, r2, _, rfl, rfl, .of (keepN s2 hll hdl), hat, ?_⟩
    obtain ⟨o1, o2⟩ := nine_ok o ho
    have e1 := ok_slice (z := z) (l := none) (u := some r1) hzs
    refine ⟨_, rfl, _, rfl, _, rfl, z, rfl, hzl, _, rfl, _, _, rfl, rfl, ?_, _, rfl, _, rfl, _, rfl, d, 2, _, rfl, dk2, by lia, by decide, by decide, fun r3 H3 s3 dk3 c0 c1 => ?_⟩
    · exact Nat.le_trans (Nat.add_le_add e1.2 o1) (Nat.le_trans (Nat.add_le_add_right hz 22) (by decide))
    · have e2 := ok_slice (z := z) (l := some (r1 + r3)) (u := none) hzs
      have t1 : TOk (Txt.slice z none (some r1) ++ o) := add_tok (by lia) (by lia) e1.1 o2
      have l1 : (Txt.slice z none (some r1) ++ o).length ≤ 300 := by rw [strLen_append]; lia
      refine ⟨_, _, rfl, rfl, _, rfl, z, rfl, hzl, _, _, rfl, rfl, ?_, ?_⟩
      · exact Nat.le_trans (Nat.add_le_add l1 e2.2) (Nat.le_trans (Nat.add_le_add_left hz 300) (by decide))
      · exact k _ H3 (wo_trans s02 s3) dk3 (add_tok (by lia) (by lia) t1.2 e2.1)
end
end K01
namespace K01
open PySem L2 LG
section
variable {P : Program} {w : World} {K : PySem.W.Frag} {mg : Str → Option Value} {base : Heap} {A : Ad}
def Nt : Nat → Nat
  | 0 => 8
  | n + 1 => 8 + 3 * Nt n
def sp_thing (n : Nat) (K : PySem.W.Frag) : Sp := fun vs H Q _ => ∃ (d : Addr) (e c : Nat), vs = [.ref d, .int (e : Int)] ∧ e < n ∧ Dk H d c ∧ c + Nt e < 900000 ∧
  ∀ (v : V) (dd : PyData) H', Same (wo d H) H' → Dk H' d (c + Nt e) → Den K (lim H H') v dd → Kd (lim H H') v → Tg e dd → Q v H'
def sp__law_thing (K : PySem.W.Frag) : Sp := sp_thing 4 K
theorem ll_dk {H H' : Hp} {d : Addr} {n : Nat} (s : Same (wo d H) H') (dk : Dk H' d n) : LL H H' := fun b ys e => by
  by_cases hbd : b = d
  · subst hbd; exact dk.lst
  · exact ⟨ys, s b _ (by rw [wo_at hbd]; exact e)⟩
theorem ll_dkn {H H' : Hp} {d D : Addr} {n : Nat} {acc : List V} (s : Same (wo d H) H') (dk : Dk H' d n) (h : H' D = some (.lst acc)) : LL (upd H D (.lst [])) H' := fun b ys e => by
  by_cases hbD : b = D
  · subst hbD; exact ⟨_, h⟩
  · rw [upd_ne hbD] at e
    exact ll_dk s dk b ys e
theorem nt_pos (n : Nat) : 8 ≤ Nt n := by cases n <;> (unfold Nt; lia)
theorem far_at {a b : Int} {r : Int} (ha : 0 ≤ a) (ha2 : a < 18) (hb : 0 ≤ b) (hb2 : b < 10 ^ (13 : Int).toNat) (h0 : 0 ≤ r) (h1 : r < 3) : ∃ i : Int, atI [V.int (a - 1), V.int (b - 10 ^ (12 : Int).toNat), V.int (0 - 10 ^ (39 : Int).toNat)] r = some (.int i) ∧ i.natAbs ≤ 10 ^ 39 := by
  have e13 : (10 : Int) ^ (13 : Int).toNat = 10000000000000 := by decide
  have e12 : (10 : Int) ^ (12 : Int).toNat = 1000000000000 := by decide
  rw [e13] at hb2
  rw [e12]
  have : r = 0 ∨ r = 1 ∨ r = 2 := by lia
  rcases this with rfl | rfl | rfl
  · exact ⟨_, rfl, by lia⟩
  · exact ⟨_, rfl, by lia⟩
  · exact ⟨_, rfl, by decide +kernel⟩
theorem tru_at {r : Int} (h0 : 4 ≤ r) (h1 : r < 7) : ∃ v dd, atI [V.bl true, V.bl false, V.non] (r - 4) = some v ∧ (∀ (K : PySem.W.Frag) (H : Hp) (n : Nat), Den K H v dd ∧ Kd H v ∧ Tg n dd) := by
  have : r = 4 ∨ r = 5 ∨ r = 6 := by lia
  rcases this with rfl | rfl | rfl
  · exact ⟨_, _, rfl, fun K H n => ⟨.bl true, .inr (.inl ⟨_, rfl⟩), by cases n <;> trivial⟩⟩
  · exact ⟨_, _, rfl, fun K H n => ⟨.bl false, .inr (.inl ⟨_, rfl⟩), by cases n <;> trivial⟩⟩
  · exact ⟨_, _, rfl, fun K H n => ⟨.non, .inl rfl, by cases n <;> trivial⟩⟩
theorem sc__law_thing : FnScope ["deck", "deep", "kind", "far", "some"] ["deck", "deep"] (defScope (top 20)) := ⟨rfl, rfl, rfl, by decide +kernel, rfl, by decide +kernel, by decide +kernel⟩
set_option maxHeartbeats 8000000 in
theorem ok_thing (T : Tx K mg A) : ∀ n, FnOk P w K mg base CX0 (1 + n) A.f__law_thing A.d__law_thing ["deck", "deep"] (sp_thing n K)
  | 0 => ⟨fun vs H Q E h => by obtain ⟨d, e, c, rfl, h, _⟩ := h; lia, fun _ _ _ _ _ _ _ _ _ _ _ _ _ h => by obtain ⟨d, e, c, _, h, _⟩ := h; lia⟩
  | m + 1 => by
    have G__law_pick : FnOk P w K mg base CX0 (1 + m) A.f__law_pick A.d__law_pick ["deck", "many"] (sp__law_pick K) := (ok__law_pick T).mono (by lia)
    have G__law_thing : FnOk P w K mg base CX0 (1 + m) A.f__law_thing A.d__law_thing ["deck", "deep"] (sp_thing m K) := ok_thing T m
    show FnOk P w K mg base CX0 ((1 + m) + 1) A.f__law_thing A.d__law_thing ["deck", "deep"] (sp_thing (m + 1) K)
    refine T._law_thing.fn.ok sc__law_thing (fun vs H Q E h => ?_) (fun cdv Ar outer s H vs Q E hr h => ?_)
    · obtain ⟨d, e, c, rfl, _⟩ := h; rfl
    · obtain ⟨d, e, c, rfl, hm, hdk, hc, k⟩ := h
      suffices q : ∃ t, PSsj (cxOf CX0 P w K mg base ["deck", "deep", "kind", "far", "some"] "_law_thing" (defScope (top 20)) A.f__law_thing cdv Ar outer s H E).nox (defBody (top 20)) t ∧ t { nx := fun _ H' => Q .non H', rt := Q } (start ["deck", "deep", "kind", "far", "some"] [.ref d, .int e]) H by
        obtain ⟨t, ⟨h3⟩, h4⟩ := q
        refine ⟨t, ?_, ?_⟩
        · assumption
        · exact h4
      refine ⟨_, pssj_cons ⟨ps_set (i := 2) sc__law_thing.nd rfl (Or.inl rfl) (pe_call G__law_pick hr (by rfl) T._law_pick.mg T._law_pick.fn.kp T._law_pick.bd .nil pass0 (pa_cons (pv 0) (pa_cons (pe_int) (pa_nil))))⟩ (pssj_cons (psj_ix (i := 3) sc__law_thing.nd rfl (Or.inl rfl) (by first | exact .inl rfl | exact .inr rfl) (paj_cons (pe_op op_sub (pe_call G__law_pick hr (by rfl) T._law_pick.mg T._law_pick.fn.kp T._law_pick.bd .nil pass0 (pa_cons (pv 0) (pa_cons (pe_int) (pa_nil)))) (pe_int)) (paj_cons (pe_op op_sub (pe_call G__law_pick hr (by rfl) T._law_pick.mg T._law_pick.fn.kp T._law_pick.bd .nil pass0 (pa_cons (pv 0) (pa_cons (pe_op op_pow (pe_int) (pe_int)) (pa_nil)))) (pe_op op_pow (pe_int) (pe_int))) (paj_cons (pe_op op_sub (pe_int) (pe_op op_pow (pe_int) (pe_int))) (paj_nil)))) (pe_call G__law_pick hr (by rfl) T._law_pick.mg T._law_pick.fn.kp T._law_pick.bd .nil pass0 (pa_cons (pv 0) (pa_cons (pe_int) (pa_nil)))) (fun _ _ => rfl) (by rfl))
        (pssj_cons ⟨ps_if (pt_cmpR (op_lt) (pv 2) (pe_int) (nomark _)) (pss_one (ps_ret (pv 3))) (pss_nil)⟩ 
        (pssj_cons ⟨ps_if (pt_cmpR (op_lt) (pv 2) (pe_int) (nomark _)) (pss_one (ps_ret (pe_ix (r := rIxL K) ix_list (pe_lst (pa_cons (pe_bl) (pa_cons (pe_bl) (pa_cons (pe_non) (pa_nil))))) (pe_op op_sub (pv 2) (pe_int)) (fun _ _ => rfl)))) (pss_nil)⟩ 
        (pssj_cons ⟨ps_if (pt_cmpR (op_lt) (pv 2) (pe_int) (nomark _)) (pss_one (ps_ret (pe_ix (r := rIxL K) ix_list (pe_lst (pa_cons (pe_str) (pa_cons (pe_str) (pa_cons (pe_str) (pa_cons (pe_str) (pa_cons (pe_str) (pa_cons (pe_str) (pa_nil)))))))) (pe_call G__law_pick hr (by rfl) T._law_pick.mg T._law_pick.fn.kp T._law_pick.bd .nil pass0 (pa_cons (pv 0) (pa_cons (pe_int) (pa_nil)))) (fun _ _ => rfl)))) (pss_nil)⟩ 
        (pssj_cons ⟨ps_comp (i := 4) (N' := ["k", "deck", "deep"]) (n := 1) (fi := [0, 1]) (g := gName 0) sc__law_thing.nd rfl (Or.inl rfl) rfl (cscope (defScope (top 20)) ["deck", "deep", "kind", "far", "some"] (by decide +kernel)) (pi_range1 (by rfl) T.n_range (pa_cons (pe_op op_mul (pe_call G__law_pick hr (by rfl) T._law_pick.mg T._law_pick.fn.kp T._law_pick.bd .nil pass0 (pa_cons (pv 0) (pa_cons (pe_int) (pa_nil)))) (pe_callTy call_int1 (by rfl) T.n_int bt_int (pa_cons (pe_cmpR (op_gt) (pv 1) (pe_int) (nomark _)) (pa_nil)))) (pa_nil))) (fun s H fp => pg_name (i := 0) (show (["k", "deck", "deep"] : List Str).Nodup by decide +kernel) rfl (Or.inl rfl) (.inr rfl)) (fun s H fp => pifs_nil) (fun s H fp => pe_call G__law_thing hr (by rfl) T._law_thing.mg T._law_thing.fn.kp T._law_thing.bd .nil pass0 (pa_cons (pv 1) (pa_cons (pe_op op_sub (pv 2) (pe_int)) (pa_nil))))⟩ 
        ⟨pss_one (ps_ret (pe_ifExp (pt_cmpR (op_eq) (pv 2) (pe_int) (nomark _)) (pv 4) (pe_callTy call_tuple_of (by rfl) T.n_tuple bt_tuple (pa_cons (pv 4) (pa_nil)))))⟩))))), ?_⟩
      have hNt := nt_pos e
      obtain ⟨zs0, hd0⟩ := hdk.lst
      refine ⟨_, rfl, d, 12, c, rfl, hdk, by lia, by decide, by decide, fun r1 H1 s1 dk1 a0 a1 => ?_⟩
      refine ⟨_, rfl, d, 18, _, rfl, dk1, by lia, by decide, by decide, fun r2 H2 s2 dk2 b0 b1 => ⟨_, _, rfl, rfl, ?_⟩⟩
      refine ⟨_, rfl, _, _, rfl, rfl, ⟨by decide, by decide, by decide⟩, d, _, _, rfl, dk2, by lia, by decide, by decide, fun r3 H3 s3 dk3 c0 c1 => ⟨_, _, rfl, rfl, ⟨by decide, by decide, by decide⟩, _, _, rfl, rfl, ?_⟩⟩
      refine ⟨_, _, rfl, rfl, ⟨by decide, by decide, by decide⟩, _, _, rfl, rfl, (by show 3 ≤ sizeLine; decide), fun l hl => ?_⟩
      have hdl : d ≠ l := dk3.ne hl
      have dk3l := dk3.same (Same.new hl (o := .lst [V.int (r2 - 1), V.int (r3 - 10 ^ (12 : Int).toNat), V.int (0 - 10 ^ (39 : Int).toNat)]))
      have hll : (upd H3 l (.lst [V.int (r2 - 1), V.int (r3 - 10 ^ (12 : Int).toNat), V.int (0 - 10 ^ (39 : Int).toNat)])) l = some (.lst [V.int (r2 - 1), V.int (r3 - 10 ^ (12 : Int).toNat), V.int (0 - 10 ^ (39 : Int).toNat)]) := upd_same
      have s3l : Same (wo d H) (upd H3 l (.lst [V.int (r2 - 1), V.int (r3 - 10 ^ (12 : Int).toNat), V.int (0 - 10 ^ (39 : Int).toNat)])) := (wo_trans (wo_trans s1 s2) s3).trans (Same.new hl)
      generalize upd H3 l (.lst [V.int (r2 - 1), V.int (r3 - 10 ^ (12 : Int).toNat), V.int (0 - 10 ^ (39 : Int).toNat)]) = H3l at dk3l hll s3l
      refine ⟨_, rfl, d, 3, _, rfl, dk3l, by lia, by decide, by decide, fun r4 H4 s4 dk4 e0 e1 => ?_⟩
      obtain ⟨far, hat, hfar⟩ := far_at b0 b1 c0 c1 e0 e1
      have s04 : Same (wo d H) H4 := wo_trans s3l s4
      refine ⟨l, _, r4, _, rfl, rfl, .of (keepN s4 hll hdl), hat, ?_⟩
      clear hat hll s3l s4 s3 s2 s1 dk3l dk3 dk2 dk1 hdl hl
      refine ⟨_, rfl, _, _, rfl, rfl, _, rfl, ite2 (fun h1 => ?_) (fun h1 => ?_)⟩
      · refine ⟨_, rfl, ?_⟩
        exact k (.int far) (.int far) H4 s04 (dk4.mono (by lia)) (.int far) (.inr (.inr (.inl ⟨_, rfl⟩))) (by cases e <;> exact hfar)
      have h4 : 4 ≤ r1 := by have := of_decide_eq_false (Bool.eq_false_iff.mpr h1); lia
      refine ⟨_, rfl, _, _, rfl, rfl, _, rfl, ite2 (fun h2 => ?_) (fun h2 => ?_)⟩
      · have h7 : r1 < 7 := of_decide_eq_true h2
        obtain ⟨v, dd, hv, hall⟩ := tru_at h4 h7
        refine ⟨(by show 3 ≤ sizeLine; decide), fun l2 hl2 => ⟨_, rfl, _, _, rfl, rfl, l2, _, r1 - 4, v, rfl, rfl, .of upd_same, hv, ?_⟩⟩
        obtain ⟨q1, q2, q3⟩ := hall K (lim H (upd H4 l2 (.lst [V.bl true, V.bl false, V.non]))) e
        exact k v dd _ (s04.trans (Same.new hl2)) ((dk4.same (Same.new hl2)).mono (by lia)) q1 q2 q3
      refine ⟨_, rfl, _, _, rfl, rfl, _, rfl, ite2 (fun h3 => ?_) (fun h3 => ?_)⟩
      · refine ⟨(by show 6 ≤ sizeLine; decide), fun l2 hl2 => ?_⟩
        have hdl2 : d ≠ l2 := dk4.ne hl2
        have sl2 : Same H4 (upd H4 l2 (.lst (six6.map V.str))) := Same.new hl2
        refine ⟨_, rfl, d, 6, _, rfl, dk4.same sl2, by lia, by decide, by decide, fun r5 H5 s5 dk5 f0 f1 => ?_⟩
        obtain ⟨o, ho, hat⟩ := at_txt (l := six6) f0 f1
        refine ⟨l2, _, r5, _, rfl, rfl, .of (keepN s5 upd_same hdl2), hat, ?_⟩
        have htg : Tg e (.str o) := by cases e <;> exact ho
        exact k (.str o) (.str o) H5 (wo_trans (s04.trans sl2) s5) (dk5.mono (by lia)) (.str (tg_str htg).2) (.inr (.inr (.inr (.inl ⟨_, rfl⟩)))) htg
      refine ⟨_, rfl, d, 4, _, rfl, dk4, by lia, by decide, by decide, fun r5 H5 s5 dk5 f0 f1 => ?_⟩
      have s05 : Same (wo d H) H5 := wo_trans s04 s5
      refine ⟨_, rfl, _, _, rfl, rfl, .inr ⟨_, rfl, _, _, rfl, rfl, .inl ⟨by lia, by lia⟩, _, rfl, ?_, ?_, fun D hD => ?_⟩⟩
      · split <;> lia
      · split <;> lia
      have hdD : d ≠ D := dk5.ne hD
      have hHD : H D = none := dk5.free s05 hD
      have hDD : (upd H5 D (.lst [])) D = some (.lst []) := upd_same
      have sD : Same H5 (upd H5 D (.lst [])) := Same.new hD
      obtain ⟨zs5, hd5⟩ := dk5.lst
      have hbd : (upd H5 D (.lst [])) d = some (.lst zs5) := by rw [upd_ne hdD]; exact hd5
      have hll5 : LL H (upd H5 D (.lst [])) := (ll_dk s05 dk5).trans sD.ll
      refine comp_range (fun i acc σ H6 => (∃ u, σ = [u, some (.ref d), some (.int e)]) ∧ Same (wo d H5) H6 ∧ Dk H6 d (c + 6 + i * Nt (e - 1)) ∧ ∃ ds, Dens K (lim (upd H5 D (.lst [])) H6) acc ds ∧ ds.length = i ∧ ∀ x ∈ ds, e ≠ 0 ∧ Tg (e - 1) x) hDD ⟨⟨_, rfl⟩, wo_same.trans sD, (dk5.same sD).mono (by lia), [], .nil, rfl, fun x hx => nomatch hx⟩ (fun i acc σ H6 hi hD6 q => ?_) (fun acc σ H6 hD6 q => ?_)
      · obtain ⟨q0, s6, dk6, ds, dn, hl, hds⟩ := q
        apply ex_1 q0
        clear q0
        intro u
        have he : e ≠ 0 := fun z => by subst z; simp at hi
        have hi3 : i < 3 := by
          have : i < (r5 * (if decide ((0 : Int) < (e : Int)) = true then 1 else 0)).toNat := hi
          split at this <;> lia
        have hnt : Nt e = 8 + 3 * Nt (e - 1) := by cases e with | zero => exact absurd rfl he | succ e => rfl
        have hmul : i * Nt (e - 1) ≤ 2 * Nt (e - 1) := Nat.mul_le_mul_right _ (by lia)
        refine compY ⟨_, rfl, _, rfl, _, _, rfl, rfl, d, e - 1, _, ?_, by lia, dk6, by lia, fun v dd H7 s7 dk7 dv kv tv => ?_⟩
        · show [V.ref d, V.int ((e : Int) - 1)] = _
          rw [show ((e : Int) - 1) = ((e - 1 : Nat) : Int) by lia]
        have hD7 : H7 D = some (.lst acc) := keepN s7 hD6 hdD
        have hal : acc.length = i := by rw [dn.length, hl]
        refine ⟨acc, hD7, small (by lia), _, upd_same, ⟨_, rfl⟩, snap_upd (by rw [wo_at hdD.symm]; exact hD) (wo_trans s6 s7), (dk7.upd hdD).mono (by rw [Nat.succ_mul]; lia), ds ++ [dd], ?_, by simp [hl], fun x hx => ?_⟩
        · rw [lim_upd hDD]
          exact (dn.same (lim_wo_mono hbd s7)).append (.cons (dv.same (lim_back (ll_dkn s6 dk6 hD6))) .nil)
        · rcases List.mem_append.mp hx with z | z
          · exact hds x z
          · rw [List.mem_singleton.mp z]; exact ⟨he, tv⟩
      · obtain ⟨q0, s6, dk6, ds, dn, hl, hds⟩ := q
        apply ex_1 q0
        clear q0
        intro u
        have s06 : Same (wo d H) H6 := wo_trans s05 s6
        have hl3 : ds.length ≤ 3 := by
          rw [hl]
          show (r5 * (if decide ((0 : Int) < (e : Int)) = true then 1 else 0)).toNat ≤ 3
          split <;> lia
        have hdk6 : Dk H6 d (c + Nt e) := dk6.mono (by
          by_cases he : e = 0
          · subst he
            have : (r5 * (if decide ((0 : Int) < ((0 : Nat) : Int)) = true then 1 else 0)).toNat = 0 := by simp
            rw [this]; lia
          · have hnt : Nt e = 8 + 3 * Nt (e - 1) := by cases e with | zero => exact absurd rfl he | succ e => rfl
            have := Nat.mul_le_mul_right (Nt (e - 1)) (hl ▸ hl3)
            lia)
        have htl : Tg e (.list ds) := by
          cases e with
          | zero =>
            cases ds with
            | nil => rfl
            | cons x _ => exact absurd rfl (hds x (.head _)).1
          | succ e => exact ⟨hl3, fun x hx => (hds x hx).2⟩
        have htt : Tg e (.tuple ds) := by
          cases e with
          | zero =>
            cases ds with
            | nil => rfl
            | cons x _ => exact absurd rfl (hds x (.head _)).1
          | succ e => exact ⟨hl3, fun x hx => (hds x hx).2⟩
        have dn6 : Dens K (lim H H6) acc ds := dn.same (lim_back hll5)
        have hD6l : lim H H6 D = some (.lst acc) := by rw [lim_new hHD]; exact hD6
        refine ⟨_, rfl, rfl, _, rfl, ite2 (fun h9 => ?_) (fun h9 => ?_)⟩
        · refine ⟨_, rfl, ?_⟩
          exact k (.ref D) (.list ds) H6 s06 hdk6 (.lst (.of hD6l) dn6) (.inr (.inr (.inr (.inr ⟨D, acc, rfl, .inl hD6l⟩)))) htl
        · refine ⟨_, rfl, D, acc, rfl, .inl ⟨.of hD6, fun p hp => ?_⟩⟩
          have sp : Same H6 (upd H6 p (.tup acc)) := Same.new hp
          have hHp : H p = none := dk6.free s06 hp
          have hpl : lim H (upd H6 p (.tup acc)) p = some (.tup acc) := by rw [lim_new hHp]; exact upd_same
          exact k (.ref p) (.tuple ds) _ (s06.trans sp) (hdk6.same sp) (.tup (.of hpl) (dn6.same (lim_mono sp))) (.inr (.inr (.inr (.inr ⟨p, acc, rfl, .inr hpl⟩)))) htt
theorem ok__law_thing (T : Tx K mg A) : FnOk P w K mg base CX0 6 A.f__law_thing A.d__law_thing ["deck", "deep"] (sp__law_thing K) := (ok_thing T 4).mono (by decide)
end
end K01
namespace K01
open PySem L2 LG
section
variable {P : Program} {w : World} {K : PySem.W.Frag} {mg : Str → Option Value} {base : Heap} {A : Ad}
theorem sh_strs (l : List Str) : (Sh.list .str).has (.list (l.map PyData.str)) := ⟨_, rfl, fun x hx => by
  obtain ⟨w, _, rfl⟩ := List.mem_map.mp hx
  exact ⟨_, rfl⟩⟩
theorem eqv_strs (l : List Str) : PyData.eqv (.list (l.map PyData.str)) (.list (l.map PyData.str)) = true := ((Sh.ok (.list .str)).eqv _ _ (sh_strs l) (sh_strs l)).mpr rfl
theorem dep_strs (l : List Str) : (PyData.list (l.map PyData.str)).depth ≤ 100 := by
  have : PyData.depthAll (l.map PyData.str) ≤ 0 := depthAll_le _ fun d hd => by
    obtain ⟨x, _, rfl⟩ := List.mem_map.mp hd
    exact Nat.le_refl _
  show PyData.depthAll _ + 1 ≤ 100
  lia
theorem den_strs {K : PySem.W.Frag} {H : Hp} {a : Addr} {l : List Str} (h : H a = some (.lst (l.map V.str))) (ok : ∀ z ∈ l, PyData.strOk z = true) : Den K H (.ref a) (.list (l.map PyData.str)) := .lst (.of h) (dens_strs ok)
theorem den_pl {K : PySem.W.Frag} {H : Hp} {x : V} {z : Str} (h : Den K H x (plD z)) : ∃ t r, x = .ref t ∧ SqT K H t [r, .str z] := by
  cases h with
  | tup hs ds =>
    cases ds with
    | cons h1 t1 =>
      cases t1 with
      | cons h2 t2 =>
        cases h2
        cases t2
        exact ⟨_, _, rfl, hs⟩
theorem seven_ok : (timesS " 7" 13).length ≤ 26 ∧ PyData.strOk (timesS " 7" 13) = true := by decide +kernel
theorem sc_law : FnScope ["script", "cell", "deck", "line", "thing", "text", "found", "lines", "handed", "due", "turn", "told"] ["script"] (defScope (top 25)) := ⟨rfl, rfl, rfl, by decide +kernel, rfl, by decide +kernel, by decide +kernel⟩
set_option maxHeartbeats 8000000 in
theorem ok_law (F : Fun K "law" "law" (top 25) A.f_law A.d_law) (T : Tx K mg A) : FnOk P w K mg base CX0 7 A.f_law A.d_law ["script"] (sp_law K) := by
  have G__law_deck : FnOk P w K mg base CX0 6 A.f__law_deck A.d__law_deck ["cell", "turn"] (sp__law_deck K) := (ok__law_deck T).mono (by decide)
  have G__law_line : FnOk P w K mg base CX0 6 A.f__law_line A.d__law_line ["deck", "most"] (sp__law_line K) := (ok__law_line T).mono (by decide)
  have G_words_of : FnOk P w K mg base CX0 6 A.f_words_of A.d_words_of ["line"] (sp_words_of K) := (ok_words_of T).mono (by decide)
  have G__law_lines : FnOk P w K mg base CX0 6 A.f__law_lines A.d__law_lines ["deck", "most"] (sp__law_lines K) := (ok__law_lines T).mono (by decide)
  have G__law_words_right : FnOk P w K mg base CX0 6 A.f__law_words_right A.d__law_words_right ["deck", "word"] (sp__law_words_right K) := (ok__law_words_right T).mono (by decide)
  have G__law_bent : FnOk P w K mg base CX0 6 A.f__law_bent A.d__law_bent ["deck", "line"] (sp__law_bent K) := (ok__law_bent T).mono (by decide)
  have G__law_thing : FnOk P w K mg base CX0 6 A.f__law_thing A.d__law_thing ["deck", "deep"] (sp__law_thing K) := (ok__law_thing T).mono (by decide)
  have G_is_line : FnOk P w K mg base CX0 6 A.f_is_line A.d_is_line ["thing"] (sp_is_line K) := (ok_is_line T).mono (by decide)
  have G_in_order : FnOk P w K mg base CX0 6 A.f_in_order A.d_in_order ["lines"] (sp_in_order K) := (ok_in_order T).mono (by decide)
  have G__law_word : FnOk P w K mg base CX0 6 A.f__law_word A.d__law_word ["deck"] (sp__law_word K) := (ok__law_word T).mono (by decide)
  have G__law_is_line : FnOk P w K mg base CX0 6 A.f__law_is_line A.d__law_is_line ["thing"] (sp__law_is_line K) := (ok__law_is_line T).mono (by decide)
  have G__law_line_place : FnOk P w K mg base CX0 6 A.f__law_line_place A.d__law_line_place ["line"] (sp__law_line_place K) := (ok__law_line_place T).mono (by decide)
  refine F.ok sc_law (fun vs H Q E h => ?_) (fun cdv Ar outer s H vs Q E hr h => ?_)
  · obtain ⟨a, ns, rfl, _⟩ := h; rfl
  · obtain ⟨a, ns, rfl, hScr, hn, k⟩ := h
    suffices q : ∃ t, PSsj (cxOf CX0 P w K mg base ["script", "cell", "deck", "line", "thing", "text", "found", "lines", "handed", "due", "turn", "told"] "law" (defScope (top 25)) A.f_law cdv Ar outer s H E).nox (defBody (top 25)) t ∧ t { nx := fun _ H' => Q .non H', rt := Q } (start ["script", "cell", "deck", "line", "thing", "text", "found", "lines", "handed", "due", "turn", "told"] [.ref a]) H by
      obtain ⟨t, ⟨h3⟩, h4⟩ := q
      refine ⟨t, ?_, ?_⟩
      · assumption
      · exact h4
    refine ⟨_, pssj_cons (psj_for PassesOwn.never rfl (pi_list (pe_op (r := rCatS K) op_catS (pe_lstj (paj_cons (pe_int) (paj_nil))) (pe_slice (r := rSlL K) sl_list (pv 0) (po_none) (po_some (pe_int))))) (pg_name (i := 1) sc_law.nd rfl (Or.inl rfl)) (pssj_cons (⟨ps_set (i := 2) sc_law.nd rfl (Or.inl rfl) (pe_call G__law_deck hr (by rfl) T._law_deck.mg T._law_deck.fn.kp T._law_deck.bd .nil pass0 (pa_cons (pv 1) (pa_cons (pe_int) (pa_nil))))⟩)
        (pssj_cons (⟨ps_if (pt_not (pt_val (pe_call G__law_words_right hr (by rfl) T._law_words_right.mg T._law_words_right.fn.kp T._law_words_right.bd .nil pass0 (pa_cons (pv 2) (pa_cons (pe_call G__law_word hr (by rfl) T._law_word.mg T._law_word.fn.kp T._law_word.bd .nil pass0 (pa_cons (pv 2) (pa_nil))) (pa_nil)))))) (pss_one (ps_ret (pe_bl))) (pss_nil)⟩)
        (pssj_cons (⟨ps_set (i := 3) sc_law.nd rfl (Or.inl rfl) (pe_call G__law_line hr (by rfl) T._law_line.mg T._law_line.fn.kp T._law_line.bd .nil pass0 (pa_cons (pv 2) (pa_cons (pe_int) (pa_nil))))⟩)
        (pssj_cons (psj_forL PassesOwn.never rfl (paj_cons (pv 3) (paj_cons (pe_call G__law_bent hr (by rfl) T._law_bent.mg T._law_bent.fn.kp T._law_bent.bd .nil pass0 (pa_cons (pv 2) (pa_cons (pv 3) (pa_nil)))) (paj_cons (pe_call G__law_bent hr (by rfl) T._law_bent.mg T._law_bent.fn.kp T._law_bent.bd .nil pass0 (pa_cons (pv 2) (pa_cons (pv 3) (pa_nil)))) (paj_cons (pe_call G__law_thing hr (by rfl) T._law_thing.mg T._law_thing.fn.kp T._law_thing.bd .nil pass0 (pa_cons (pv 2) (pa_cons (pe_int) (pa_nil)))) (paj_cons (pe_op op_add_str (pv 3) (pe_op op_mulS (pe_str) (pe_int))) (paj_nil)))))) (pg_name (i := 4) sc_law.nd rfl (Or.inl rfl)) (pssj_cons (⟨ps_set (i := 5) sc_law.nd rfl (Or.inl rfl) (pe_callTy (r := rStr K) (call_strD hr) (by rfl) T.n_str bt_str' (pa_cons (pv 4) (pa_nil)))⟩)
        (pssj_cons (⟨ps_set (i := 6) sc_law.nd rfl (Or.inl rfl) (pe_call G_is_line hr (by rfl) T.is_line.mg T.is_line.fn.kp T.is_line.bd .nil pass0 (pa_cons (pv 4) (pa_nil)))⟩)
        (⟨pss_one (ps_if ((pw_or (pt_not (pt_val (pe_callB (r := rIsi K) call_isi (by rfl) T.n_isinstance bt_isinstance (pa_cons (pv 6) (pa_cons (pe_bltn (v := .ty "bool") (by rfl) T.n_bool bt_bool rfl) (pa_nil)))))) (pw_or (pt_cmpR (op_ne) (pv 6) (pe_call G__law_is_line hr (by rfl) T._law_is_line.mg T._law_is_line.fn.kp T._law_is_line.bd .nil pass0 (pa_cons (pv 4) (pa_nil))) (nomark _)) (pw_or1 (pt_cmpR (op_ne) (pe_callTy (r := rStr K) (call_strD hr) (by rfl) T.n_str bt_str' (pa_cons (pv 4) (pa_nil))) (pv 5) (nomark _))))).pt) (pss_one (ps_ret (pe_bl))) (pss_nil))⟩))))
        (pssj_cons (⟨ps_set (i := 6) sc_law.nd rfl (Or.inl rfl) (pe_call G_words_of hr (by rfl) T.words_of.mg T.words_of.fn.kp T.words_of.bd .nil pass0 (pa_cons (pv 3) (pa_nil)))⟩)
        (pssj_cons (⟨ps_if ((pw_or (pt_not (pt_val (pe_callB (r := rIsi K) call_isi (by rfl) T.n_isinstance bt_isinstance (pa_cons (pv 6) (pa_cons (pe_bltn (v := .ty "list") (by rfl) T.n_list bt_list rfl) (pa_nil)))))) (pw_or1 (pt_cmpR (r := rNeD K) (op_neD hr) (pv 6) (pe_bm PySem.F.plainAttrs_str PySem.F.slot_str_split PySem.F.type_str_split mt_split (pv 3) (pa_cons (pe_str) (pa_nil))) (nomark _)))).pt) (pss_one (ps_ret (pe_bl))) (pss_nil)⟩)
        (pssj_cons (⟨ps_expr (pe_bm PySem.F.plainAttrs_list PySem.F.slot_list_append PySem.F.type_list_append mt_append (pv 6) (pa_cons (pe_non) (pa_nil)))⟩)
        (pssj_cons (⟨ps_set (i := 7) sc_law.nd rfl (Or.inl rfl) (pe_call G__law_lines hr (by rfl) T._law_lines.mg T._law_lines.fn.kp T._law_lines.bd .nil pass0 (pa_cons (pv 2) (pa_cons (pe_int) (pa_nil))))⟩)
        (pssj_cons (⟨ps_set (i := 8) sc_law.nd rfl (Or.inl rfl) (pe_callTy (r := rListOf K) call_listO (by rfl) T.n_list bt_list (pa_cons (pv 7) (pa_nil)))⟩)
        (pssj_cons (⟨ps_comp (i := 9) (N' := ["place", "line"]) (n := 2) (fi := []) (g := gTup K 2 (gCons (gName 0) (gCons (gName 1) (gNil)))) sc_law.nd rfl (Or.inl rfl) rfl (cscope (defScope (top 25)) ["script", "cell", "deck", "line", "thing", "text", "found", "lines", "handed", "due", "turn", "told"] (by decide +kernel)) (pi_list (pe_callB (call_sorted (a := lkSh) (r := .tcons .str .tnil) (.tcons _ _) hr) (by rfl) T.n_sorted bt_sorted (pa_cons (pe_comp (N' := ["line"]) (n := 1) (fi := []) (g := gName 0) rfl (cscope (defScope (top 25)) ["script", "cell", "deck", "line", "thing", "text", "found", "lines", "handed", "due", "turn", "told"] (by decide +kernel)) (pi_list (pv 7)) (fun s H fp => pg_name (i := 0) (show (["line"] : List Str).Nodup by decide +kernel) rfl (Or.inl rfl) (.inr rfl)) (fun s H fp => pifs_nil) (fun s H fp => pe_tup (pa_cons (pe_call G__law_line_place hr (by rfl) T._law_line_place.mg T._law_line_place.fn.kp T._law_line_place.bd .nil pass0 (pa_cons (pv 0) (pa_nil))) (pa_cons (pv 0) (pa_nil))))) (pa_nil)))) (fun s H fp => pg_tup rfl (pgs_cons (pg_name (i := 0) (show (["place", "line"] : List Str).Nodup by decide +kernel) rfl (Or.inl rfl) (.inr rfl)) (pgs_cons (pg_name (i := 1) (show (["place", "line"] : List Str).Nodup by decide +kernel) rfl (Or.inl rfl) (.inr rfl)) (pgs_nil)))) (fun s H fp => pifs_nil) (fun s H fp => pv 1)⟩)
        (pssj_cons (psj_for PassesOwn.never rfl (pi_range1 (by rfl) T.n_range (pa_cons (pe_int) (pa_nil))) (pg_name (i := 10) sc_law.nd rfl (Or.inl rfl)) (pssj_cons (⟨ps_set (i := 11) sc_law.nd rfl (Or.inl rfl) (pe_call G_in_order hr (by rfl) T.in_order.mg T.in_order.fn.kp T.in_order.bd .nil pass0 (pa_cons (pv 8) (pa_nil)))⟩)
        (pssj_cons (⟨ps_if ((pw_or (pt_not (pt_val (pe_callB (r := rIsi K) call_isi (by rfl) T.n_isinstance bt_isinstance (pa_cons (pv 11) (pa_cons (pe_bltn (v := .ty "list") (by rfl) T.n_list bt_list rfl) (pa_nil)))))) (pw_or (pt_cmpR (r := rNeD K) (op_neD hr) (pv 11) (pv 9) (nomark _)) (pw_or1 (pt_cmpR (r := rNeD K) (op_neD hr) (pv 8) (pv 7) (nomark _))))).pt) (pss_one (ps_ret (pe_bl))) (pss_nil)⟩)
        (⟨pss_one (ps_expr (pe_bm PySem.F.plainAttrs_list PySem.F.slot_list_append PySem.F.type_list_append mt_append (pv 11) (pa_cons (pe_non) (pa_nil))))⟩)))) ⟨pss_nil⟩))))))))))))
        (⟨pss_one (ps_ret (pe_bl))⟩), ?_⟩
    have hcl : (cutV (ns.map V.int) none (some 6)).length ≤ 63 := by
      rw [cut_take (by decide), List.length_take, List.length_map]
      lia
    refine ⟨(by show 1 ≤ sizeLine; decide), fun p hp => ⟨_, rfl, 6, rfl, a, _, rfl, (Same.new hp).seq hScr, fun q hq => ⟨p, q, _, _, rfl, rfl, .of ((Same.new hq) _ _ upd_same), .of upd_same, ?_, fun Z hZ => ⟨Z, rfl, ⟨_, .of upd_same⟩, ?_⟩⟩⟩⟩
    · exact Nat.le_trans (Nat.add_le_add_left hcl 1) (by decide)
    have hcells : ∀ i x, ([V.int 0] ++ cutV (ns.map V.int) none (some 6))[i]? = some x → ∃ c : Int, x = V.int c := fun i x hx => by
      rw [cut_take (by decide)] at hx
      rcases List.mem_append.mp (List.mem_of_getElem? hx) with hm | hm
      · exact ⟨0, List.mem_singleton.mp hm⟩
      · obtain ⟨c, _, rfl⟩ := List.mem_map.mp (List.mem_of_mem_take hm)
        exact ⟨c, rfl⟩
    generalize [V.int 0] ++ cutV (ns.map V.int) none (some 6) = cells at hcells
    refine for_list (K := K) (xs := cells) (fun i σ H => (∃ u0 u1 u2 u3 u4 u5 u6 u7 u8 u9 u10 u11, σ = [u0, u1, u2, u3, u4, u5, u6, u7, u8, u9, u10, u11]) ∧ H Z = some (.lst cells)) ⟨⟨_, _, _, _, _, _, _, _, _, _, _, _, rfl⟩, upd_same⟩ (fun i σ H _ q => .of q.2) (fun i x σ H0 hx q => ?_) (fun σ H q => ?_)
    · obtain ⟨c, rfl⟩ := hcells i x hx
      obtain ⟨q0, hZ0⟩ := q
      apply ex_12 q0
      clear q0
      intro u0 u1 u2 u3 u4 u5 u6 u7 u8 u9 u10 u11
      refine ⟨_, rfl, c, rfl, fun d H1 hd s1 dk1 => ?_⟩
      have hdZ : d ≠ Z := (ne_of_none hZ0 hd).symm
      have hZ1 := s1 _ _ hZ0
      refine ⟨_, rfl, _, rfl, d, 0, rfl, dk1, by decide, fun x2 H2 s2 dk2 hx2 => ⟨d, x2, rfl, hx2, fun H3 s3 => ⟨_, rfl, iteF ?_⟩⟩⟩
      have hZ3 := s3 _ _ (keepN s2 hZ1 hdZ)
      have dk3 := dk2.same s3
      clear s1 s2 s3 dk1 dk2 hZ1 hd
      refine ⟨_, rfl, d, 12, _, rfl, dk3, by decide, by decide, by decide, fun z ws H4 s4 dk4 hln => ?_⟩
      have hZ4 := keepN s4 hZ3 hdZ
      have hz := hln.ok (by decide)
      have hzT : TOk z := ⟨by lia, hz.1⟩
      clear s4 dk3 hZ3
      refine ⟨_, rfl, _, rfl, _, rfl, d, z, _, rfl, dk4, by decide, by lia, hz.1, fun y1 H5 s5 dk5 hy1 => ?_⟩
      refine ⟨_, rfl, _, rfl, d, z, _, rfl, dk5, by decide, by lia, hz.1, fun y2 H6 s6 dk6 hy2 => ?_⟩
      refine ⟨_, rfl, d, 3, _, rfl, by decide, dk6, by decide, fun v dd H7 s7 dk7 dv kv tv => ?_⟩
      have hZ7 := keepN s7 (keepN s6 (keepN s5 hZ4 hdZ) hdZ) hdZ
      have h7 := seven_ok
      refine ⟨_, rfl, " 7", 13, rfl, rfl, by decide, by decide, by decide +kernel, by decide +kernel, z, timesS " 7" 13, rfl, rfl, Nat.le_trans (Nat.add_le_add hz.2 h7.1) (by decide), (by show 5 ≤ sizeLine; decide), fun L hL => ?_⟩
      have hlT : TOk (z ++ timesS " 7" 13) := add_tok (by lia) (by lia) hz.1 h7.2
      have hth : ∀ x ∈ [V.str z, V.str y1, V.str y2, v, V.str (z ++ timesS " 7" 13)], ∃ dd, Thing K H7 x dd := by
        intro x hx
        (simp only [List.mem_cons, List.not_mem_nil, or_false] at hx)
        rcases hx with rfl | rfl | rfl | rfl | rfl
        · exact ⟨_, str_thing hzT⟩
        · exact ⟨_, str_thing hy1⟩
        · exact ⟨_, str_thing hy2⟩
        · exact ⟨dd, dv.same lim_same, kv.same lim_same, tg_showy (by decide) tv, fun z e => tg_str (e ▸ tv)⟩
        · exact ⟨_, str_thing hlT⟩
      have sL : Same H7 (upd H7 L (.lst [V.str z, V.str y1, V.str y2, v, V.str (z ++ timesS " 7" 13)])) := Same.new hL
      have hLL : (upd H7 L (.lst [V.str z, V.str y1, V.str y2, v, V.str (z ++ timesS " 7" 13)])) L = some (.lst [V.str z, V.str y1, V.str y2, v, V.str (z ++ timesS " 7" 13)]) := upd_same
      have dkL := dk7.same sL
      have hZL := sL _ _ hZ7
      generalize upd H7 L (.lst [V.str z, V.str y1, V.str y2, v, V.str (z ++ timesS " 7" 13)]) = H8 at sL hLL dkL hZL
      generalize [V.str z, V.str y1, V.str y2, v, V.str (z ++ timesS " 7" 13)] = xs at hth hLL
      clear hlT s5 s6 s7 dk4 dk5 dk6 hy1 hy2 dv kv tv
      refine ⟨L, rfl, ⟨_, .of hLL⟩, ?_⟩
      refine for_list (K := K) (xs := xs) (fun j σ H9 => (∃ u0 u1 u4 u5 u6 u7 u8 u9 u10 u11, σ = [u0, u1, some (.ref d), some (.str z), u4, u5, u6, u7, u8, u9, u10, u11]) ∧ Same H8 H9) ⟨⟨_, _, _, _, _, _, _, _, _, _, rfl⟩, Same.refl _⟩ (fun j σ H9 _ q => .of (q.2 _ _ hLL)) (fun j x σ H9 hx q => ?_) (fun σ H9 q => ?_)
      · obtain ⟨q0, s9⟩ := q
        apply ex_10 q0
        clear q0
        intro u0 u1 u4 u5 u6 u7 u8 u9 u10 u11
        obtain ⟨dx, th⟩ := hth x (List.mem_of_getElem? hx)
        have th9 := th.same (sL.trans s9)
        refine ⟨_, rfl, x, dx, rfl, th9.den, th9.sh, ?_⟩
        refine ⟨_, rfl, x, dx, rfl, th9, fun H10 s10 => ?_⟩
        have th10 := th9.same s10
        refine ⟨_, rfl, _, "bool", _, true, rfl, .bl _, by rfl, _, rfl, iteF ?_⟩
        refine ⟨_, rfl, _, rfl, x, dx, rfl, th10, fun H11 s11 => ⟨rfl, _, rfl, iteNS rfl ?_⟩⟩
        have th11 := th10.same s11
        refine ⟨_, rfl, x, dx, rfl, th11.den, th11.sh, _, rfl, rfl, _, rfl, iteNS rfl ?_⟩
        exact ⟨⟨_, _, _, _, _, _, _, _, _, _, rfl⟩, s9.trans (s10.trans s11)⟩
      · obtain ⟨q0, s9⟩ := q
        apply ex_10 q0
        clear q0
        intro u0 u1 u4 u5 u6 u7 u8 u9 u10 u11
        have dk9 := dkL.same s9
        have hZ9 := s9 _ _ hZL
        clear s9 dkL hZL hLL hth sL
        have hzL : LOk z := hzT.1
        have hspl := ok_split (y := " ") hz.1
        refine ⟨_, rfl, z, rfl, hzL, fun W hW => ?_⟩
        have hWd : d ≠ W := dk9.ne hW
        have hZW : Z ≠ W := ne_of_none hZ9 hW
        have sW : Same H9 (upd H9 W (.lst ((Txt.split z " ").map V.str))) := Same.new hW
        have hWW : (upd H9 W (.lst ((Txt.split z " ").map V.str))) W = some (.lst ((Txt.split z " ").map V.str)) := upd_same
        have dkW := dk9.same sW
        have hZ10 := sW _ _ hZ9
        generalize upd H9 W (.lst ((Txt.split z " ").map V.str)) = H10 at sW hWW dkW hZ10
        refine ⟨_, rfl, _, "list", _, true, rfl, .lst hWW, by rfl, _, rfl, iteF ?_⟩
        refine ⟨_, rfl, _, rfl, rfl, z, " ", rfl, rfl, (by decide +kernel), Nat.le_trans (Nat.add_le_add_right hz.2 2) (by decide), fun W2 hW2 => ?_⟩
        have sW2 : Same H10 (upd H10 W2 (.lst ((Txt.split z " ").map V.str))) := Same.new hW2
        refine ⟨_, _, den_strs (sW2 _ _ hWW) (fun x hx => (hspl x hx).1), den_strs upd_same (fun x hx => (hspl x hx).1), dep_strs _, _, rfl, ?_⟩
        rw [eqv_strs]
        refine iteF ?_
        have hW3 := sW2 _ _ hWW
        have dk3 := dkW.same sW2
        have hZ3 := sW2 _ _ hZ10
        generalize upd H10 W2 (.lst ((Txt.split z " ").map V.str)) = H11 at hW3 dk3 hZ3
        clear sW2 sW dkW hZ10 hWW
        have hlen := (L2.split_len1 (z := z) (y := " ")).2
        refine ⟨_, rfl, .inl ⟨rfl, _, .of hW3⟩, W, _, .non, rfl, rfl, hW3, small (by rw [List.length_map]; lia), ?_⟩
        have dk4 := dk3.upd hWd (o := .lst ((Txt.split z " ").map V.str ++ [V.non]))
        have hZ4' : (upd H11 W (.lst ((Txt.split z " ").map V.str ++ [V.non]))) Z = some (.lst cells) := by rw [upd_ne hZW]; exact hZ3
        generalize upd H11 W (.lst ((Txt.split z " ").map V.str ++ [V.non])) = H12 at dk4 hZ4'
        refine ⟨_, rfl, d, 30, _, rfl, dk4, by decide, by decide, by decide, fun LA ls H13 hLA s13 dk13 hLA3 hlok hll => ?_⟩
        have hZ13 := keepN s13 hZ4' hdZ
        have hls : ls.length ≤ 30 := hll
        have hlo : ∀ x ∈ ls, LOk x ∧ PyData.strOk x = true := fun x hx => by
          obtain ⟨ws, h⟩ := hlok x hx
          have := h.ok (by decide)
          exact ⟨Nat.le_trans this.2 (by decide), this.1⟩
        refine ⟨_, rfl, LA, _, rfl, .inl (.of hLA3), fun HD hHD => ?_⟩
        have s14 : Same H13 (upd H13 HD (.lst (ls.map V.str))) := Same.new hHD
        have hHD4 : (upd H13 HD (.lst (ls.map V.str))) HD = some (.lst (ls.map V.str)) := upd_same
        have hLA4 := s14 _ _ hLA3
        have hZ14 := s14 _ _ hZ13
        generalize upd H13 HD (.lst (ls.map V.str)) = H14 at s14 hHD4 hLA4 hZ14
        clear s13 dk13 hLA3 hZ13 hlok s14 hHD hLA dk4 hZ4' hZ3 dk3 hW3 hspl hzL
        refine ⟨_, rfl, LA, rfl, ⟨_, .of hLA4⟩, fun D hD => ?_⟩
        refine comp_list (K := K) (xs := ls.map V.str) (fun j acc σ H15 => (∃ u, σ = [u]) ∧ Same H14 H15 ∧ Dens K (lim (upd H14 D (.lst [])) H15) acc ((ls.take j).map plD)) upd_same ⟨⟨_, rfl⟩, Same.new hD, .nil⟩ (fun j acc σ H15 _ _ q => .of (q.2.1 _ _ hLA4)) (fun j x acc σ H15 hx hDx q => ?_) (fun acc σ H15 hDx q => ?_)
        · obtain ⟨q0, s15, dn⟩ := q
          apply ex_1 q0
          clear q0
          intro u
          obtain ⟨y, hy, rfl⟩ := strs_at hx
          have hj := ge_len hy
          have hal : acc.length = j := by rw [dn.length, List.length_map, List.length_take]; lia
          have hyo := hlo y (List.mem_of_getElem? hy)
          refine compY ⟨_, rfl, y, rfl, hyo.1, hyo.2, fun r H16 s16 dr => ⟨_, rfl, (by show 2 ≤ sizeLine; decide), fun p hp => ?_⟩⟩
          have sp : Same H16 (upd H16 p (.tup [r, .str y])) := Same.new hp
          have hD16 := s16 _ _ hDx
          have hpD : p ≠ D := (ne_of_none hD16 hp).symm
          refine ⟨acc, sp _ _ hD16, small (by lia), _, upd_same, ⟨_, rfl⟩, snap_upd hD (s15.trans (s16.trans sp)), ?_⟩
          rw [lim_upd (ys := []) upd_same, take_next hy]
          refine (dn.same (lim_mono (s16.trans sp))).append (.cons ?_ .nil)
          have hn : (upd H14 D (.lst [])) p = none := by rw [upd_ne hpD]; exact (s15.trans s16).free hp
          exact .tup (.of ((lim_new hn).trans upd_same)) (.cons ((dr.same (lim_mono sp)).same (lim_back (ll_new s15 hDx))) (.cons (.str hyo.2) .nil))
        · obtain ⟨_, s15, dn⟩ := q
          rw [List.length_map, List.take_length] at dn
          have dn15 : Dens K H15 acc (ls.map plD) := dn.same lim_same
          have hal : acc.length = ls.length := by rw [dn.length, List.length_map]
          refine ⟨D, acc, ls.map plD, rfl, .of hDx, by lia, dn15, fun e he => ?_, fun e he => ?_, fun D0 p hD0 hp ho => ?_⟩
          · obtain ⟨y, _, rfl⟩ := List.mem_map.mp he
            exact sh_pl y
          · obtain ⟨y, _, rfl⟩ := List.mem_map.mp he
            exact dep_pl y
          rw [hal] at hp
          obtain ⟨e1, e2⟩ := picked_strs (f := plD) hp
          have hlord : LOrd (p.map fun i => ls.getD i Str.empty) := by
            unfold InOrd at ho
            rw [e2, List.pairwise_map] at ho
            exact ho.imp fun h => pl_lt h
          have hperm : (p.map fun i => ls.getD i Str.empty).Perm ls := (hp.map fun i => ls.getD i Str.empty).trans (by rw [range_picked])
          have hplt : ∀ i ∈ p, i < ls.length := fun i hi => by have := hp.mem_iff.mp hi; simpa using this
          have s0 : Same H15 (upd H15 D0 (.lst (picked acc p))) := Same.new hD0
          have hDD0 : (upd H15 D0 (.lst (picked acc p))) D0 = some (.lst (picked acc p)) := upd_same
          have dn16 := dn15.same s0
          have hitem : ∀ (j : Nat) (x : V), (picked acc p)[j]? = some x → ∃ y, (p.map fun i => ls.getD i Str.empty)[j]? = some y ∧ Den K (upd H15 D0 (.lst (picked acc p))) x (plD y) := fun j x hx => by
            unfold picked at hx
            rw [List.getElem?_map] at hx
            cases hj : p[j]? with
            | none => rw [hj] at hx; cases hx
            | some i =>
              rw [hj] at hx
              have hi := hplt i (List.mem_of_getElem? hj)
              have hxi : acc[i]? = some x := by
                have : acc[i]? = some acc[i] := List.getElem?_eq_getElem (by lia)
                simp [List.getD_eq_getElem?_getD, this] at hx
                rw [this, hx]
              obtain ⟨dd, h1, h2⟩ := dn16.get hxi
              rw [List.getElem?_map, List.getElem?_eq_getElem hi] at h1
              cases h1
              refine ⟨ls[i], ?_, h2⟩
              rw [List.getElem?_map, hj]
              (simp [List.getD_eq_getElem?_getD, hi])
          have hpl : (picked acc p).length = (p.map fun i => ls.getD i Str.empty).length := by unfold picked; rw [List.length_map, List.length_map]
          have hLA15 := (s15.trans s0) _ _ hLA4
          have hHD15 := (s15.trans s0) _ _ hHD4
          have hZ15 := (s15.trans s0) _ _ hZ14
          generalize upd H15 D0 (.lst (picked acc p)) = H16 at hDD0 hitem hLA15 hHD15 hZ15
          generalize picked acc p = pk at hDD0 hitem hpl
          have hlo2 : ∀ x ∈ (p.map fun i => ls.getD i Str.empty), PyData.strOk x = true := fun x hx => (hlo x (hperm.mem_iff.mp hx)).2
          have hll2 : (p.map fun i => ls.getD i Str.empty).length ≤ 30 := by rw [hperm.length_eq]; exact hls
          generalize (p.map fun i => ls.getD i Str.empty) = l at hlord hperm hitem hpl hlo2 hll2
          clear s0 dn16 dn15 dn s15 e1 e2 ho hplt hp hD0 hLA4 hHD4 hZ14 hDx hal hD
          refine ⟨D0, rfl, ⟨_, .of hDD0⟩, fun D2 hD2 => ?_⟩
          refine comp_list (K := K) (xs := pk) (fun j acc2 σ H17 => (∃ u v, σ = [u, v]) ∧ Same H16 H17 ∧ acc2 = (l.take j).map V.str) upd_same ⟨⟨_, _, rfl⟩, Same.new hD2, rfl⟩ (fun j acc2 σ H17 _ _ q => .of (q.2.1 _ _ hDD0)) (fun j x acc2 σ H17 hx hDx q => ?_) (fun acc2 σ H17 hDx q => ?_)
          · obtain ⟨q0, s17, rfl⟩ := q
            apply ex_2 q0
            clear q0
            intro u v
            obtain ⟨y, hy, hden⟩ := hitem j x hx
            obtain ⟨t, r, rfl, hsq⟩ := den_pl (hden.same s17)
            have hj := ge_len hy
            refine compT2 hsq ⟨_, rfl, _, hDx, small (by rw [List.length_map, List.length_take]; lia), _, upd_same, ⟨_, _, rfl⟩, snap_upd hD2 s17, ?_⟩
            rw [take_next hy]
          · obtain ⟨_, s17, rfl⟩ := q
            rw [hpl, List.take_length] at hDx
            have hLA17 := s17 _ _ hLA15
            have hHD17 := s17 _ _ hHD15
            have hZ17 := s17 _ _ hZ15
            refine ⟨2, rfl, by decide, by decide, ?_⟩
            refine for_range (n := 2) (fun j σ H18 => (∃ u0 u1 u2 u3 u4 u5 u6 u10 u11, σ = [u0, u1, u2, u3, u4, u5, u6, some (.ref LA), some (.ref HD), some (.ref D2), u10, u11]) ∧ Same H17 H18) ⟨⟨_, _, _, _, _, _, _, _, _, rfl⟩, Same.refl _⟩ (fun j σ H18 hj q => ?_) (fun σ H18 q => ?_)
            · obtain ⟨q0, s18⟩ := q
              apply ex_9 q0
              clear q0
              intro u0 u1 u2 u3 u4 u5 u6 u10 u11
              refine ⟨_, rfl, HD, ls, rfl, .of (s18 _ _ hHD17), by lia, hlo, fun D3 l3 H19 hD3 s19 hp3 ho3 hD33 => ?_⟩
              obtain rfl : l3 = l := lord_unique (hp3.trans hperm.symm) ho3 hlord
              refine ⟨_, rfl, _, "list", _, true, rfl, .lst hD33, by rfl, _, rfl, iteF ?_⟩
              refine ⟨_, rfl, _, rfl, _, _, den_strs hD33 hlo2, den_strs (s19 _ _ (s18 _ _ hDx)) hlo2, dep_strs _, _, rfl, ?_⟩
              rw [eqv_strs]
              refine iteF ?_
              refine ⟨_, rfl, _, rfl, _, _, den_strs (s19 _ _ (s18 _ _ hHD17)) (fun x hx => (hlo x hx).2), den_strs (s19 _ _ (s18 _ _ hLA17)) (fun x hx => (hlo x hx).2), dep_strs _, _, rfl, ?_⟩
              rw [eqv_strs]
              refine iteF ?_
              refine ⟨_, rfl, .inl ⟨rfl, _, .of hD33⟩, D3, _, .non, rfl, rfl, hD33, small (by rw [List.length_map]; lia), ?_⟩
              exact ⟨⟨_, _, _, _, _, _, _, _, _, rfl⟩, snap_upd (s18.free hD3) (s18.trans s19)⟩
            · obtain ⟨q0, s18⟩ := q
              apply ex_9 q0
              clear q0
              intro u0 u1 u2 u3 u4 u5 u6 u10 u11
              exact ⟨⟨_, _, _, _, _, _, _, _, _, _, _, _, rfl⟩, s18 _ _ hZ17⟩
    · exact k _
end
end K01
namespace K01
open PySem L2 LG
theorem on1 {C : List Value → Prop} (h : ∀ a0, C [a0]) : ∀ us : List Value, us.length = 1 → C us
  | [a0], _ => h a0
theorem on2 {C : List Value → Prop} (h : ∀ a0 a1, C [a0, a1]) : ∀ us : List Value, us.length = 2 → C us
  | [a0, a1], _ => h a0 a1
set_option maxHeartbeats 8000000 in
theorem all_mk {l : PySem.W.OpenLaw} {w : World} {K : PySem.W.Frag} {h : Heap} {mg : Str → Option Value} {fa f_has_only f_is_word f_kind_of f_words_of f_is_line f_word_key f_line_key f_in_order f__law_deck f__law_pick f__law_kind f__law_word f__law_line f__law_lines f__law_thing f__law_is_line f__law_bent f__law_words_right f__law_line_place f_law : Addr} (X : K.In h) (G : h.Ns mainGlobals mg) (hfa : mg "law" = some (.ref fa))
    {od_has_only an_has_only : Option Addr} {sl_has_only : Array (Option Value)} {oc_has_only kV_has_only dc_has_only pm_has_only cd_has_only ct_has_only : Value}
    (a_has_only : PySem.W.nsIn K mainGlobals "has_only" = some (some (.ref f_has_only))) (l_has_only : K.lookup f_has_only = some ⟨oc_has_only, od_has_only, .func (PySem.W.fnOf "has_only" "has_only" (defArgs (top 5)) (defBody (top 5)) (defScope (top 5)) .none kV_has_only dc_has_only pm_has_only an_has_only cd_has_only ct_has_only), sl_has_only⟩) (c_has_only : PySem.W.codeIn K cd_has_only "has_only" = true) (k_has_only : PySem.W.keepIn K (.ref f_has_only) = true)
    {od_is_word an_is_word : Option Addr} {sl_is_word : Array (Option Value)} {oc_is_word kV_is_word dc_is_word pm_is_word cd_is_word ct_is_word : Value}
    (a_is_word : PySem.W.nsIn K mainGlobals "is_word" = some (some (.ref f_is_word))) (l_is_word : K.lookup f_is_word = some ⟨oc_is_word, od_is_word, .func (PySem.W.fnOf "is_word" "is_word" (defArgs (top 6)) (defBody (top 6)) (defScope (top 6)) .none kV_is_word dc_is_word pm_is_word an_is_word cd_is_word ct_is_word), sl_is_word⟩) (c_is_word : PySem.W.codeIn K cd_is_word "is_word" = true) (k_is_word : PySem.W.keepIn K (.ref f_is_word) = true)
    {od_kind_of an_kind_of : Option Addr} {sl_kind_of : Array (Option Value)} {oc_kind_of kV_kind_of dc_kind_of pm_kind_of cd_kind_of ct_kind_of : Value}
    (a_kind_of : PySem.W.nsIn K mainGlobals "kind_of" = some (some (.ref f_kind_of))) (l_kind_of : K.lookup f_kind_of = some ⟨oc_kind_of, od_kind_of, .func (PySem.W.fnOf "kind_of" "kind_of" (defArgs (top 7)) (defBody (top 7)) (defScope (top 7)) .none kV_kind_of dc_kind_of pm_kind_of an_kind_of cd_kind_of ct_kind_of), sl_kind_of⟩) (c_kind_of : PySem.W.codeIn K cd_kind_of "kind_of" = true) (k_kind_of : PySem.W.keepIn K (.ref f_kind_of) = true)
    {od_words_of an_words_of : Option Addr} {sl_words_of : Array (Option Value)} {oc_words_of kV_words_of dc_words_of pm_words_of cd_words_of ct_words_of : Value}
    (a_words_of : PySem.W.nsIn K mainGlobals "words_of" = some (some (.ref f_words_of))) (l_words_of : K.lookup f_words_of = some ⟨oc_words_of, od_words_of, .func (PySem.W.fnOf "words_of" "words_of" (defArgs (top 8)) (defBody (top 8)) (defScope (top 8)) .none kV_words_of dc_words_of pm_words_of an_words_of cd_words_of ct_words_of), sl_words_of⟩) (c_words_of : PySem.W.codeIn K cd_words_of "words_of" = true) (k_words_of : PySem.W.keepIn K (.ref f_words_of) = true)
    {od_is_line an_is_line : Option Addr} {sl_is_line : Array (Option Value)} {oc_is_line kV_is_line dc_is_line pm_is_line cd_is_line ct_is_line : Value}
    (a_is_line : PySem.W.nsIn K mainGlobals "is_line" = some (some (.ref f_is_line))) (l_is_line : K.lookup f_is_line = some ⟨oc_is_line, od_is_line, .func (PySem.W.fnOf "is_line" "is_line" (defArgs (top 9)) (defBody (top 9)) (defScope (top 9)) .none kV_is_line dc_is_line pm_is_line an_is_line cd_is_line ct_is_line), sl_is_line⟩) (c_is_line : PySem.W.codeIn K cd_is_line "is_line" = true) (k_is_line : PySem.W.keepIn K (.ref f_is_line) = true)
    {od_word_key an_word_key : Option Addr} {sl_word_key : Array (Option Value)} {oc_word_key kV_word_key dc_word_key pm_word_key cd_word_key ct_word_key : Value}
    (a_word_key : PySem.W.nsIn K mainGlobals "word_key" = some (some (.ref f_word_key))) (l_word_key : K.lookup f_word_key = some ⟨oc_word_key, od_word_key, .func (PySem.W.fnOf "word_key" "word_key" (defArgs (top 10)) (defBody (top 10)) (defScope (top 10)) .none kV_word_key dc_word_key pm_word_key an_word_key cd_word_key ct_word_key), sl_word_key⟩) (c_word_key : PySem.W.codeIn K cd_word_key "word_key" = true) (k_word_key : PySem.W.keepIn K (.ref f_word_key) = true)
    {od_line_key an_line_key : Option Addr} {sl_line_key : Array (Option Value)} {oc_line_key kV_line_key dc_line_key pm_line_key cd_line_key ct_line_key : Value}
    (a_line_key : PySem.W.nsIn K mainGlobals "line_key" = some (some (.ref f_line_key))) (l_line_key : K.lookup f_line_key = some ⟨oc_line_key, od_line_key, .func (PySem.W.fnOf "line_key" "line_key" (defArgs (top 11)) (defBody (top 11)) (defScope (top 11)) .none kV_line_key dc_line_key pm_line_key an_line_key cd_line_key ct_line_key), sl_line_key⟩) (c_line_key : PySem.W.codeIn K cd_line_key "line_key" = true) (k_line_key : PySem.W.keepIn K (.ref f_line_key) = true)
    {od_in_order an_in_order : Option Addr} {sl_in_order : Array (Option Value)} {oc_in_order kV_in_order dc_in_order pm_in_order cd_in_order ct_in_order : Value}
    (a_in_order : PySem.W.nsIn K mainGlobals "in_order" = some (some (.ref f_in_order))) (l_in_order : K.lookup f_in_order = some ⟨oc_in_order, od_in_order, .func (PySem.W.fnOf "in_order" "in_order" (defArgs (top 12)) (defBody (top 12)) (defScope (top 12)) .none kV_in_order dc_in_order pm_in_order an_in_order cd_in_order ct_in_order), sl_in_order⟩) (c_in_order : PySem.W.codeIn K cd_in_order "in_order" = true) (k_in_order : PySem.W.keepIn K (.ref f_in_order) = true)
    {od__law_deck an__law_deck : Option Addr} {sl__law_deck : Array (Option Value)} {oc__law_deck kV__law_deck dc__law_deck pm__law_deck cd__law_deck ct__law_deck : Value}
    (a__law_deck : PySem.W.nsIn K mainGlobals "_law_deck" = some (some (.ref f__law_deck))) (l__law_deck : K.lookup f__law_deck = some ⟨oc__law_deck, od__law_deck, .func (PySem.W.fnOf "_law_deck" "_law_deck" (defArgs (top 14)) (defBody (top 14)) (defScope (top 14)) .none kV__law_deck dc__law_deck pm__law_deck an__law_deck cd__law_deck ct__law_deck), sl__law_deck⟩) (c__law_deck : PySem.W.codeIn K cd__law_deck "_law_deck" = true) (k__law_deck : PySem.W.keepIn K (.ref f__law_deck) = true)
    {od__law_pick an__law_pick : Option Addr} {sl__law_pick : Array (Option Value)} {oc__law_pick kV__law_pick dc__law_pick pm__law_pick cd__law_pick ct__law_pick : Value}
    (a__law_pick : PySem.W.nsIn K mainGlobals "_law_pick" = some (some (.ref f__law_pick))) (l__law_pick : K.lookup f__law_pick = some ⟨oc__law_pick, od__law_pick, .func (PySem.W.fnOf "_law_pick" "_law_pick" (defArgs (top 15)) (defBody (top 15)) (defScope (top 15)) .none kV__law_pick dc__law_pick pm__law_pick an__law_pick cd__law_pick ct__law_pick), sl__law_pick⟩) (c__law_pick : PySem.W.codeIn K cd__law_pick "_law_pick" = true) (k__law_pick : PySem.W.keepIn K (.ref f__law_pick) = true)
    {od__law_kind an__law_kind : Option Addr} {sl__law_kind : Array (Option Value)} {oc__law_kind kV__law_kind dc__law_kind pm__law_kind cd__law_kind ct__law_kind : Value}
    (a__law_kind : PySem.W.nsIn K mainGlobals "_law_kind" = some (some (.ref f__law_kind))) (l__law_kind : K.lookup f__law_kind = some ⟨oc__law_kind, od__law_kind, .func (PySem.W.fnOf "_law_kind" "_law_kind" (defArgs (top 16)) (defBody (top 16)) (defScope (top 16)) .none kV__law_kind dc__law_kind pm__law_kind an__law_kind cd__law_kind ct__law_kind), sl__law_kind⟩) (c__law_kind : PySem.W.codeIn K cd__law_kind "_law_kind" = true) (k__law_kind : PySem.W.keepIn K (.ref f__law_kind) = true)
    {od__law_word an__law_word : Option Addr} {sl__law_word : Array (Option Value)} {oc__law_word kV__law_word dc__law_word pm__law_word cd__law_word ct__law_word : Value}
    (a__law_word : PySem.W.nsIn K mainGlobals "_law_word" = some (some (.ref f__law_word))) (l__law_word : K.lookup f__law_word = some ⟨oc__law_word, od__law_word, .func (PySem.W.fnOf "_law_word" "_law_word" (defArgs (top 17)) (defBody (top 17)) (defScope (top 17)) .none kV__law_word dc__law_word pm__law_word an__law_word cd__law_word ct__law_word), sl__law_word⟩) (c__law_word : PySem.W.codeIn K cd__law_word "_law_word" = true) (k__law_word : PySem.W.keepIn K (.ref f__law_word) = true)
    {od__law_line an__law_line : Option Addr} {sl__law_line : Array (Option Value)} {oc__law_line kV__law_line dc__law_line pm__law_line cd__law_line ct__law_line : Value}
    (a__law_line : PySem.W.nsIn K mainGlobals "_law_line" = some (some (.ref f__law_line))) (l__law_line : K.lookup f__law_line = some ⟨oc__law_line, od__law_line, .func (PySem.W.fnOf "_law_line" "_law_line" (defArgs (top 18)) (defBody (top 18)) (defScope (top 18)) .none kV__law_line dc__law_line pm__law_line an__law_line cd__law_line ct__law_line), sl__law_line⟩) (c__law_line : PySem.W.codeIn K cd__law_line "_law_line" = true) (k__law_line : PySem.W.keepIn K (.ref f__law_line) = true)
    {od__law_lines an__law_lines : Option Addr} {sl__law_lines : Array (Option Value)} {oc__law_lines kV__law_lines dc__law_lines pm__law_lines cd__law_lines ct__law_lines : Value}
    (a__law_lines : PySem.W.nsIn K mainGlobals "_law_lines" = some (some (.ref f__law_lines))) (l__law_lines : K.lookup f__law_lines = some ⟨oc__law_lines, od__law_lines, .func (PySem.W.fnOf "_law_lines" "_law_lines" (defArgs (top 19)) (defBody (top 19)) (defScope (top 19)) .none kV__law_lines dc__law_lines pm__law_lines an__law_lines cd__law_lines ct__law_lines), sl__law_lines⟩) (c__law_lines : PySem.W.codeIn K cd__law_lines "_law_lines" = true) (k__law_lines : PySem.W.keepIn K (.ref f__law_lines) = true)
    {od__law_thing an__law_thing : Option Addr} {sl__law_thing : Array (Option Value)} {oc__law_thing kV__law_thing dc__law_thing pm__law_thing cd__law_thing ct__law_thing : Value}
    (a__law_thing : PySem.W.nsIn K mainGlobals "_law_thing" = some (some (.ref f__law_thing))) (l__law_thing : K.lookup f__law_thing = some ⟨oc__law_thing, od__law_thing, .func (PySem.W.fnOf "_law_thing" "_law_thing" (defArgs (top 20)) (defBody (top 20)) (defScope (top 20)) .none kV__law_thing dc__law_thing pm__law_thing an__law_thing cd__law_thing ct__law_thing), sl__law_thing⟩) (c__law_thing : PySem.W.codeIn K cd__law_thing "_law_thing" = true) (k__law_thing : PySem.W.keepIn K (.ref f__law_thing) = true)
    {od__law_is_line an__law_is_line : Option Addr} {sl__law_is_line : Array (Option Value)} {oc__law_is_line kV__law_is_line dc__law_is_line pm__law_is_line cd__law_is_line ct__law_is_line : Value}
    (a__law_is_line : PySem.W.nsIn K mainGlobals "_law_is_line" = some (some (.ref f__law_is_line))) (l__law_is_line : K.lookup f__law_is_line = some ⟨oc__law_is_line, od__law_is_line, .func (PySem.W.fnOf "_law_is_line" "_law_is_line" (defArgs (top 21)) (defBody (top 21)) (defScope (top 21)) .none kV__law_is_line dc__law_is_line pm__law_is_line an__law_is_line cd__law_is_line ct__law_is_line), sl__law_is_line⟩) (c__law_is_line : PySem.W.codeIn K cd__law_is_line "_law_is_line" = true) (k__law_is_line : PySem.W.keepIn K (.ref f__law_is_line) = true)
    {od__law_bent an__law_bent : Option Addr} {sl__law_bent : Array (Option Value)} {oc__law_bent kV__law_bent dc__law_bent pm__law_bent cd__law_bent ct__law_bent : Value}
    (a__law_bent : PySem.W.nsIn K mainGlobals "_law_bent" = some (some (.ref f__law_bent))) (l__law_bent : K.lookup f__law_bent = some ⟨oc__law_bent, od__law_bent, .func (PySem.W.fnOf "_law_bent" "_law_bent" (defArgs (top 22)) (defBody (top 22)) (defScope (top 22)) .none kV__law_bent dc__law_bent pm__law_bent an__law_bent cd__law_bent ct__law_bent), sl__law_bent⟩) (c__law_bent : PySem.W.codeIn K cd__law_bent "_law_bent" = true) (k__law_bent : PySem.W.keepIn K (.ref f__law_bent) = true)
    {od__law_words_right an__law_words_right : Option Addr} {sl__law_words_right : Array (Option Value)} {oc__law_words_right kV__law_words_right dc__law_words_right pm__law_words_right cd__law_words_right ct__law_words_right : Value}
    (a__law_words_right : PySem.W.nsIn K mainGlobals "_law_words_right" = some (some (.ref f__law_words_right))) (l__law_words_right : K.lookup f__law_words_right = some ⟨oc__law_words_right, od__law_words_right, .func (PySem.W.fnOf "_law_words_right" "_law_words_right" (defArgs (top 23)) (defBody (top 23)) (defScope (top 23)) .none kV__law_words_right dc__law_words_right pm__law_words_right an__law_words_right cd__law_words_right ct__law_words_right), sl__law_words_right⟩) (c__law_words_right : PySem.W.codeIn K cd__law_words_right "_law_words_right" = true) (k__law_words_right : PySem.W.keepIn K (.ref f__law_words_right) = true)
    {od__law_line_place an__law_line_place : Option Addr} {sl__law_line_place : Array (Option Value)} {oc__law_line_place kV__law_line_place dc__law_line_place pm__law_line_place cd__law_line_place ct__law_line_place : Value}
    (a__law_line_place : PySem.W.nsIn K mainGlobals "_law_line_place" = some (some (.ref f__law_line_place))) (l__law_line_place : K.lookup f__law_line_place = some ⟨oc__law_line_place, od__law_line_place, .func (PySem.W.fnOf "_law_line_place" "_law_line_place" (defArgs (top 24)) (defBody (top 24)) (defScope (top 24)) .none kV__law_line_place dc__law_line_place pm__law_line_place an__law_line_place cd__law_line_place ct__law_line_place), sl__law_line_place⟩) (c__law_line_place : PySem.W.codeIn K cd__law_line_place "_law_line_place" = true) (k__law_line_place : PySem.W.keepIn K (.ref f__law_line_place) = true)
    {od_law an_law : Option Addr} {sl_law : Array (Option Value)} {oc_law kV_law dc_law pm_law cd_law ct_law : Value}
    (a_law : PySem.W.nsIn K mainGlobals "law" = some (some (.ref f_law))) (l_law : K.lookup f_law = some ⟨oc_law, od_law, .func (PySem.W.fnOf "law" "law" (defArgs (top 25)) (defBody (top 25)) (defScope (top 25)) .none kV_law dc_law pm_law an_law cd_law ct_law), sl_law⟩) (c_law : PySem.W.codeIn K cd_law "law" = true) (k_law : PySem.W.keepIn K (.ref f_law) = true)
    {t_MOST_WORDS : Tok} (g_MOST_WORDS : PySem.W.nsIn K mainGlobals "MOST_WORDS" = some (some (.int 12 t_MOST_WORDS)))
    {t_FIGURES : Tok} (g_FIGURES : PySem.W.nsIn K mainGlobals "FIGURES" = some (some (.str "0123456789" t_FIGURES)))
    {t_SMALL_LETTERS : Tok} (g_SMALL_LETTERS : PySem.W.nsIn K mainGlobals "SMALL_LETTERS" = some (some (.str "abcdefghijklmnopqrstuvwxyz" t_SMALL_LETTERS)))
    {t_WORD_SIGNS : Tok} (g_WORD_SIGNS : PySem.W.nsIn K mainGlobals "WORD_SIGNS" = some (some (.str "!\"#$&'()*+,-./0123456789:;<=>?@ABCDEFGHIJKLMNOPQRSTUVWXYZ[\\]^_`abcdefghijklmnopqrstuvwxyz{|}~" t_WORD_SIGNS)))
    (z_all : PySem.W.nsIn K mainGlobals "all" = some none)
    (z_bool : PySem.W.nsIn K mainGlobals "bool" = some none)
    (z_int : PySem.W.nsIn K mainGlobals "int" = some none)
    (z_isinstance : PySem.W.nsIn K mainGlobals "isinstance" = some none)
    (z_len : PySem.W.nsIn K mainGlobals "len" = some none)
    (z_list : PySem.W.nsIn K mainGlobals "list" = some none)
    (z_range : PySem.W.nsIn K mainGlobals "range" = some none)
    (z_sorted : PySem.W.nsIn K mainGlobals "sorted" = some none)
    (z_str : PySem.W.nsIn K mainGlobals "str" = some none)
    (z_tuple : PySem.W.nsIn K mainGlobals "tuple" = some none)
    : ∃ fd : FuncData, (∀ (s : Shared) (v : Value), BindsTo s fd ⟨[v], []⟩ [("script", v)]) ∧ ∀ base : Heap, K.In base → base.Ns mainGlobals mg → FnOk l.prog w K mg base CX0 7 fa fd ["script"] (sp_law K) := by
  have e := hfa.symm.trans (PySem.W.mg_of X G a_law)
  cases e
  have F_has_only := fun_mk (st := top 5) l_has_only c_has_only k_has_only
  have b_has_only := F_has_only.binds (ps := ["text", "signs"]) fun _ _ _ _ _ _ => on2 fun _ _ => rfl
  have F_is_word := fun_mk (st := top 6) l_is_word c_is_word k_is_word
  have b_is_word := F_is_word.binds (ps := ["thing"]) fun _ _ _ _ _ _ => on1 fun _ => rfl
  have F_kind_of := fun_mk (st := top 7) l_kind_of c_kind_of k_kind_of
  have b_kind_of := F_kind_of.binds (ps := ["word"]) fun _ _ _ _ _ _ => on1 fun _ => rfl
  have F_words_of := fun_mk (st := top 8) l_words_of c_words_of k_words_of
  have b_words_of := F_words_of.binds (ps := ["line"]) fun _ _ _ _ _ _ => on1 fun _ => rfl
  have F_is_line := fun_mk (st := top 9) l_is_line c_is_line k_is_line
  have b_is_line := F_is_line.binds (ps := ["thing"]) fun _ _ _ _ _ _ => on1 fun _ => rfl
  have F_word_key := fun_mk (st := top 10) l_word_key c_word_key k_word_key
  have b_word_key := F_word_key.binds (ps := ["word"]) fun _ _ _ _ _ _ => on1 fun _ => rfl
  have F_line_key := fun_mk (st := top 11) l_line_key c_line_key k_line_key
  have b_line_key := F_line_key.binds (ps := ["line"]) fun _ _ _ _ _ _ => on1 fun _ => rfl
  have F_in_order := fun_mk (st := top 12) l_in_order c_in_order k_in_order
  have b_in_order := F_in_order.binds (ps := ["lines"]) fun _ _ _ _ _ _ => on1 fun _ => rfl
  have F__law_deck := fun_mk (st := top 14) l__law_deck c__law_deck k__law_deck
  have b__law_deck := F__law_deck.binds (ps := ["cell", "turn"]) fun _ _ _ _ _ _ => on2 fun _ _ => rfl
  have F__law_pick := fun_mk (st := top 15) l__law_pick c__law_pick k__law_pick
  have b__law_pick := F__law_pick.binds (ps := ["deck", "many"]) fun _ _ _ _ _ _ => on2 fun _ _ => rfl
  have F__law_kind := fun_mk (st := top 16) l__law_kind c__law_kind k__law_kind
  have b__law_kind := F__law_kind.binds (ps := ["word"]) fun _ _ _ _ _ _ => on1 fun _ => rfl
  have F__law_word := fun_mk (st := top 17) l__law_word c__law_word k__law_word
  have b__law_word := F__law_word.binds (ps := ["deck"]) fun _ _ _ _ _ _ => on1 fun _ => rfl
  have F__law_line := fun_mk (st := top 18) l__law_line c__law_line k__law_line
  have b__law_line := F__law_line.binds (ps := ["deck", "most"]) fun _ _ _ _ _ _ => on2 fun _ _ => rfl
  have F__law_lines := fun_mk (st := top 19) l__law_lines c__law_lines k__law_lines
  have b__law_lines := F__law_lines.binds (ps := ["deck", "most"]) fun _ _ _ _ _ _ => on2 fun _ _ => rfl
  have F__law_thing := fun_mk (st := top 20) l__law_thing c__law_thing k__law_thing
  have b__law_thing := F__law_thing.binds (ps := ["deck", "deep"]) fun _ _ _ _ _ _ => on2 fun _ _ => rfl
  have F__law_is_line := fun_mk (st := top 21) l__law_is_line c__law_is_line k__law_is_line
  have b__law_is_line := F__law_is_line.binds (ps := ["thing"]) fun _ _ _ _ _ _ => on1 fun _ => rfl
  have F__law_bent := fun_mk (st := top 22) l__law_bent c__law_bent k__law_bent
  have b__law_bent := F__law_bent.binds (ps := ["deck", "line"]) fun _ _ _ _ _ _ => on2 fun _ _ => rfl
  have F__law_words_right := fun_mk (st := top 23) l__law_words_right c__law_words_right k__law_words_right
  have b__law_words_right := F__law_words_right.binds (ps := ["deck", "word"]) fun _ _ _ _ _ _ => on2 fun _ _ => rfl
  have F__law_line_place := fun_mk (st := top 24) l__law_line_place c__law_line_place k__law_line_place
  have b__law_line_place := F__law_line_place.binds (ps := ["line"]) fun _ _ _ _ _ _ => on1 fun _ => rfl
  have F_law := fun_mk (st := top 25) l_law c_law k_law
  have T : Tx K mg ⟨f_has_only, _, f_is_word, _, f_kind_of, _, f_words_of, _, f_is_line, _, f_word_key, _, f_line_key, _, f_in_order, _, f__law_deck, _, f__law_pick, _, f__law_kind, _, f__law_word, _, f__law_line, _, f__law_lines, _, f__law_thing, _, f__law_is_line, _, f__law_bent, _, f__law_words_right, _, f__law_line_place, _, fa, (PySem.W.fnOf "law" "law" (defArgs (top 25)) (defBody (top 25)) (defScope (top 25)) .none kV_law dc_law pm_law an_law cd_law ct_law)⟩ := ⟨PySem.W.mg_none_of X G z_all, PySem.W.mg_none_of X G z_bool, PySem.W.mg_none_of X G z_int, PySem.W.mg_none_of X G z_isinstance, PySem.W.mg_none_of X G z_len, PySem.W.mg_none_of X G z_list, PySem.W.mg_none_of X G z_range, PySem.W.mg_none_of X G z_sorted, PySem.W.mg_none_of X G z_str, PySem.W.mg_none_of X G z_tuple, ⟨_, PySem.W.mg_of X G g_MOST_WORDS⟩, (by rw [FIGS_is]; exact ⟨_, PySem.W.mg_of X G g_FIGURES⟩), (by rw [LOWS_is]; exact ⟨_, PySem.W.mg_of X G g_SMALL_LETTERS⟩), (by rw [SIGNS_is]; exact ⟨_, PySem.W.mg_of X G g_WORD_SIGNS⟩), ⟨F_has_only, b_has_only, PySem.W.mg_of X G a_has_only⟩, ⟨F_is_word, b_is_word, PySem.W.mg_of X G a_is_word⟩, ⟨F_kind_of, b_kind_of, PySem.W.mg_of X G a_kind_of⟩, ⟨F_words_of, b_words_of, PySem.W.mg_of X G a_words_of⟩, ⟨F_is_line, b_is_line, PySem.W.mg_of X G a_is_line⟩, ⟨F_word_key, b_word_key, PySem.W.mg_of X G a_word_key⟩, ⟨F_line_key, b_line_key, PySem.W.mg_of X G a_line_key⟩, ⟨F_in_order, b_in_order, PySem.W.mg_of X G a_in_order⟩, ⟨F__law_deck, b__law_deck, PySem.W.mg_of X G a__law_deck⟩, ⟨F__law_pick, b__law_pick, PySem.W.mg_of X G a__law_pick⟩, ⟨F__law_kind, b__law_kind, PySem.W.mg_of X G a__law_kind⟩, ⟨F__law_word, b__law_word, PySem.W.mg_of X G a__law_word⟩, ⟨F__law_line, b__law_line, PySem.W.mg_of X G a__law_line⟩, ⟨F__law_lines, b__law_lines, PySem.W.mg_of X G a__law_lines⟩, ⟨F__law_thing, b__law_thing, PySem.W.mg_of X G a__law_thing⟩, ⟨F__law_is_line, b__law_is_line, PySem.W.mg_of X G a__law_is_line⟩, ⟨F__law_bent, b__law_bent, PySem.W.mg_of X G a__law_bent⟩, ⟨F__law_words_right, b__law_words_right, PySem.W.mg_of X G a__law_words_right⟩, ⟨F__law_line_place, b__law_line_place, PySem.W.mg_of X G a__law_line_place⟩⟩
  exact ⟨PySem.W.fnOf "law" "law" (defArgs (top 25)) (defBody (top 25)) (defScope (top 25)) .none kV_law dc_law pm_law an_law cd_law ct_law, fun s v => .of_eq rfl, fun base _ _ => ok_law (A := ⟨f_has_only, _, f_is_word, _, f_kind_of, _, f_words_of, _, f_is_line, _, f_word_key, _, f_line_key, _, f_in_order, _, f__law_deck, _, f__law_pick, _, f__law_kind, _, f__law_word, _, f__law_line, _, f__law_lines, _, f__law_thing, _, f__law_is_line, _, f__law_bent, _, f__law_words_right, _, f__law_line_place, _, fa, (PySem.W.fnOf "law" "law" (defArgs (top 25)) (defBody (top 25)) (defScope (top 25)) .none kV_law dc_law pm_law an_law cd_law ct_law)⟩) F_law T⟩
theorem walk {l : PySem.W.OpenLaw} {q : Program} {loose : List Str} {XP : (Str → Option Value) → Heap → Prop} {YP : World → Heap → Prop} {d : DefRec} {K : Params → PySem.W.Frag} (hn : l.most = some 63) (hdf : d.params.defaults = [])
    (hY : ∀ (w : World) (h : Heap), YP w h → (K w.params).In h)
    (F : ∀ (w : World) (mg : Str → Option Value) (fa : Addr) (h : Heap), (K w.params).In h → h.Ns mainGlobals mg → mg d.name = some (.ref fa) →
      ∃ fd : FuncData, (∀ (s : Shared) (u : Value), BindsTo s fd ⟨[u], []⟩ [("script", u)]) ∧ ∀ base : Heap, (K w.params).In base → base.Ns mainGlobals mg → FnOk l.prog w (K w.params) mg base CX0 7 fa fd ["script"] (sp_law (K w.params))) :
    PySem.W.WalkO q loose XP YP l.row.toRowW d [] (fun f vs => PySem.call f vs) :=
  L2.walk_of (n := 63) (k := 7) (x := "script") (CX := fun _ => CX0) (sp := fun w => sp_law (K w.params)) hn (by decide) hdf ⟨rfl, by decide, by decide, rfl⟩ hY F (fun _ _ a ns hl _ hS => ⟨a, ns, rfl, hS, hl, fun _ => rfl⟩) fun _ _ _ _ _ z => z
end K01
open PySem PySem.W PyProof.Rows
set_option maxRecDepth 100000 in
set_option maxHeartbeats 0 in
theorem PySem.Challenge.cw_loggather_k01_words_and_lines_holds : PySem.Challenge.rw_loggather_k01_words_and_lines.Holds := by
  w_on; o_law; k_head; (case hw => w_witness2)
  k_fill
  refine K01.walk (l := PySem.Challenge.rw_loggather_k01_words_and_lines) rfl rfl (fun w h Y => PySem.W.kIn_of Y) ?F
  case F =>
    intro w mg fa h KX G hmg
    refine' K01.all_mk KX G hmg ?a_has_only ?l_has_only ?c_has_only ?k_has_only ?a_is_word ?l_is_word ?c_is_word ?k_is_word ?a_kind_of ?l_kind_of ?c_kind_of ?k_kind_of ?a_words_of ?l_words_of ?c_words_of ?k_words_of ?a_is_line ?l_is_line ?c_is_line ?k_is_line ?a_word_key ?l_word_key ?c_word_key ?k_word_key ?a_line_key ?l_line_key ?c_line_key ?k_line_key ?a_in_order ?l_in_order ?c_in_order ?k_in_order ?a__law_deck ?l__law_deck ?c__law_deck ?k__law_deck ?a__law_pick ?l__law_pick ?c__law_pick ?k__law_pick ?a__law_kind ?l__law_kind ?c__law_kind ?k__law_kind ?a__law_word ?l__law_word ?c__law_word ?k__law_word ?a__law_line ?l__law_line ?c__law_line ?k__law_line ?a__law_lines ?l__law_lines ?c__law_lines ?k__law_lines ?a__law_thing ?l__law_thing ?c__law_thing ?k__law_thing ?a__law_is_line ?l__law_is_line ?c__law_is_line ?k__law_is_line ?a__law_bent ?l__law_bent ?c__law_bent ?k__law_bent ?a__law_words_right ?l__law_words_right ?c__law_words_right ?k__law_words_right ?a__law_line_place ?l__law_line_place ?c__law_line_place ?k__law_line_place ?a_law ?l_law ?c_law ?k_law ?g_MOST_WORDS ?g_FIGURES ?g_SMALL_LETTERS ?g_WORD_SIGNS ?z_all ?z_bool ?z_int ?z_isinstance ?z_len ?z_list ?z_range ?z_sorted ?z_str ?z_tuple
    (case a_has_only => k_is)
    (case l_has_only => k_is)
    (case c_has_only => k_is)
    (case k_has_only => k_is)
    (case a_is_word => k_is)
    (case l_is_word => k_is)
    (case c_is_word => k_is)
    (case k_is_word => k_is)
    (case a_kind_of => k_is)
    (case l_kind_of => k_is)
    (case c_kind_of => k_is)
    (case k_kind_of => k_is)
    (case a_words_of => k_is)
    (case l_words_of => k_is)
    (case c_words_of => k_is)
    (case k_words_of => k_is)
    (case a_is_line => k_is)
    (case l_is_line => k_is)
    (case c_is_line => k_is)
    (case k_is_line => k_is)
    (case a_word_key => k_is)
    (case l_word_key => k_is)
    (case c_word_key => k_is)
    (case k_word_key => k_is)
    (case a_line_key => k_is)
    (case l_line_key => k_is)
    (case c_line_key => k_is)
    (case k_line_key => k_is)
    (case a_in_order => k_is)
    (case l_in_order => k_is)
    (case c_in_order => k_is)
    (case k_in_order => k_is)
    (case a__law_deck => k_is)
    (case l__law_deck => k_is)
    (case c__law_deck => k_is)
    (case k__law_deck => k_is)
    (case a__law_pick => k_is)
    (case l__law_pick => k_is)
    (case c__law_pick => k_is)
    (case k__law_pick => k_is)
    (case a__law_kind => k_is)
    (case l__law_kind => k_is)
    (case c__law_kind => k_is)
    (case k__law_kind => k_is)
    (case a__law_word => k_is)
    (case l__law_word => k_is)
    (case c__law_word => k_is)
    (case k__law_word => k_is)
    (case a__law_line => k_is)
    (case l__law_line => k_is)
    (case c__law_line => k_is)
    (case k__law_line => k_is)
    (case a__law_lines => k_is)
    (case l__law_lines => k_is)
    (case c__law_lines => k_is)
    (case k__law_lines => k_is)
    (case a__law_thing => k_is)
    (case l__law_thing => k_is)
    (case c__law_thing => k_is)
    (case k__law_thing => k_is)
    (case a__law_is_line => k_is)
    (case l__law_is_line => k_is)
    (case c__law_is_line => k_is)
    (case k__law_is_line => k_is)
    (case a__law_bent => k_is)
    (case l__law_bent => k_is)
    (case c__law_bent => k_is)
    (case k__law_bent => k_is)
    (case a__law_words_right => k_is)
    (case l__law_words_right => k_is)
    (case c__law_words_right => k_is)
    (case k__law_words_right => k_is)
    (case a__law_line_place => k_is)
    (case l__law_line_place => k_is)
    (case c__law_line_place => k_is)
    (case k__law_line_place => k_is)
    (case a_law => k_is)
    (case l_law => k_is)
    (case c_law => k_is)
    (case k_law => k_is)
    (case g_MOST_WORDS => k_is)
    (case g_FIGURES => k_is)
    (case g_SMALL_LETTERS => k_is)
    (case g_WORD_SIGNS => k_is)
    (case z_all => k_is)
    (case z_bool => k_is)
    (case z_int => k_is)
    (case z_isinstance => k_is)
    (case z_len => k_is)
    (case z_list => k_is)
    (case z_range => k_is)
    (case z_sorted => k_is)
    (case z_str => k_is)
    (case z_tuple => k_is)
