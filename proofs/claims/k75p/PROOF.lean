import PyProof.Rows.All
import Wide.All
import OpenK.AllK
import Wide.FinOn
import Lean
import PyProof.EqAt
import PyProof.EqKinds
import PyProof.TupleCall
import PyProof.StrLawsTight
import PyProof.FitsReplace
import KE.KSortTup
import PyProof.TupleKey
import PyProof.SetKind
import PyProof.IsRules
import PyProof.Rows.SetFrom
import PyProof.CollectWalk
import PyProof.DictUpdate
import PyProof.AutoListH
import PyProof.SeqI3
import PyProof.EnumStmt
import PyProof.EnumMake
import PyProof.Rows.CallKwBuiltin
import PyProof.NeKinds
import PyProof.StationsW
import PyProof.ExcClass3
import PyProof.PassesOwn
import OpenK.KOwn
import PyProof.RulesAs
import PyProof.RulesDel
import KE.KIsAll
import PyProof.ExcArgsOwn
import PyProof.StrLawsIn
import PyProof.Rows.Range3
import PyProof.Rows.FStr
import PyProof.DictItems
import PyProof.AttrMissHeap
import PyProof.ListCopy
import KE.KDictOf
import KE.KDictSum
import PyProof.Rows.SortRev
import PyProof.Rows.IntMath
import KE.KLam
import KE.KSortKey
import KE.KNestM
import PySem.Challenge.RW_levelbench_k75_whole_windows_moved
set_option Elab.async false
set_option linter.all false
set_option maxRecDepth 100000
namespace L2
open PySem PySem.Spec PyProof.Rows
abbrev Key := Sum Int Str
def keyIs : Key → Value → Bool
  | .inl k, v => Value.isInt k v
  | .inr x, v => Value.isStrOf x v
def keyH (w : World) : Key → Int
  | .inl k => hashInt k
  | .inr x => hashStr w x
theorem keyIs_shape : ∀ {k : Key} {v : Value}, keyIs k v = true → (∃ i t, k = Sum.inl i ∧ v = Value.int i t) ∨ (∃ x t, k = Sum.inr x ∧ v = Value.str x t)
  | .inl i, v, h => by
    obtain ⟨t, e⟩ := Value.isInt_shape (k := i) (v := v) h
    exact .inl ⟨i, t, rfl, e⟩
  | .inr x, v, h => by
    obtain ⟨t, e⟩ := Value.isStrOf_shape (x := x) (v := v) h
    exact .inr ⟨x, t, rfl, e⟩
theorem keyIs_int (i : Int) (t : Tok) : keyIs (.inl i) (.int i t) = true := by simp [keyIs, Value.isInt]
theorem keyIs_str (x : Str) (t : Tok) : keyIs (.inr x) (.str x t) = true := by simp [keyIs, Value.isStrOf]
theorem key_ll (a b : Int) : decide ((Sum.inl a : Key) = Sum.inl b) = (a == b) := by
  by_cases e : a = b
  · subst e; simp
  · have h : ¬ (Sum.inl a : Key) = Sum.inl b := fun q => e (Sum.inl.inj q)
    rw [decide_eq_false h]
    exact (beq_eq_false_iff_ne.mpr e).symm
theorem key_rr (a b : Str) : decide ((Sum.inr a : Key) = Sum.inr b) = decide (a = b) := by
  by_cases e : a = b
  · subst e; simp
  · have h : ¬ (Sum.inr a : Key) = Sum.inr b := fun q => e (Sum.inr.inj q)
    rw [decide_eq_false h, decide_eq_false e]
theorem key_lr (a : Int) (b : Str) : decide ((Sum.inl a : Key) = Sum.inr b) = false := decide_eq_false (fun q => nomatch q)
theorem key_rl (a : Str) (b : Int) : decide ((Sum.inr a : Key) = Sum.inl b) = false := decide_eq_false (fun q => nomatch q)
def mixKind (prog : Program) (w : World) : PySem.KeyKind prog w Key where
  is := keyIs
  hash := keyH w
  inj := fun v a b ha hb => by
    rcases keyIs_shape ha with ⟨i, t, rfl, rfl⟩ | ⟨x, t, rfl, rfl⟩
    · rcases keyIs_shape hb with ⟨j, u, rfl, e⟩ | ⟨y, u, rfl, e⟩
      · injection e with e1 _; rw [e1]
      · exact nomatch e
    · rcases keyIs_shape hb with ⟨j, u, rfl, e⟩ | ⟨y, u, rfl, e⟩
      · exact nomatch e
      · injection e with e1 _; rw [e1]
  byValue := fun k v h => by
    rcases keyIs_shape h with ⟨i, t, rfl, rfl⟩ | ⟨x, t, rfl, rfl⟩ <;> rfl
  pyHash := fun hv h => by
    rcases keyIs_shape hv with ⟨i, t, rfl, rfl⟩ | ⟨x, t, rfl, rfl⟩
    · exact wpAny_pyHash_int h
    · exact wpAny_pyHash_str h
  eqBool := fun hu hv h => by
    rcases keyIs_shape hu with ⟨i, t, rfl, rfl⟩ | ⟨x, t, rfl, rfl⟩
    · rcases keyIs_shape hv with ⟨j, u, rfl, rfl⟩ | ⟨y, u, rfl, rfl⟩
      · rw [key_ll] at h; exact wpAny_eqBool_int h
      · rw [key_lr] at h; exact SeqAt.EqAt.int_str i t y u _ _ _ _ h
    · rcases keyIs_shape hv with ⟨j, u, rfl, rfl⟩ | ⟨y, u, rfl, rfl⟩
      · rw [key_rl] at h; exact SeqAt.EqAt.str_int x t j u _ _ _ _ h
      · rw [key_rr] at h; exact wpAny_eqBool_str h
  «strs» := fun k x t v h => by
    rcases keyIs_shape h with ⟨i, u, rfl, e⟩ | ⟨y, u, rfl, e⟩
    · exact nomatch e
    · injection e with e1 _
      subst e1
      cases v <;> rfl
theorem mixKind_int (prog : Program) (w : World) (i : Int) (t : Tok) : (mixKind prog w).is (.inl i) (.int i t) = true := keyIs_int i t
theorem mixKind_str (prog : Program) (w : World) (x : Str) (t : Tok) : (mixKind prog w).is (.inr x) (.str x t) = true := keyIs_str x t
end L2
namespace L2
open PySem PySem.Spec PyProof.Rows
inductive V where
  | non | bl (b : Bool) | int (i : Int) | str (x : Str) | byt (b : Array UInt8) | flt (b : UInt64) | ref (a : Addr) | ty (n : String)
  deriving DecidableEq
def RelV : V → Value → Prop
  | .non, u => u = Value.none
  | .bl b, u => u = Value.bool b
  | .int i, u => ∃ t, u = Value.int i t
  | .str x, u => ∃ t, u = Value.str x t
  | .byt b, u => ∃ t, u = Value.bytes b t
  | .flt b, u => ∃ t, u = Value.float b t
  | .ref a, u => u = Value.ref a
  | .ty n, u => u = Value.type n
abbrev Vals : List V → List Value → Prop := Paired RelV
theorem Vals.length {xs : List V} {us : List Value} (r : Vals xs us) : xs.length = us.length := Paired.length r
theorem Vals.get : ∀ {xs : List V} {us : List Value} {i : Nat} {x : V}, Vals xs us → xs[i]? = some x → ∃ u, us[i]? = some u ∧ RelV x u
  | _, _, _, _, .nil, e => by simp at e
  | _, _, 0, _, .cons r _, e => by simp at e; subst e; exact ⟨_, rfl, r⟩
  | _, _, i + 1, x, .cons _ t, e => by
    obtain ⟨u, h1, h2⟩ := Vals.get (i := i) (x := x) t (by simpa using e)
    exact ⟨u, by simpa using h1, h2⟩
theorem Vals.set {x : V} {u : Value} (r : RelV x u) : ∀ {xs : List V} {us : List Value} (i : Nat), Vals xs us → Vals (xs.set i x) (us.set i u)
  | _, _, _, .nil => .nil
  | _, _, 0, .cons _ t => .cons r t
  | _, _, i + 1, .cons q t => .cons q (Vals.set r i t)
theorem Vals.append : ∀ {xs ys : List V} {us ws : List Value}, Vals xs us → Vals ys ws → Vals (xs ++ ys) (us ++ ws)
  | _, _, _, _, .nil, s => s
  | _, _, _, _, .cons r t, s => .cons r (Vals.append t s)
theorem Vals.take : ∀ {xs : List V} {us : List Value} (n : Nat), Vals xs us → Vals (xs.take n) (us.take n)
  | _, _, 0, _ => .nil
  | _, _, _ + 1, .nil => .nil
  | _, _, n + 1, .cons r t => .cons r (Vals.take n t)
theorem Vals.drop : ∀ {xs : List V} {us : List Value} (n : Nat), Vals xs us → Vals (xs.drop n) (us.drop n)
  | _, _, 0, r => r
  | _, _, _ + 1, .nil => .nil
  | _, _, n + 1, .cons _ t => Vals.drop n t
def RelO : Option V → Option Value → Prop
  | some v, some u => RelV v u
  | none, none => True
  | _, _ => False
def KV {κ : Type} : List (κ × V) → List (κ × Value) → Prop := Paired fun (p : κ × V) (q : κ × Value) => p.1 = q.1 ∧ RelV p.2 q.2
def kV : Key → V
  | .inl i => .int i
  | .inr x => .str x
inductive HO where
  | lst (xs : List V)
  | tup (xs : List V)
  | dK (kvs : List (Key × V)) | dT (kvs : List (List Key × V))
  | set (S : Int → Bool) (n : Nat)
  | ins (C dx : Addr) (fs : List (Str × V))
  | own (x : Addr)
  | xd (fs : List (Str × V))
  | met (f x : Addr)
  | rng (lo hi : Int)
  | frz (o : Obj) (u : HO)
  | tbl (ps : Array Value)
  | ext (φ : Heap → Prop)
abbrev Hp := Addr → Option HO
def upd (H : Hp) (a : Addr) (o : HO) : Hp := fun b => if b = a then some o else H b
theorem upd_same {H : Hp} {a : Addr} {o : HO} : upd H a o a = some o := by unfold upd; rw [if_pos rfl]
theorem upd_ne {H : Hp} {a b : Addr} {o : HO} (h : b ≠ a) : upd H a o b = H b := by unfold upd; rw [if_neg h]
theorem upd_upd {H : Hp} {a : Addr} {o u : HO} : upd (upd H a o) a u = upd H a u := by
  funext b; unfold upd; split <;> rfl
theorem ne_of {H : Hp} {a b : Addr} {o u : HO} (h : H a = some o) (h' : H b = some u) (d : o ≠ u) : a ≠ b := by
  intro e; subst e; rw [h] at h'; exact d (Option.some.inj h')
theorem ne_of_none {H : Hp} {a b : Addr} {o : HO} (h : H a = some o) (h' : H b = none) : a ≠ b := by
  intro e; subst e; rw [h] at h'; cases h'
section
variable (P : Program) (w : World)
def ObjOk (H : Hp) (h : Heap) (a : Addr) : HO → Prop
  | .lst xs => xs.length ≤ sizeLine ∧ ∃ (its : List Value) (n : Nat), Vals xs its ∧ h.get? a = some { cls := .type "list", data := .seq its.toArray n }
  | .tup xs => xs.length ≤ sizeLine ∧ ∃ its : List Value, Vals xs its ∧ IsTup h a its.toArray
  | .dK kvs => kvs.length ≤ sizeLine ∧ (a == sysModules) = false ∧ ∃ vs, KV kvs vs ∧ h.DictOf (mixKind P w) a vs
  | .dT kvs => kvs.length ≤ sizeLine ∧ (a == sysModules) = false ∧ ∃ xs : List (List Key × Addr × Value),
      Paired (fun (p : List Key × V) (q : List Key × Addr × Value) => p.1 = q.1 ∧ H q.2.1 = some (.tup (p.1.map kV)) ∧ RelV p.2 q.2.2) kvs xs ∧
      ∃ o es ep, h.get? a = some o ∧ o.ExactDict ∧ o.data = .dict es ep ∧ es.toList = xs.map (entryOfKey (tupleKind (mixKind P w))) ∧ (xs.map (·.1)).Nodup
  | .set S n => h.SetOf (intKind P w) a S n
  | .ins C dx fs => H dx = some (.own a) ∧ fs.length ≤ 1000 ∧ dx ≠ a ∧ h.get? a = some (PySem.W.instObj C dx) ∧
      ∃ mA, h.Ns1 dx mA ∧ (∀ f, RelO (fs.lookup f) (mA f)) ∧ PySem.Within mA (fs.map (·.1))
  | .own _ => ∃ o, h.get? a = some o
  | .xd fs => ∃ mA, h.Ns1 a mA ∧ ∀ f, RelO (fs.lookup f) (mA f)
  | .rng lo hi => ∃ t u v, h.get? a = some { cls := .type "range", data := .fields #[.int lo t, .int hi u, .int 1 v] }
  | .frz o u => h.get? a = some o ∧ ObjOk H h a u
  | .tbl ps => h.get? a = some { cls := .none, data := .fields ps }
  | .met f x => h.get? a = some (PySem.W.methodObj (.ref f) (.ref x))
  | .ext φ => φ h ∧ (∃ o, h.get? a = some o) ∧ ∀ h1 h2 : Heap, φ h1 → (∀ o, h1.get? a = some o → h2.get? a = some o) → φ h2
def HOk (H : Hp) (h : Heap) : Prop := ∀ a o, H a = some o → ObjOk P w H h a o
end
section
variable {P : Program} {w : World} {H H' : Hp} {h h' : Heap} {a : Addr} {o : HO}
theorem ObjOk.lt (x : ObjOk P w H h a o) : a < h.objs.size := by
  cases o with
  | lst xs => obtain ⟨_, _, _, _, e⟩ := x; exact Heap.lt_size e
  | tup xs => obtain ⟨_, _, _, p⟩ := x; exact p.lt
  | dK kvs => obtain ⟨_, _, _, _, o, _, _, e, _⟩ := x; exact Heap.lt_size e
  | dT kvs => obtain ⟨_, _, _, _, o, _, _, e, _⟩ := x; exact Heap.lt_size e
  | set S n => obtain ⟨o, _, _, _, e, _⟩ := x; exact Heap.lt_size e
  | ins C dx fs => obtain ⟨_, _, _, e, _⟩ := x; exact Heap.lt_size e
  | own y => obtain ⟨_, e⟩ := x; exact Heap.lt_size e
  | xd fs => obtain ⟨_, ⟨_, _, _, e, _⟩, _⟩ := x; exact Heap.lt_size e
  | rng lo hi => obtain ⟨_, _, _, e⟩ := x; exact Heap.lt_size e
  | frz ob u => obtain ⟨e, _⟩ := x; exact Heap.lt_size e
  | tbl ps => exact Heap.lt_size (show h.get? a = some _ from x)
  | met f y => exact Heap.lt_size (show h.get? a = some _ from x)
  | ext φ => obtain ⟨_, ⟨_, e⟩, _⟩ := x; exact Heap.lt_size e
theorem Paired.mapP {α β : Type} {F G : α → β → Prop} : ∀ {l₁ : List α} {l₂ : List β}, Paired F l₁ l₂ → (∀ a b, F a b → G a b) → Paired G l₁ l₂
  | _, _, .nil, _ => .nil
  | _, _, .cons r t, f => .cons (f _ _ r) (Paired.mapP t f)
theorem ObjOk.stay (x : ObjOk P w H h a o) (k : ∀ b u, (b = a ∨ H b = some (.own a)) → h.get? b = some u → h'.get? b = some u)
    (ho : ∀ b, H b = some (.own a) → H' b = some (.own a)) (ht : ∀ b xs, H b = some (.tup xs) → H' b = some (.tup xs)) : ObjOk P w H' h' a o := by
  induction o with
  | lst xs => obtain ⟨z, its, n, r, e⟩ := x; exact ⟨z, its, n, r, k _ _ (.inl rfl) e⟩
  | tup xs => obtain ⟨z, its, r, ob, e, c⟩ := x; exact ⟨z, its, r, ob, k _ _ (.inl rfl) e, c⟩
  | dK kvs => obtain ⟨z, y, vs, r, ob, es, ep, e, c⟩ := x; exact ⟨z, y, vs, r, ob, es, ep, k _ _ (.inl rfl) e, c⟩
  | dT kvs =>
    obtain ⟨z, y, xs, r, ob, es, ep, e, c⟩ := x
    exact ⟨z, y, xs, Paired.mapP r fun p q z => ⟨z.1, ht _ _ z.2.1, z.2.2⟩, ob, es, ep, k _ _ (.inl rfl) e, c⟩
  | set S n => obtain ⟨ob, es, ep, t, e, c⟩ := x; exact ⟨ob, es, ep, t, k _ _ (.inl rfl) e, c⟩
  | ins C dx fs =>
    obtain ⟨d, z, ne, e, mA, ⟨od, es, ep, e2, c⟩, r⟩ := x
    exact ⟨ho _ d, z, ne, k _ _ (.inl rfl) e, mA, ⟨od, es, ep, k _ _ (.inr d) e2, c⟩, r⟩
  | own y => obtain ⟨ob, e⟩ := x; exact ⟨ob, k _ _ (.inl rfl) e⟩
  | xd fs => obtain ⟨mA, ⟨od, es, ep, e, c⟩, r⟩ := x; exact ⟨mA, ⟨od, es, ep, k _ _ (.inl rfl) e, c⟩, r⟩
  | rng lo hi => obtain ⟨t, u, v, e⟩ := x; exact ⟨t, u, v, k _ _ (.inl rfl) e⟩
  | frz ob u ih => obtain ⟨e, q⟩ := x; exact ⟨k _ _ (.inl rfl) e, ih q⟩
  | tbl ps =>
    have e : h.get? a = some { cls := .none, data := .fields ps } := x
    show h'.get? a = some { cls := .none, data := .fields ps }
    exact k a _ (.inl rfl) e
  | met f y =>
    have e : h.get? a = some (PySem.W.methodObj (.ref f) (.ref y)) := x
    show h'.get? a = some (PySem.W.methodObj (.ref f) (.ref y))
    exact k a _ (.inl rfl) e
  | ext φ => obtain ⟨p, ⟨o, e⟩, st⟩ := x; exact ⟨st _ _ p fun o q => k _ _ (.inl rfl) q, ⟨o, k _ _ (.inl rfl) e⟩, st⟩
theorem HOk.lt (x : HOk P w H h) (e : H a = some o) : a < h.objs.size := (x a o e).lt
theorem HOk.fresh (x : HOk P w H h) (e : h.objs.size ≤ a) : H a = none := by
  cases q : H a with
  | none => rfl
  | some u => exact absurd (Nat.lt_of_lt_of_le (x.lt q) e) (Nat.lt_irrefl _)
theorem HOk.kept (x : HOk P w H h) (k : ∀ b u, h.get? b = some u → h'.get? b = some u) : HOk P w H h' := fun a o e =>
  (x a o e).stay (fun b u _ q => k b u q) (fun _ q => q) fun _ _ q => q
theorem HOk.laid (x : HOk P w H h) (k : ∀ b u, h.get? b = some u → h'.get? b = some u) (hp : h.objs.size ≤ a) (new : ObjOk P w (upd H a o) h' a o) : HOk P w (upd H a o) h' := fun b u e => by
  have hn := x.fresh hp
  by_cases hb : b = a
  · subst hb; rw [upd_same] at e; cases e; exact new
  · rw [upd_ne hb] at e
    exact (x b u e).stay (fun c v _ q => k c v q) (fun c q => by rw [upd_ne (ne_of_none q hn)]; exact q) fun c xs q => by rw [upd_ne (ne_of_none q hn)]; exact q
end
def Rd (H : Hp) (a : Addr) (u : HO) : Prop := H a = some u ∨ ∃ o, H a = some (.frz o u)
theorem Rd.ok {P : Program} {w : World} {H : Hp} {h : Heap} {a : Addr} {u : HO} (r : Rd H a u) (x : HOk P w H h) : ObjOk P w H h a u := by
  rcases r with r | ⟨o, r⟩
  · exact x a u r
  · obtain ⟨_, q⟩ := x a _ r
    exact q
def Mut : Option HO → Prop
  | some (.lst _) => True
  | some (.dK _) => True
  | some (.dT _) => True
  | some (.set _ _) => True
  | some (.ins _ _ _) => True
  | some (.ext _) => True
  | _ => False
section
variable {P : Program} {w : World} {H : Hp} {h h' : Heap} {x e : Addr} {o' : HO}
theorem HOk.write (ok : HOk P w H h) (mu : Mut (H x)) (he : e = x ∨ H e = some (.own x)) (k : ∀ b u, b ≠ e → h.get? b = some u → h'.get? b = some u) (heo : ∃ u, h'.get? e = some u)
    (new : ObjOk P w (upd H x o') h' x o') : HOk P w (upd H x o') h' := fun b u q => by
  have nown : ∀ c y, H c = some (.own y) → c ≠ x := fun c y r z => by subst z; rw [r] at mu; exact mu
  have ntup : ∀ c xs, H c = some (.tup xs) → c ≠ x := fun c xs r z => by subst z; rw [r] at mu; exact mu
  by_cases hb : b = x
  · subst hb; rw [upd_same] at q; cases q; exact new
  · rw [upd_ne hb] at q
    by_cases hbe : b = e
    · have q' : H b = some (.own x) := by
        rcases he with z | z
        · exact absurd (hbe.trans z) hb
        · rw [hbe]; exact z
      rw [q] at q'; cases q'
      obtain ⟨v, hv⟩ := heo
      exact ⟨v, by rw [hbe]; exact hv⟩
    · refine (ok b u q).stay (fun c v hc r => k c v ?_ r) (fun c r => by rw [upd_ne (nown c b r)]; exact r) fun c xs r => by rw [upd_ne (ntup c xs r)]; exact r
      rcases hc with rfl | hc
      · exact hbe
      · rintro rfl
        rcases he with z | z
        · exact nown c b hc z
        · rw [hc] at z; cases z; exact hb rfl
end
structure Un (fs ex : List Addr) (H H' : Hp) (h h' : Heap) : Prop where
  keep : ∀ b o, h.get? b = some o → H b = none → b ∉ fs → b ∉ ex → h'.get? b = some o
  slot : ∀ b o, h.get? b = some o → H b = none → b ∈ fs → b ∉ ex → ∃ sl, h'.get? b = some { o with slots := sl }
  free : ∀ b o, h.get? b = some o → H b = none → b ∉ ex → H' b = none
  there : ∀ b o, h.get? b = some o → b ∉ ex → ∃ o', h'.get? b = some o'
  tups : ∀ b xs, H b = some (.tup xs) → H' b = some (.tup xs)
  frzs : ∀ b o u, H b = some (.frz o u) → H' b = some (.frz o u)
  tbls : ∀ b ps, H b = some (.tbl ps) → ∃ more, H' b = some (.tbl (ps ++ more))
section
variable {fs fs' ex ex' : List Addr} {H H1 H2 : Hp} {h h1 h2 h' : Heap} {a x e : Addr} {o : HO}
theorem Un.any (u : Un fs ex H H1 h h1) {b : Addr} {ob : Obj} (q : h.get? b = some ob) (n : H b = none) (hx : b ∉ ex) : ∃ sl, h1.get? b = some { ob with slots := sl } := by
  by_cases hb : b ∈ fs
  · exact u.slot b ob q n hb hx
  · exact ⟨ob.slots, u.keep b ob q n hb hx⟩
theorem Un.kept (k : ∀ b u, h.get? b = some u → h'.get? b = some u) : Un fs ex H H h h' :=
  ⟨fun b ob q _ _ _ => k b ob q, fun b ob q _ _ _ => ⟨ob.slots, k b ob q⟩, fun _ _ _ n _ => n, fun b ob q _ => ⟨ob, k b ob q⟩, fun _ _ q => q, fun _ _ _ q => q, fun _ ps q => ⟨#[], by rw [q]; simp⟩⟩
theorem Un.refl : Un fs ex H H h h := Un.kept fun _ _ q => q
theorem Un.laid (k : ∀ b u, h.get? b = some u → h'.get? b = some u) (hp : h.objs.size ≤ a) (hn : H a = none) : Un fs ex H (upd H a o) h h' where
  keep := fun b u q _ _ _ => k b u q
  slot := fun b u q _ _ _ => ⟨u.slots, k b u q⟩
  free := fun b u q n _ => by rw [upd_ne (Nat.ne_of_lt (Nat.lt_of_lt_of_le (Heap.lt_size q) hp))]; exact n
  there := fun b u q _ => ⟨u, k b u q⟩
  tups := fun b xs q => by rw [upd_ne (ne_of_none q hn)]; exact q
  frzs := fun b u xs q => by rw [upd_ne (ne_of_none q hn)]; exact q
  tbls := fun b ps q => ⟨#[], by rw [upd_ne (ne_of_none q hn), q]; simp⟩
theorem Un.write (mu : Mut (H x)) (he : e = x ∨ H e = some (.own x)) (k : ∀ b u, b ≠ e → h.get? b = some u → h'.get? b = some u) (heo : ∃ u, h'.get? e = some u) : Un fs ex H (upd H x o) h h' := by
  have hx : ∀ b, H b = none → b ≠ x := fun b n z => by subst z; rw [n] at mu; exact mu
  have hb : ∀ b, H b = none → b ≠ e := fun b n z => by
    subst z
    rcases he with r | r
    · exact hx b n r
    · rw [n] at r; cases r
  have hm : ∀ b u, H b = some u → ¬ Mut (some u) → b ≠ x := fun b u q nm z => by subst z; rw [q] at mu; exact nm mu
  refine ⟨fun b u q n _ _ => k b u (hb b n) q, fun b u q n _ _ => ⟨u.slots, k b u (hb b n) q⟩, fun b u q n _ => by rw [upd_ne (hx b n)]; exact n, fun b u q _ => ?_,
    fun b xs q => by rw [upd_ne (hm b _ q fun z => z)]; exact q, fun b u xs q => by rw [upd_ne (hm b _ q fun z => z)]; exact q, fun b ps q => ⟨#[], by rw [upd_ne (hm b _ q fun z => z), q]; simp⟩⟩
  by_cases hbe : b = e
  · subst hbe; exact heo
  · exact ⟨u, k b u hbe q⟩
end
def trk (h : Heap) (H : Hp) : List Addr := (List.range h.objs.size).filter fun a => (H a).isSome
def hidT (h : Heap) (H : Hp) : Heap := PySem.W.hideAll h (trk h H)
theorem hidT_size (h : Heap) (H : Hp) : (hidT h H).objs.size = h.objs.size := PySem.W.hideAll_size _ _
theorem hidT_get {h : Heap} {H : Hp} {b : Addr} {o : Obj} (e : h.get? b = some o) (n : H b = none) : (hidT h H).get? b = some o :=
  PySem.W.hideAll_get _ e fun hm => by
    have q : (H b).isSome = true := (List.mem_filter.mp hm).2
    rw [n] at q; simp at q
theorem of_hidT {h : Heap} {H : Hp} {b : Addr} {o : Obj} (e : (hidT h H).get? b = some o) : h.get? b = some o ∧ H b = none := by
  have e' : h.get? b = some o := PySem.W.of_hideAll (trk h H) e
  refine ⟨e', ?_⟩
  cases q : H b with
  | none => rfl
  | some x =>
    have hm : b ∈ trk h H := List.mem_filter.mpr ⟨List.mem_range.mpr (Heap.lt_size e'), by simp [q]⟩
    have z : (hidT h H).get? b = none := PySem.W.hideAll_none (trk h H) hm
    rw [z] at e; cases e
end L2
namespace L2
open PySem PySem.Spec PyProof.Rows
structure Mod (K : PySem.W.Frag) (mg : Str → Option Value) (base : Heap) : Prop where
  kin : K.In base
  glob : base.Ns mainGlobals mg
  blt : ∃ mb, base.Ns builtinsNs mb ∧ ∀ x : Str, x ≠ "__name__" → mb x = bootBuiltins x
  nolimit : base.NoLimit
structure Cx where
  prog : Program
  w : World
  K : PySem.W.Frag
  mg : Str → Option Value
  base : Heap
  A : Around
  N : List Str
  s₀ : Shared
  H₀ : Hp
  env : Env
  outer : List Env
  stack : List Env
  ex : List Addr
  fn : Str → Bool
  calm : Bool
  pn : List (Addr × Obj)
  xe : Value → Shared → Prop
def frs (l : List Env) : List Addr := l.filterMap (·.frame)
abbrev Cx.fs (X : Cx) : List Addr := frs X.outer
def Vis (sc : Scope) (x : Str) : Prop := sc.names.lookup x = some .local ∨ sc.names.lookup x = some .cell ∨ sc.names.lookup x = some .free
def Loc (sc : Scope) (x : Str) : Prop := sc.names.lookup x = some .local ∨ sc.names.lookup x = some .cell
def Look (env : Env) (h : Heap) (m : Str → Option Value) (x : Str) (u : Value) : Prop :=
  (env.kindOf x = some .local ∧ m x = some u) ∨ ((env.kindOf x = some .cell ∨ env.kindOf x = some .free) ∧ ∃ c, env.cells.lookup x = some c ∧ h.IsCell c (some u))
structure Cx.Ok (X : Cx) : Prop where
  mod : Mod X.K X.mg X.base
  kind : X.env.scope.kind = .function
  glob : X.env.globals = mainGlobals
  blt : X.env.builtins = builtinsNs
  above : X.s₀.heap.objs.size ≤ X.env.locals
  inj : ∀ x y c, X.env.cells.lookup x = some c → X.env.cells.lookup y = some c → x = y
  has : ∀ x, (X.env.kindOf x = some .cell ∨ X.env.kindOf x = some .free) → ∃ c, X.env.cells.lookup x = some c
  cab : ∀ x c, X.fn x = true → X.env.cells.lookup x = some c → X.s₀.heap.objs.size ≤ c
  hd : X.calm = true → X.A.handled = none
  frames : X.A.frames = some X.stack
  stk : X.stack = X.outer ∨ (X.stack = X.env :: X.outer ∧ X.env.frame = some X.env.locals)
  exf : ∀ b ∈ X.ex, b ≠ X.env.locals ∧ ∀ x c, X.env.cells.lookup x = some c → c ≠ b
  bs : ∀ b o, X.base.get? b = some o → X.s₀.heap.get? b = some o ∧ X.H₀ b = none
  bsz : X.base.objs.size ≤ X.s₀.heap.objs.size
  noex : ∀ b o, X.base.get? b = some o → b ∉ X.ex
  exfs : ∀ b ∈ X.ex, b ∉ X.fs
  funs : X.s₀.heap.FunFrames X.base X.outer
  frf : ∀ b ∈ X.fs, X.H₀ b = none
structure Inv (X : Cx) (pins : List (Addr × Obj)) (σ : List (Option V)) (H : Hp) (s : Shared) : Prop where
  ok : X.Ok
  os : s.os = X.s₀.os
  bare : AllBare s.gens
  base : Un X.fs X.ex X.H₀ H X.s₀.heap s.heap
  loc : ∃ m, s.heap.Ns X.env.locals m ∧ ∀ (i : Nat) (x : Str) (v : V), X.N[i]? = some x → σ[i]? = some (some v) → Vis X.env.scope x → ∃ u, RelV v u ∧ Look X.env s.heap m x u
  cell : ∀ x c, X.env.cells.lookup x = some c → ∃ v, s.heap.IsCell c v
  free : H X.env.locals = none
  freeC : ∀ x c, X.env.cells.lookup x = some c → H c = none
  pin : ∀ p ∈ X.pn ++ pins, s.heap.get? p.1 = some p.2 ∧ H p.1 = none ∧ p.1 ≠ X.env.locals ∧ p.1 ∉ X.fs ∧ ∀ v, p.2.data ≠ .cell v
  hok : HOk X.prog X.w H s.heap
  len : σ.length = X.N.length
section
variable {X : Cx} {pins : List (Addr × Obj)} {σ : List (Option V)} {H H' : Hp} {s : Shared} {h' : Heap}
theorem Cx.Ok.nofr (ok : X.Ok) {b : Addr} {o : Obj} (e : X.base.get? b = some o) : b ∉ X.fs := fun hb => by
  have := (ok.funs.mem hb).1
  rw [e] at this; cases this
theorem Inv.bs (I : Inv X pins σ H s) : ∀ b o, X.base.get? b = some o → s.heap.get? b = some o ∧ H b = none := fun b o e =>
  ⟨I.base.keep b o (I.ok.bs b o e).1 (I.ok.bs b o e).2 (I.ok.nofr e) (I.ok.noex b o e), I.base.free b o (I.ok.bs b o e).1 (I.ok.bs b o e).2 (I.ok.noex b o e)⟩
theorem Inv.bk (I : Inv X pins σ H s) : ∀ b o, X.base.get? b = some o → s.heap.get? b = some o := fun b o e => (I.bs b o e).1
theorem Inv.mod (I : Inv X pins σ H s) : Mod X.K X.mg X.base := I.ok.mod
theorem Inv.kIn (I : Inv X pins σ H s) : X.K.In s.heap := I.ok.mod.kin.keeps I.bk
theorem Inv.nolimit (I : Inv X pins σ H s) : s.heap.NoLimit := I.ok.mod.nolimit.keeps I.bk
theorem Inv.lt (I : Inv X pins σ H s) : X.env.locals < s.heap.objs.size := let ⟨_, hn, _⟩ := I.loc; hn.lt
theorem Inv.sz (I : Inv X pins σ H s) : X.s₀.heap.objs.size ≤ s.heap.objs.size := Nat.le_trans I.ok.above (Nat.le_of_lt I.lt)
theorem Inv.nofs (I : Inv X pins σ H s) {a : Addr} (h : s.heap.objs.size ≤ a) : a ∉ X.fs := fun hb => by
  obtain ⟨_, o, ho, _⟩ := I.ok.funs.mem hb
  exact absurd (Nat.lt_of_lt_of_le (Heap.lt_size ho) (Nat.le_trans I.sz h)) (Nat.lt_irrefl _)
theorem Inv.cne (I : Inv X pins σ H s) : ∀ x c, X.env.cells.lookup x = some c → c ≠ X.env.locals := fun x c e z => by
  obtain ⟨v, o, ho, hd⟩ := I.cell x c e
  obtain ⟨m, ⟨o', es, ep, ho', hd', _⟩, _⟩ := I.loc
  rw [z, ho'] at ho; cases ho; rw [hd'] at hd; cases hd
theorem Inv.funs (I : Inv X pins σ H s) : s.heap.FunFrames X.base X.outer := by
  have all : ∀ (l : List Env), (∀ b ∈ frs l, b ∈ X.fs) → X.s₀.heap.FunFrames X.base l → s.heap.FunFrames X.base l := by
    intro l
    induction l with
    | nil => intro _ _; trivial
    | cons env r ih =>
      intro hs hl
      obtain ⟨hk, ⟨L, o, hf, hn, ho, hd⟩, hr⟩ := hl
      have hL : L ∈ X.fs := hs L (by unfold frs; rw [List.filterMap_cons, hf]; exact List.mem_cons_self)
      obtain ⟨sl, e⟩ := I.base.slot L o ho (I.ok.frf L hL) hL fun z => I.ok.exfs L z hL
      exact ⟨hk, ⟨L, _, hf, hn, e, hd⟩, ih (fun b hb => hs b (by unfold frs; rw [List.filterMap_cons, hf]; exact List.mem_cons_of_mem _ hb)) hr⟩
  exact all X.outer (fun _ hb => hb) I.ok.funs
theorem Inv.stack (I : Inv X pins σ H s) : s.heap.FunFrames X.base X.stack := by
  rcases I.ok.stk with e | ⟨e, hf⟩
  · rw [e]; exact I.funs
  · rw [e]
    obtain ⟨m, hn, _⟩ := I.loc
    refine .cons (by rw [I.ok.kind]; decide) hf hn ?_ I.funs
    exact Heap.get?_none_of_le (Nat.le_trans I.ok.bsz I.ok.above)
theorem Inv.stkSub (I : Inv X pins σ H s) : ∀ b ∈ frs X.stack, b ∈ X.env.locals :: X.fs := fun b hb => by
  rcases I.ok.stk with e | ⟨e, hf⟩
  · rw [e] at hb; exact List.mem_cons_of_mem _ hb
  · rw [e] at hb
    unfold frs at hb
    rw [List.filterMap_cons, hf] at hb
    exact hb
theorem Inv.stkFree (I : Inv X pins σ H s) : ∀ b ∈ frs X.stack, H b = none := fun b hb => by
  rcases List.mem_cons.mp (I.stkSub b hb) with e | hb
  · rw [e]; exact I.free
  · obtain ⟨_, o, ho, _⟩ := I.ok.funs.mem hb
    exact I.base.free b o ho (I.ok.frf b hb) fun z => I.ok.exfs b z hb
theorem Inv.step {g' : Array GenState} {t' : Nat} {d' : Drawn} {ch : List Addr} (I : Inv X pins σ H s)
    (hch : ∀ b ∈ ch, (b ∈ X.ex ∨ X.s₀.heap.objs.size ≤ b) ∧ b ≠ X.env.locals ∧ (∀ x c, X.env.cells.lookup x = some c → c ≠ b) ∧ ∀ p ∈ X.pn ++ pins, p.1 ≠ b)
    (keep : ∀ b o, b ≠ X.env.locals → b ∉ X.fs → b ∉ ch → s.heap.get? b = some o → H b = none → h'.get? b = some o)
    (slot : ∀ b o, b ≠ X.env.locals → b ∈ X.fs → b ∉ ch → s.heap.get? b = some o → H b = none → ∃ sl, h'.get? b = some { o with slots := sl }) (free : ∀ b o, b ∉ ch → s.heap.get? b = some o → H b = none → H' b = none)
    (there : ∀ b o, b ∉ ch → s.heap.get? b = some o → ∃ o', h'.get? b = some o')
    (tups : ∀ b xs, H b = some (.tup xs) → H' b = some (.tup xs)) (frzs : ∀ b o u, H b = some (.frz o u) → H' b = some (.frz o u)) (tbls : ∀ b ps, H b = some (.tbl ps) → ∃ more, H' b = some (.tbl (ps ++ more)))
    (ns : ∀ m, s.heap.Ns X.env.locals m → h'.Ns X.env.locals m) (hok : HOk X.prog X.w H' h') (hg : AllBare g') :
    Inv X pins σ H' { s with heap := h', gens := g', drawn := d', toks := t' } := by
  have neL : ∀ b o, X.s₀.heap.get? b = some o → b ≠ X.env.locals := fun b o e => Nat.ne_of_lt (Nat.lt_of_lt_of_le (Heap.lt_size e) I.ok.above)
  have neC : ∀ b o, X.s₀.heap.get? b = some o → b ∉ X.ex → b ∉ ch := fun b o e hx hb => by
    rcases (hch b hb).1 with z | z
    · exact hx z
    · exact absurd (Nat.lt_of_lt_of_le (Heap.lt_size e) z) (Nat.lt_irrefl _)
  have cellK : ∀ x c, X.env.cells.lookup x = some c → ∀ v, s.heap.IsCell c v → h'.IsCell c v := fun x c e v ⟨o, ho, hd⟩ => by
    have nch : c ∉ ch := fun z => (hch c z).2.2.1 x c e rfl
    by_cases hc : c ∈ X.fs
    · obtain ⟨sl, q⟩ := slot c o (I.cne x c e) hc nch ho (I.freeC x c e)
      exact ⟨_, q, hd⟩
    · exact ⟨o, keep c o (I.cne x c e) hc nch ho (I.freeC x c e), hd⟩
  refine ⟨I.ok, I.os, hg, ⟨fun b o e n hb hx => ?_, fun b o e n hb hx => ?_, fun b o e n hx => ?_, fun b o e hx => ?_, fun b xs e => tups b xs (I.base.tups b xs e), fun b o xs e => frzs b o xs (I.base.frzs b o xs e), fun b ps e => ?_⟩, ?_, fun x c e => ?_, ?_, fun x c e => ?_, fun p hp => ?_, hok, I.len⟩
  · exact keep b o (neL b o e) hb (neC b o e hx) (I.base.keep b o e n hb hx) (I.base.free b o e n hx)
  · obtain ⟨sl, e1⟩ := I.base.slot b o e n hb hx
    obtain ⟨sl', e2⟩ := slot b _ (neL b o e) hb (neC b o e hx) e1 (I.base.free b o e n hx)
    exact ⟨sl', e2⟩
  · obtain ⟨o', e1⟩ := I.base.there b o e hx
    exact free b o' (neC b o e hx) e1 (I.base.free b o e n hx)
  · obtain ⟨o', e1⟩ := I.base.there b o e hx
    exact there b o' (neC b o e hx) e1
  · obtain ⟨m1, e1⟩ := I.base.tbls b ps e
    obtain ⟨m2, e2⟩ := tbls b _ e1
    exact ⟨m1 ++ m2, by rw [e2, Array.append_assoc]⟩
  · obtain ⟨m, hn, hl⟩ := I.loc
    refine ⟨m, ns m hn, fun i x v e1 e2 e3 => ?_⟩
    obtain ⟨u, r, l⟩ := hl i x v e1 e2 e3
    refine ⟨u, r, ?_⟩
    rcases l with l | ⟨k, c, e, z⟩
    · exact .inl l
    · exact .inr ⟨k, c, e, cellK x c e _ z⟩
  · obtain ⟨v, z⟩ := I.cell x c e
    exact ⟨v, cellK x c e v z⟩
  · obtain ⟨m, ⟨o, _, _, ho, _⟩, _⟩ := I.loc
    exact free _ o (fun z => (hch _ z).2.1 rfl) ho I.free
  · obtain ⟨v, o, ho, hd⟩ := I.cell x c e
    exact free c o (fun z => (hch c z).2.2.1 x c e rfl) ho (I.freeC x c e)
  · obtain ⟨e, n, ne, nf, d⟩ := I.pin p hp
    have nch : p.1 ∉ ch := fun z => (hch p.1 z).2.2.2 p hp rfl
    exact ⟨keep p.1 p.2 ne nf nch e n, free p.1 p.2 nch e n, ne, nf, d⟩
theorem Inv.un {t' : Nat} (I : Inv X pins σ H s) (u : Un X.fs [] H H' s.heap h') (hok : HOk X.prog X.w H' h') : Inv X pins σ H' { s with heap := h', toks := t' } := by
  obtain ⟨m, ⟨o, es, ep, ho, r⟩, _⟩ := id I.loc
  obtain ⟨sl, hL⟩ := u.any ho I.free (by simp)
  exact I.step (g' := s.gens) (d' := s.drawn) (ch := []) (fun _ z => nomatch z) (fun b o _ hb _ e n => u.keep b o e n hb (by simp)) (fun b o _ hb _ e n => u.slot b o e n hb (by simp)) (fun b o _ e n => u.free b o e n (by simp)) (fun b o _ e => u.there b o e (by simp)) u.tups u.frzs u.tbls (fun m' hm => by
    obtain ⟨o', es', ep', ho', r'⟩ := hm
    rw [ho] at ho'; cases ho'
    exact ⟨_, es', ep', hL, r'⟩) hok I.bare
theorem Inv.call {g' : Array GenState} {t' : Nat} {d' : Drawn} {ch : List Addr} (I : Inv X pins σ H s) (u : Un (frs X.stack) ch H H' s.heap h') (hok : HOk X.prog X.w H' h') (hg : AllBare g')
    (hch : ∀ b ∈ ch, (b ∈ X.ex ∨ X.s₀.heap.objs.size ≤ b) ∧ b ≠ X.env.locals ∧ (∀ x c, X.env.cells.lookup x = some c → c ≠ b) ∧ ∀ p ∈ X.pn ++ pins, p.1 ≠ b) :
    Inv X pins σ H' { s with heap := h', gens := g', drawn := d', toks := t' } := by
  obtain ⟨m, ⟨o, es, ep, ho, r⟩, _⟩ := id I.loc
  obtain ⟨sl, hL⟩ := u.any ho I.free fun z => (hch _ z).2.1 rfl
  exact I.step (ch := ch) hch (fun b o hL hb hc e n => u.keep b o e n (fun z => (List.mem_cons.mp (I.stkSub b z)).elim hL hb) hc) (fun b o _ _ hc e n => u.any e n hc) (fun b o hc e n => u.free b o e n hc) (fun b o hc e => u.there b o e hc) u.tups u.frzs u.tbls (fun m' hm => by
    obtain ⟨o', es', ep', ho', r'⟩ := hm
    rw [ho] at ho'; cases ho'
    exact ⟨_, es', ep', hL, r'⟩) hok hg
theorem Inv.turned {t' : Nat} {it : Addr} (I : Inv X pins σ H s) (k : ∀ b o, b ≠ it → s.heap.get? b = some o → h'.get? b = some o) (hn : H it = none) (hL : it ≠ X.env.locals)
    (h1 : it ∈ X.ex ∨ X.s₀.heap.objs.size ≤ it) (h2 : ∀ x c, X.env.cells.lookup x = some c → c ≠ it) (h3 : ∀ p ∈ X.pn ++ pins, p.1 ≠ it) : Inv X pins σ H { s with heap := h', toks := t' } := by
  have nit : ∀ b u, H b = some u → b ≠ it := fun b u e z => by rw [z, hn] at e; cases e
  refine I.step (g' := s.gens) (d' := s.drawn) (ch := [it]) (fun b hb => ?_) (fun b o _ _ hc e _ => k b o (fun z => hc (by simp [z])) e) (fun b o _ _ hc e _ => ⟨o.slots, k b o (fun z => hc (by simp [z])) e⟩) (fun _ _ _ _ n => n)
    (fun b o hc e => ⟨o, k b o (fun z => hc (by simp [z])) e⟩) (fun _ _ e => e) (fun _ _ _ e => e) (fun b ps e => ⟨#[], by rw [e]; simp⟩) (fun m hm => ?_) (fun b u e => ?_) I.bare
  · have e : b = it := by simpa using hb
    subst e
    exact ⟨h1, hL, h2, h3⟩
  · obtain ⟨o, es, ep, ho, r⟩ := hm
    exact ⟨o, es, ep, k _ o (Ne.symm hL) ho, r⟩
  · refine (I.hok b u e).stay (fun c v hc q => k c v ?_ q) (fun _ q => q) fun _ _ q => q
    rcases hc with z | z
    · rw [z]; exact nit b u e
    · exact nit c _ z
theorem Inv.tok (I : Inv X pins σ H s) (t : Nat) : Inv X pins σ H { s with toks := t } := I.un (h' := s.heap) (t' := t) Un.refl I.hok
theorem Inv.kept {t' : Nat} (I : Inv X pins σ H s) (k : ∀ b u, s.heap.get? b = some u → h'.get? b = some u) : Inv X pins σ H { s with heap := h', toks := t' } := I.un (Un.kept k) (I.hok.kept k)
theorem Inv.laid {a : Addr} {o : HO} {t' : Nat} (I : Inv X pins σ H s) (k : ∀ b u, s.heap.get? b = some u → h'.get? b = some u) (hp : s.heap.objs.size ≤ a) (new : ObjOk X.prog X.w (upd H a o) h' a o) :
    Inv X pins σ (upd H a o) { s with heap := h', toks := t' } := I.un (Un.laid k hp (I.hok.fresh hp)) (I.hok.laid k hp new)
theorem Inv.write {x e : Addr} {o : HO} {t' : Nat} (I : Inv X pins σ H s) (mu : Mut (H x)) (he : e = x ∨ H e = some (.own x)) (k : ∀ b u, b ≠ e → s.heap.get? b = some u → h'.get? b = some u) (heo : ∃ u, h'.get? e = some u)
    (new : ObjOk X.prog X.w (upd H x o) h' x o) : Inv X pins σ (upd H x o) { s with heap := h', toks := t' } := I.un (Un.write mu he k heo) (I.hok.write mu he k heo new)
theorem Inv.pins_of {pins' : List (Addr × Obj)} (I : Inv X pins σ H s) (h : ∀ p ∈ pins', s.heap.get? p.1 = some p.2 ∧ H p.1 = none ∧ p.1 ≠ X.env.locals ∧ p.1 ∉ X.fs ∧ ∀ v, p.2.data ≠ .cell v) : Inv X pins' σ H s :=
  ⟨I.ok, I.os, I.bare, I.base, I.loc, I.cell, I.free, I.freeC, fun p hp => (List.mem_append.mp hp).elim (fun z => I.pin p (List.mem_append_left _ z)) (h p), I.hok, I.len⟩
theorem nodup_ix {N : List Str} (hN : N.Nodup) {i j : Nat} {x : Str} (a : N[i]? = some x) (b : N[j]? = some x) : i = j := by
  obtain ⟨h1, e1⟩ := List.getElem?_eq_some_iff.mp a
  obtain ⟨h2, e2⟩ := List.getElem?_eq_some_iff.mp b
  exact (List.getElem_inj hN).mp (e1.trans e2.symm)
theorem store_ok2 {M : Model} {A : Around} {E : Value → Shared → Prop} {i : Nat} {x : Str} {v : V} {u : Value} {Q : Unit → Shared → Prop} (I : Inv X pins σ H s) (hN : X.N.Nodup) (hi : X.N[i]? = some x) (hx : Loc X.env.scope x) (r : RelV v u)
    (h : ∀ s', Inv X pins (σ.set i (some v)) H s' → (∃ a, Heap.SameBut a s.heap s'.heap ∧ (a = X.env.locals ∨ X.env.cells.lookup x = some a)) → Q () s') (hf : X.fn x = true ∨ X.env.scope.names.lookup x = some .local := by first | exact .inl rfl | exact .inr rfl | assumption) : wpAny M A (storeName X.env x u) Q E s := by
  obtain ⟨m, hn, hl⟩ := id I.loc
  have hcls : (X.env.scope.kind == .class || (X.env.scope.kind == .module && X.env.locals != X.env.globals)) = false := by rw [I.ok.kind]; rfl
  have hiσ : i < σ.length := by rw [I.len]; exact (List.getElem?_eq_some_iff.mp hi).1
  have cne := I.cne
  have tracked : ∀ {a : Addr} {h' : Heap}, (∃ o, s.heap.get? a = some o ∧ H a = none) → Heap.SameBut a s.heap h' → HOk X.prog X.w H h' := fun {a h'} ha hs b ob e => by
    obtain ⟨_, _, hfree⟩ := ha
    refine (I.hok b ob e).stay (fun c w' hc q => (hs.2 c ?_).trans q) (fun _ q => q) fun _ _ q => q
    rintro rfl
    rcases hc with rfl | hc
    · rw [hfree] at e; cases e
    · rw [hfree] at hc; cases hc
  rcases hx with hk | hk
  · refine wpAny_storeName_local hk hn (fun h' hn' hs => ?_) hcls
    obtain ⟨oL, _, _, hoL, _⟩ := id hn
    refine h _ ⟨I.ok, I.os, I.bare, ⟨fun b o e n hb hx => ?_, fun b o e n hb hx => ?_, I.base.free, fun b o e hx => ?_, I.base.tups, I.base.frzs, I.base.tbls⟩, ⟨_, hn', fun j y v' e1 e2 e3 => ?_⟩, fun y c e => ?_, I.free, I.freeC, fun p hp => ?_, tracked ⟨oL, hoL, I.free⟩ hs, by simpa using I.len⟩ ⟨_, hs, .inl rfl⟩
    · exact (hs.2 b (Nat.ne_of_lt (Nat.lt_of_lt_of_le (Heap.lt_size e) I.ok.above))).trans (I.base.keep b o e n hb hx)
    · obtain ⟨sl, e1⟩ := I.base.slot b o e n hb hx
      exact ⟨sl, (hs.2 b (Nat.ne_of_lt (Nat.lt_of_lt_of_le (Heap.lt_size e) I.ok.above))).trans e1⟩
    · obtain ⟨o', e1⟩ := I.base.there b o e hx
      exact ⟨o', (hs.2 b (Nat.ne_of_lt (Nat.lt_of_lt_of_le (Heap.lt_size e) I.ok.above))).trans e1⟩
    · by_cases hj : j = i
      · subst hj
        rw [hi] at e1; cases e1
        rw [List.getElem?_set_self hiσ] at e2
        cases e2
        exact ⟨u, r, .inl ⟨hk, by simp⟩⟩
      · rw [List.getElem?_set_ne (Ne.symm hj)] at e2
        obtain ⟨u', r', q⟩ := hl j y v' e1 e2 e3
        refine ⟨u', r', ?_⟩
        rcases q with ⟨k, e⟩ | ⟨k, c, e, z⟩
        · refine .inl ⟨k, ?_⟩
          have : y ≠ x := fun e => hj (nodup_ix hN e1 (e ▸ hi))
          simp [this, e]
        · exact .inr ⟨k, c, e, z.sameBut hs (cne y c e)⟩
    · obtain ⟨w', z⟩ := I.cell y c e
      exact ⟨w', z.sameBut hs (cne y c e)⟩
    · obtain ⟨e, n, ne, nf, d⟩ := I.pin p hp
      exact ⟨(hs.2 p.1 ne).trans e, n, ne, nf, d⟩
  · have hfn : X.fn x = true := by
      rcases hf with z | z
      · exact z
      · rw [z] at hk; cases hk
    obtain ⟨c, hc⟩ := I.ok.has x (.inl hk)
    obtain ⟨w', z⟩ := I.cell x c hc
    refine wpAny_storeName_cell I.ok.kind hk hc z (fun h' hc' hs => ?_)
    obtain ⟨oc, hoc, hocd⟩ := id z
    refine h { s with heap := h' } ⟨I.ok, I.os, I.bare, ⟨fun b o e n hb hx => ?_, fun b o e n hb hx => ?_, I.base.free, fun b o e hx => ?_, I.base.tups, I.base.frzs, I.base.tbls⟩, ⟨m, hn.sameBut hs (Ne.symm (cne x c hc)), fun j y v' e1 e2 e3 => ?_⟩, fun y c' e => ?_, I.free, I.freeC, fun p hp => ?_, tracked ⟨oc, hoc, I.freeC x c hc⟩ hs, by simpa using I.len⟩ ⟨c, hs, .inr hc⟩
    · exact (hs.2 b (Nat.ne_of_lt (Nat.lt_of_lt_of_le (Heap.lt_size e) (I.ok.cab x c hfn hc)))).trans (I.base.keep b o e n hb hx)
    · obtain ⟨sl, e1⟩ := I.base.slot b o e n hb hx
      exact ⟨sl, (hs.2 b (Nat.ne_of_lt (Nat.lt_of_lt_of_le (Heap.lt_size e) (I.ok.cab x c hfn hc)))).trans e1⟩
    · obtain ⟨o', e1⟩ := I.base.there b o e hx
      exact ⟨o', (hs.2 b (Nat.ne_of_lt (Nat.lt_of_lt_of_le (Heap.lt_size e) (I.ok.cab x c hfn hc)))).trans e1⟩
    · by_cases hj : j = i
      · subst hj
        rw [hi] at e1; cases e1
        rw [List.getElem?_set_self hiσ] at e2
        cases e2
        exact ⟨u, r, .inr ⟨.inl hk, c, hc, hc'⟩⟩
      · rw [List.getElem?_set_ne (Ne.symm hj)] at e2
        obtain ⟨u', r', q⟩ := hl j y v' e1 e2 e3
        refine ⟨u', r', ?_⟩
        rcases q with q | ⟨k, c', e, z'⟩
        · exact .inl q
        · refine .inr ⟨k, c', e, z'.sameBut hs ?_⟩
          rintro rfl
          exact hj (nodup_ix hN e1 (I.ok.inj _ _ _ e hc ▸ hi))
    · by_cases hcc : c' = c
      · subst hcc; exact ⟨_, hc'⟩
      · obtain ⟨w2, z2⟩ := I.cell y c' e
        exact ⟨w2, z2.sameBut hs hcc⟩
    · obtain ⟨e, n, ne, nf, d⟩ := I.pin p hp
      refine ⟨(hs.2 p.1 ?_).trans e, n, ne, nf, d⟩
      intro q
      rw [q, hoc] at e
      have q' : oc = p.2 := Option.some.inj e
      exact d w' (by rw [← q']; exact hocd)
theorem store_ok {M : Model} {A : Around} {E : Value → Shared → Prop} {i : Nat} {x : Str} {v : V} {u : Value} {Q : Unit → Shared → Prop} (I : Inv X pins σ H s) (hN : X.N.Nodup) (hi : X.N[i]? = some x) (hx : Loc X.env.scope x) (r : RelV v u)
    (h : ∀ s', Inv X pins (σ.set i (some v)) H s' → Q () s') (hf : X.fn x = true ∨ X.env.scope.names.lookup x = some .local := by first | exact .inl rfl | exact .inr rfl | assumption) : wpAny M A (storeName X.env x u) Q E s :=
  store_ok2 I hN hi hx r (fun s' I' _ => h s' I') hf
theorem Inv.call' {s' : Shared} {ch : List Addr} (I : Inv X pins σ H s) (ho : s'.os = s.os) (u : Un (frs X.stack) ch H H' s.heap s'.heap) (hok : HOk X.prog X.w H' s'.heap) (hg : AllBare s'.gens)
    (hch : ∀ b ∈ ch, (b ∈ X.ex ∨ X.s₀.heap.objs.size ≤ b) ∧ b ≠ X.env.locals ∧ (∀ x c, X.env.cells.lookup x = some c → c ≠ b) ∧ ∀ p ∈ X.pn ++ pins, p.1 ≠ b) : Inv X pins σ H' s' := by
  obtain ⟨h', g', d', t', o'⟩ := s'
  have e : o' = s.os := ho
  subst e
  exact I.call (g' := g') (t' := t') (d' := d') u hok hg hch
end
abbrev XK := Value → Option Addr → Hp → Prop
abbrev St := List (Option V)
abbrev VK := V → Hp → Prop
abbrev TE := St → Hp → VK → Prop
abbrev TT := St → Hp → (Bool → Hp → Prop) → Prop
abbrev TA := St → Hp → (List V → Hp → Prop) → Prop
structure Ends where
  nx : St → Hp → Prop
  rt : VK
  bk : St → Hp → Prop := fun _ _ => False
  ct : St → Hp → Prop := fun _ _ => False
abbrev TS := Ends → St → Hp → Prop
def EP (X : Cx) (pins : List (Addr × Obj)) (σ : St) (Q : VK) (u : Value) (s' : Shared) : Prop := ∃ v H', Inv X pins σ H' s' ∧ RelV v u ∧ Q v H'
def TP (X : Cx) (pins : List (Addr × Obj)) (σ : St) (Q : Bool → Hp → Prop) (b : Bool) (s' : Shared) : Prop := ∃ H', Inv X pins σ H' s' ∧ Q b H'
def AP (X : Cx) (pins : List (Addr × Obj)) (σ : St) (Q : List V → Hp → Prop) (us : List Value) (s' : Shared) : Prop := ∃ vs H', Inv X pins σ H' s' ∧ Vals vs us ∧ Q vs H'
def SP (X : Cx) (pins : List (Addr × Obj)) (D : Ends) (f : Flow) (s' : Shared) : Prop :=
  match f with
  | .next => ∃ σ' H', Inv X pins σ' H' s' ∧ D.nx σ' H'
  | .brk => ∃ σ' H', Inv X pins σ' H' s' ∧ D.bk σ' H'
  | .cont => ∃ σ' H', Inv X pins σ' H' s' ∧ D.ct σ' H'
  | .ret u => ∃ v σ' H', Inv X pins σ' H' s' ∧ RelV v u ∧ D.rt v H'
def PE (X : Cx) (e : Expr) (t : TE) : Prop :=
  ∀ (pins : List (Addr × Obj)) (s : Shared) (σ : St) (H : Hp) (Q : VK), Inv X pins σ H s → t σ H Q → wpAny (model X.prog X.w) X.A (eval e X.env) (EP X pins σ Q) X.xe s
def PT (X : Cx) (e : Expr) (t : TT) : Prop :=
  ∀ (pins : List (Addr × Obj)) (s : Shared) (σ : St) (H : Hp) (Q : Bool → Hp → Prop), Inv X pins σ H s → t σ H Q → wpAny (model X.prog X.w) X.A (isTrue e X.env (eval e X.env)) (TP X pins σ Q) X.xe s
def PW (X : Cx) (e : Expr) (t : TT) : Prop :=
  ∀ (whole : Sem Value) (pins : List (Addr × Obj)) (s : Shared) (σ : St) (H : Hp) (Q : Bool → Hp → Prop), Inv X pins σ H s → t σ H Q → wpAny (model X.prog X.w) X.A (isTrue e X.env whole) (TP X pins σ Q) X.xe s
theorem PW.pt {X : Cx} {e : Expr} {t : TT} (h : PW X e t) : PT X e t := h _
def PA (X : Cx) (es : List Expr) (t : TA) : Prop :=
  ∀ (pos : Pos) (pins : List (Addr × Obj)) (s : Shared) (σ : St) (H : Hp) (Q : List V → Hp → Prop), Inv X pins σ H s → t σ H Q → wpAny (model X.prog X.w) X.A (spliced (backTo pos (starEach es X.env))) (AP X pins σ Q) X.xe s
def PS (X : Cx) (st : Stmt) (t : TS) : Prop :=
  ∀ (pins : List (Addr × Obj)) (s : Shared) (σ : St) (H : Hp) (D : Ends), Inv X pins σ H s → t D σ H → wpAny (model X.prog X.w) X.A (exec st X.env) (SP X pins D) X.xe s
def PSs (X : Cx) (st : List Stmt) (t : TS) : Prop :=
  ∀ (pins : List (Addr × Obj)) (s : Shared) (σ : St) (H : Hp) (D : Ends), Inv X pins σ H s → t D σ H → wpAny (model X.prog X.w) X.A (execs st X.env) (SP X pins D) X.xe s
theorem thn {α : Type} {t : Sem α} {Q Q' : α → Shared → Prop} {M : Model} {A : Around} {E : Value → Shared → Prop} {s : Shared} (h : wpAny M A t Q E s) (hQ : ∀ a s, Q a s → Q' a s) : wpAny M A t Q' E s := wpAny_mono h hQ fun _ _ x => x
end L2
namespace L2
open PySem PySem.Spec PyProof.Rows
section
variable {X : Cx}
def tVar (i : Nat) : TE := fun σ H Q => ∃ v, σ[i]? = some (some v) ∧ Q v H
def tC (v : V) : TE := fun _ H Q => Q v H
theorem pe_var {i : Nat} {x : Str} {pos : Pos} (hN : X.N[i]? = some x) (hv : Vis X.env.scope x) (hd : (x == ("__debug__" : Str)) = false := by decide) (hcd : (x == ("__classdict__" : Str)) = false := by decide) : PE X (.Name x pos) (tVar i) := by
  intro pins s σ H Q I h
  obtain ⟨v, e, h⟩ := h
  obtain ⟨m, hn, hl⟩ := I.loc
  obtain ⟨u, r, l⟩ := hl i x v hN e hv
  have fin : EP X pins σ Q u s := ⟨v, H, I, r, h⟩
  rcases l with ⟨hk, hm⟩ | ⟨hk, c, hc, hcell⟩
  · exact wpAny_Name (wpAny_loadName_local I.ok.kind hk hn hm fin) hd
  · rcases hk with hk | hk
    · exact wpAny_Name (wpAny_loadName_cell I.ok.kind hk hc hcell fin) hd
    · exact wpAny_Name (wpAny_loadName_free I.ok.kind hk hc hcell fin hcd) hd
theorem pe_int {i j pos} : PE X (.Constant (.int i) j pos) (tC (.int i)) := fun _ _ _ H _ I h => wpAny_Constant_int ⟨.int i, H, I.tok _, ⟨_, rfl⟩, h⟩
theorem pe_bl {b j pos} : PE X (.Constant (.bool b) j pos) (tC (.bl b)) := fun _ _ _ H _ I h => Constant_bool ⟨.bl b, H, I, rfl, h⟩
theorem pe_non {j pos} : PE X (.Constant .none j pos) (tC .non) := fun _ _ _ H _ I h => Constant_none ⟨.non, H, I, rfl, h⟩
theorem pe_str {x j pos} : PE X (.Constant (.str x) j pos) (tC (.str x)) := fun _ _ _ H _ I h => Calls.Constant_str ⟨.str x, H, I.tok _, ⟨_, rfl⟩, h⟩
def Gl (X : Cx) (x : Str) : Prop := X.env.kindOf x = some .globalImplicit
theorem ld_glob {E : Value → Shared → Prop} {pins : List (Addr × Obj)} {s : Shared} {σ : St} {H : Hp} {x : Str} {u : Value} {pos : Pos} {Q : Value → Shared → Prop} (I : Inv X pins σ H s) (hg : Gl X x) (hm : X.mg x = some u) (h : Q u s)
    (hd : (x == ("__debug__" : Str)) = false := by decide) : wpAny (model X.prog X.w) X.A (eval (.Name x pos) X.env) Q E s :=
  Calls.Name_function_global I.ok.kind hg (Calls.loadGlobal_global (by rw [I.ok.glob]; exact I.mod.glob.keeps I.bk) hm h) hd
theorem ld_blt {E : Value → Shared → Prop} {pins : List (Addr × Obj)} {s : Shared} {σ : St} {H : Hp} {x : Str} {u : Value} {pos : Pos} {Q : Value → Shared → Prop} (I : Inv X pins σ H s) (hg : Gl X x) (hm : X.mg x = none) (hv : bootBuiltins x = some u) (h : Q u s)
    (hn : x ≠ "__name__" := by decide) (hd : (x == ("__debug__" : Str)) = false := by decide) : wpAny (model X.prog X.w) X.A (eval (.Name x pos) X.env) Q E s := by
  obtain ⟨mb, h1, h2⟩ := I.mod.blt
  exact Calls.Name_function_global I.ok.kind hg (Calls.loadGlobal_builtin (by rw [I.ok.glob]; exact I.mod.glob.keeps I.bk) hm (by rw [I.ok.blt]; exact h1.keeps I.bk) ((h2 x hn).trans hv) h) hd
theorem pe_glob {x : Str} {v : V} {u : Value} {pos : Pos} (hg : Gl X x) (hm : X.mg x = some u) (r : RelV v u) (hd : (x == ("__debug__" : Str)) = false := by decide) : PE X (.Name x pos) (tC v) :=
  fun _ _ _ H _ I h => ld_glob I hg hm ⟨v, H, I, r, h⟩ hd
theorem pe_bltn {x : Str} {v : V} {u : Value} {pos : Pos} (hg : Gl X x) (hm : X.mg x = none) (hv : bootBuiltins x = some u) (r : RelV v u) (hn : x ≠ "__name__" := by decide) (hd : (x == ("__debug__" : Str)) = false := by decide) : PE X (.Name x pos) (tC v) :=
  fun _ _ _ H _ I h => ld_blt I hg hm hv ⟨v, H, I, r, h⟩ hn hd
variable {a b : Expr} {ta tb : TE} {pos : Pos}
def tB (t : TE) : TT := fun σ H Q => t σ H fun x H1 => ∃ c, x = .bl c ∧ Q c H1
theorem pt_val {e : Expr} {t : TE} (h : PE X e t) (he : ∀ whole, isTrue e X.env whole = (do let v ← whole; standAt e.pos; holding [v] (truthy v)) := by intro _; rfl) : PT X e (tB t) := by
  intro pins s σ H Q I hw
  refine isTrue_plain (thn (h pins s σ H _ I hw) fun v s1 ⟨x, H1, I1, r1, q1⟩ => ?_) (he _)
  obtain ⟨d, rfl, q⟩ := q1
  cases r1
  exact wpAny_truthy_bool ⟨H1, I1, q⟩
variable {tA tB' : TT} {rest : List Expr}
def tAnd (t u : TT) : TT := fun σ H Q => t σ H fun c H1 => if c = true then u σ H1 Q else Q false H1
def tOr (t u : TT) : TT := fun σ H Q => t σ H fun c H1 => if c = true then Q true H1 else u σ H1 Q
def tNot (t : TT) : TT := fun σ H Q => t σ H fun c H1 => Q (!c) H1
theorem pw_and1 (ha : PT X a tA) : PW X (.BoolOp .And [a] pos) tA := by
  intro wh pins s σ H Q I h
  refine isTrue_and (thn (ha pins s σ H Q I h) fun c s1 e => ?_)
  cases c with
  | true => exact isTrue_and_nil e
  | false => exact e
theorem pw_or1 (ha : PT X a tA) : PW X (.BoolOp .Or [a] pos) tA := by
  intro wh pins s σ H Q I h
  refine isTrue_or (thn (ha pins s σ H Q I h) fun c s1 e => ?_)
  cases c with
  | false => exact isTrue_or_nil e
  | true => exact e
theorem pw_and (ha : PT X a tA) (hb : PW X (.BoolOp .And (b :: rest) pos) tB') : PW X (.BoolOp .And (a :: b :: rest) pos) (tAnd tA tB') := by
  intro wh pins s σ H Q I h
  refine isTrue_and (thn (ha pins s σ H _ I h) fun c s1 ⟨H1, I1, q1⟩ => ?_)
  cases c with
  | true => exact hb wh pins s1 σ H1 Q I1 q1
  | false => exact ⟨H1, I1, q1⟩
theorem pw_or (ha : PT X a tA) (hb : PW X (.BoolOp .Or (b :: rest) pos) tB') : PW X (.BoolOp .Or (a :: b :: rest) pos) (tOr tA tB') := by
  intro wh pins s σ H Q I h
  refine isTrue_or (thn (ha pins s σ H _ I h) fun c s1 ⟨H1, I1, q1⟩ => ?_)
  cases c with
  | true => exact ⟨H1, I1, q1⟩
  | false => exact hb wh pins s1 σ H1 Q I1 q1
theorem pt_not (ha : PT X a tA) : PT X (.UnaryOp .Not a pos) (tNot tA) := by
  intro pins s σ H Q I h
  exact isTrue_not (ha pins s σ H (fun c H1 => Q (!c) H1) I h)
def tAndV (ta tb : TE) : TE := fun σ H Q => ta σ H fun x H1 => ∃ c, x = .bl c ∧ if c = true then tb σ H1 Q else Q (.bl false) H1
def tNotV (ta : TE) : TE := fun σ H Q => ta σ H fun x H1 => ∃ c, x = .bl c ∧ Q (.bl (!c)) H1
theorem pe_one {op} {t : TE} (h : PE X a t) : PE X (.BoolOp op [a] pos) t := fun pins s σ H Q I hw => BoolOp_one (h pins s σ H Q I hw)
theorem pe_and (ha : PE X a ta) (hb : PE X (.BoolOp .And (b :: rest) pos) tb) : PE X (.BoolOp .And (a :: b :: rest) pos) (tAndV ta tb) := by
  intro pins s σ H Q I h
  refine BoolOp_and (thn (ha pins s σ H _ I h) fun v s1 ⟨x, H1, I1, r1, q1⟩ => ?_)
  obtain ⟨c, rfl, q1⟩ := q1
  cases r1
  refine wpAny_truthy_bool ?_
  cases c with
  | true => exact hb pins s1 σ H1 Q I1 q1
  | false => exact ⟨.bl false, H1, I1, rfl, q1⟩
theorem pe_not (ha : PE X a ta) : PE X (.UnaryOp .Not a pos) (tNotV ta) := by
  intro pins s σ H Q I h
  refine UnaryOp_ (thn (ha pins s σ H _ I h) fun v s1 ⟨x, H1, I1, r1, q1⟩ => ?_)
  obtain ⟨c, rfl, q1⟩ := q1
  cases r1
  exact not_of (wpAny_truthy_bool ⟨.bl (!c), H1, I1, rfl, q1⟩)
def tIf (t : TT) (ta tb : TE) : TE := fun σ H Q => t σ H fun c H1 => if c = true then ta σ H1 Q else tb σ H1 Q
theorem pe_ifExp {c : Expr} (hc : PT X c tA) (ha : PE X a ta) (hb : PE X b tb) : PE X (.IfExp c a b pos) (tIf tA ta tb) := by
  intro pins s σ H Q I h
  refine wpAny_IfExp (thn (hc pins s σ H _ I h) fun d s1 ⟨H1, I1, q1⟩ => ?_)
  cases d with
  | true => exact ha pins s1 σ H1 Q I1 q1
  | false => exact hb pins s1 σ H1 Q I1 q1
end
end L2
namespace L2
open PySem PySem.Spec PyProof.Rows
def SqL (K : PySem.W.Frag) (H : Hp) (a : Addr) (xs : List V) : Prop :=
  Rd H a (.lst xs) ∨
    ∃ (o : Obj) (its : Array Value) (n : Nat), K.lookup a = some o ∧ o.cls = .type "list" ∧ o.dict = none ∧ o.data = .seq its n ∧ its.size ≤ sizeLine ∧ Vals xs its.toList
def SqT (K : PySem.W.Frag) (H : Hp) (a : Addr) (xs : List V) : Prop :=
  Rd H a (.tup xs) ∨
    ∃ (o : Obj) (its : Array Value) (n : Nat), K.lookup a = some o ∧ o.cls = .type "tuple" ∧ o.data = .seq its n ∧ its.size ≤ sizeLine ∧ Vals xs its.toList
def absV : Value → Option V
  | .none => some .non
  | .bool b => some (.bl b)
  | .int i _ => some (.int i)
  | .str x _ => some (.str x)
  | .bytes b _ => some (.byt b)
  | .float b _ => some (.flt b)
  | .ref a => some (.ref a)
  | .type n => some (.ty n)
  | _ => none
theorem RelV.abs {x : V} {u : Value} (r : RelV x u) : absV u = some x := by
  cases x with
  | non => cases r; rfl
  | bl _ => cases r; rfl
  | int _ => obtain ⟨t, rfl⟩ := r; rfl
  | str _ => obtain ⟨t, rfl⟩ := r; rfl
  | byt _ => obtain ⟨t, rfl⟩ := r; rfl
  | flt _ => obtain ⟨t, rfl⟩ := r; rfl
  | ref _ => cases r; rfl
  | ty _ => cases r; rfl
theorem RelV.inj {x y : V} {u : Value} (r : RelV x u) (q : RelV y u) : x = y := Option.some.inj (r.abs.symm.trans q.abs)
theorem Vals.inj : ∀ {xs ys : List V} {us : List Value}, Vals xs us → Vals ys us → xs = ys
  | _, _, _, .nil, .nil => rfl
  | _, _, _, .cons r t, .cons r' t' => by rw [r.inj r', Vals.inj t t']
section
variable {X : Cx} {pins : List (Addr × Obj)} {σ : St} {H : Hp} {s : Shared} {a : Addr} {xs ys : List V}
theorem SqL.of {K : PySem.W.Frag} (h : H a = some (.lst xs)) : SqL K H a xs := .inl (.inl h)
theorem SqT.of {K : PySem.W.Frag} (h : H a = some (.tup xs)) : SqT K H a xs := .inl (.inl h)
theorem Inv.list (I : Inv X pins σ H s) (h : SqL X.K H a xs) : ∃ its : List Value, Vals xs its ∧ PlainL s.heap a its.toArray ∧ xs.length ≤ sizeLine := by
  rcases h with h | ⟨o, its, n, hk, hc, hd, hs, hz, r⟩
  · obtain ⟨z, its, n, r, e⟩ := h.ok I.hok
    exact ⟨its, r, ⟨_, n, e, rfl, rfl, rfl⟩, z⟩
  · refine ⟨its.toList, r, ⟨o, n, I.kIn a o hk, hc, hd, by simpa using hs⟩, ?_⟩
    have e := r.length
    simp only [Array.length_toList] at e
    omega
theorem Inv.tuple (I : Inv X pins σ H s) (h : SqT X.K H a xs) : ∃ its : List Value, Vals xs its ∧ IsTup s.heap a its.toArray ∧ xs.length ≤ sizeLine := by
  rcases h with h | ⟨o, its, n, hk, hc, hs, hz, r⟩
  · obtain ⟨z, its, r, p⟩ := h.ok I.hok
    exact ⟨its, r, p, z⟩
  · refine ⟨its.toList, r, ⟨o, I.kIn a o hk, hc, n, by simpa using hs⟩, ?_⟩
    have e := r.length
    simp only [Array.length_toList] at e
    omega
theorem Inv.list_inj (I : Inv X pins σ H s) (h : SqL X.K H a xs) (h' : SqL X.K H a ys) : xs = ys := by
  obtain ⟨its, r, ⟨o, n, e, _, _, d⟩, _⟩ := I.list h
  obtain ⟨its', r', ⟨o', n', e', _, _, d'⟩, _⟩ := I.list h'
  rw [e] at e'; cases e'
  rw [d] at d'
  injection d' with d1 _
  have : its = its' := by simpa using congrArg Array.toList d1
  subst this
  exact r.inj r'
theorem Inv.tuple_inj (I : Inv X pins σ H s) (h : SqT X.K H a xs) (h' : SqT X.K H a ys) : xs = ys := by
  obtain ⟨its, r, ⟨o, e, _, n, d⟩, _⟩ := I.tuple h
  obtain ⟨its', r', ⟨o', e', _, n', d'⟩, _⟩ := I.tuple h'
  rw [e] at e'; cases e'
  rw [d] at d'
  injection d' with d1 _
  have : its = its' := by simpa using congrArg Array.toList d1
  subst this
  exact r.inj r'
end
abbrev Cx.wish (X : Cx) (E : Value → Shared → Prop) : Cx := { X with xe := E }
abbrev Cx.nox (X : Cx) : Cx := X.wish fun _ _ => False
theorem Cx.Ok.wish {X : Cx} (ok : X.Ok) (E : Value → Shared → Prop) : (X.wish E).Ok :=
  ⟨ok.mod, ok.kind, ok.glob, ok.blt, ok.above, ok.inj, ok.has, ok.cab, ok.hd, ok.frames, ok.stk, ok.exf, ok.bs, ok.bsz, ok.noex, ok.exfs, ok.funs, ok.frf⟩
theorem Cx.Ok.unwish {X : Cx} {E : Value → Shared → Prop} (ok : (X.wish E).Ok) : X.Ok :=
  ⟨ok.mod, ok.kind, ok.glob, ok.blt, ok.above, ok.inj, ok.has, ok.cab, ok.hd, ok.frames, ok.stk, ok.exf, ok.bs, ok.bsz, ok.noex, ok.exfs, ok.funs, ok.frf⟩
section
variable {X : Cx} {pins : List (Addr × Obj)} {σ : St} {H : Hp} {s : Shared} {E : Value → Shared → Prop}
theorem Inv.wish (I : Inv X pins σ H s) (E : Value → Shared → Prop) : Inv (X.wish E) pins σ H s := ⟨I.ok.wish E, I.os, I.bare, I.base, I.loc, I.cell, I.free, I.freeC, I.pin, I.hok, I.len⟩
theorem Inv.unwish (I : Inv (X.wish E) pins σ H s) : Inv X pins σ H s := ⟨I.ok.unwish, I.os, I.bare, I.base, I.loc, I.cell, I.free, I.freeC, I.pin, I.hok, I.len⟩
theorem SP.unwish {D : Ends} {f : Flow} {s' : Shared} (h : SP (X.wish E) pins D f s') : SP X pins D f s' := by
  cases f with
  | next => obtain ⟨σ', H', I, q⟩ := h; exact ⟨σ', H', I.unwish, q⟩
  | brk => obtain ⟨σ', H', I, q⟩ := h; exact ⟨σ', H', I.unwish, q⟩
  | cont => obtain ⟨σ', H', I, q⟩ := h; exact ⟨σ', H', I.unwish, q⟩
  | ret u => obtain ⟨v, σ', H', I, r, q⟩ := h; exact ⟨v, σ', H', I.unwish, r, q⟩
theorem PSs.nox {st : List Stmt} {t : TS} (h : PSs X.nox st t) : PSs X st t := fun pins s σ H D I hw =>
  wpAny_mono (h pins s σ H D (I.wish _) hw) (fun _ _ q => q.unwish) fun _ _ z => False.elim z
end
section
variable {X : Cx} {st : Stmt} {rest : List Stmt} {t u : TS} {e : Expr} {te : TE} {pos : Pos}
def tNext : TS := fun D σ H => D.nx σ H
def tSeq (t u : TS) : TS := fun D σ H => t { D with nx := u D } σ H
theorem pss_nil : PSs X [] tNext := fun _ _ σ H _ I h => wpAny_execs_nil ⟨σ, H, I, h⟩
theorem pss_cons (h1 : PS X st t) (h2 : PSs X rest u) : PSs X (st :: rest) (tSeq t u) := by
  intro pins s σ H D I h
  refine wpAny_execs_cons (thn (h1 pins s σ H { D with nx := u D } I h) fun f s1 q => ?_)
  cases f with
  | next =>
    obtain ⟨σ', H', I', q⟩ := q
    exact h2 pins s1 σ' H' D I' q
  | ret v => exact q
  | brk => exact q
  | cont => exact q
theorem pss_one (h1 : PS X st t) : PSs X [st] t := by
  intro pins s σ H D I h
  refine wpAny_execs_cons (thn (h1 pins s σ H D I h) fun f s1 q => ?_)
  cases f with
  | next => exact wpAny_execs_nil q
  | ret v => exact q
  | brk => exact q
  | cont => exact q
theorem Inv.quiet {pins : List (Addr × Obj)} {σ : St} {H : Hp} {s : Shared} (I : Inv X pins σ H s) : interactive X.env = false := by simp [interactive, I.ok.kind]
def tDrop (te : TE) : TS := fun D σ H => te σ H fun _ H1 => D.nx σ H1
theorem ps_expr (he : PE X e te) (hs : swapsWith e none pos.line X.env = pure false := by rfl) : PS X (.Expr e pos) (tDrop te) := by
  intro pins s σ H D I h
  exact wpAny_Expr_any (thn (he pins s σ H _ I h) fun v s1 ⟨x, H1, I1, r1, q1⟩ => ⟨σ, H1, I1, q1⟩) I.quiet hs
def tRet (te : TE) : TS := fun D σ H => te σ H D.rt
theorem ps_ret (he : PE X e te) : PS X (.Return (some e) pos) (tRet te) := by
  intro pins s σ H D I h
  exact wpAny_Return_some (thn (he pins s σ H _ I h) fun v s1 ⟨x, H1, I1, r1, q1⟩ => ⟨x, σ, H1, I1, r1, q1⟩)
def tIfS (c : TT) (t u : TS) : TS := fun D σ H => c σ H fun b H1 => if b = true then t D σ H1 else u D σ H1
theorem ps_if {c : Expr} {a b : List Stmt} {tc : TT} (hc : PT X c tc) (ha : PSs X a t) (hb : PSs X b u) : PS X (.If c a b pos) (tIfS tc t u) := by
  intro pins s σ H D I h
  refine wpAny_If (thn (hc pins s σ H _ I h) fun d s1 ⟨H1, I1, q1⟩ => ?_)
  cases d with
  | true => exact ha pins s1 σ H1 D I1 q1
  | false => exact hb pins s1 σ H1 D I1 q1
def tNever : TS := fun _ _ _ => False
theorem ps_never : PS X st tNever := fun _ _ _ _ _ _ h => h.elim
end
abbrev TG := V → St → Hp → (St → Hp → Prop) → Prop
abbrev TGs := List V → St → Hp → (St → Hp → Prop) → Prop
def PG (X : Cx) (target : Expr) (t : TG) : Prop :=
  ∀ (pins : List (Addr × Obj)) (s : Shared) (σ : St) (H : Hp) (v : V) (u : Value) (Q : St → Hp → Prop), Inv X pins σ H s → RelV v u → t v σ H Q →
    wpAny (model X.prog X.w) X.A (assign target X.env u) (fun _ s' => ∃ σ' H', Inv X pins σ' H' s' ∧ Q σ' H') X.xe s
def PGs (X : Cx) (ts : List Expr) (t : TGs) : Prop :=
  ∀ (pins : List (Addr × Obj)) (s : Shared) (σ : St) (H : Hp) (vs : List V) (us : List Value) (Q : St → Hp → Prop), Inv X pins σ H s → Vals vs us → t vs σ H Q →
    wpAny (model X.prog X.w) X.A (assignInOrder ((assignEach ts X.env).map (·.2)) us) (fun _ s' => ∃ σ' H', Inv X pins σ' H' s' ∧ Q σ' H') X.xe s
abbrev TSet := V → V → V → Hp → (Hp → Prop) → Prop
def PSet (X : Cx) (t : TSet) : Prop :=
  ∀ (pins : List (Addr × Obj)) (s : Shared) (σ : St) (H : Hp) (o i v : V) (ov iv u : Value) (Q : Hp → Prop), Inv X pins σ H s → RelV o ov → RelV i iv → RelV v u → t o i v H Q →
    wpAny (model X.prog X.w) X.A (setItem ov iv u) (fun _ s' => ∃ H', Inv X pins σ H' s' ∧ Q H') X.xe s
section
variable {X : Cx} {pos : Pos}
def gName (i : Nat) : TG := fun v σ H Q => Q (σ.set i (some v)) H
theorem pg_name {i : Nat} {x : Str} (hN : X.N.Nodup) (hi : X.N[i]? = some x) (hx : Loc X.env.scope x) (hf : X.fn x = true ∨ X.env.scope.names.lookup x = some .local := by first | exact .inl rfl | exact .inr rfl | assumption) : PG X (.Name x pos) (gName i) := by
  intro pins s σ H v u Q I r h
  exact wpAny_assign_Name (store_ok I hN hi hx r (fun s' I' => ⟨_, H, I', h⟩) hf)
def gNil : TGs := fun vs σ H Q => vs = [] ∧ Q σ H
def gCons (t : TG) (u : TGs) : TGs := fun vs σ H Q => ∃ v r, vs = v :: r ∧ t v σ H fun σ' H' => u r σ' H' Q
theorem pgs_nil : PGs X [] gNil := by
  intro pins s σ H vs us Q I r h
  obtain ⟨e, h⟩ := h
  subst e
  cases r
  exact assignInOrder_nil ⟨σ, H, I, h⟩
theorem pgs_cons {e : Expr} {es : List Expr} {t : TG} {u : TGs} (h1 : PG X e t) (h2 : PGs X es u)
    (hs : (assignEach (e :: es) X.env).map (·.2) = assign e X.env :: (assignEach es X.env).map (·.2) := by rfl) : PGs X (e :: es) (gCons t u) := by
  intro pins s σ H vs us Q I r h
  obtain ⟨v, vr, e1, h⟩ := h
  subst e1
  cases r with
  | cons r rr =>
    rw [hs]
    refine assignInOrder_cons (thn (h1 pins s σ H _ _ _ I r h) fun _ s1 ⟨σ1, H1, I1, q1⟩ => ?_)
    exact h2 pins s1 σ1 H1 _ _ Q I1 rr q1
def gTup (K : PySem.W.Frag) (n : Nat) (t : TGs) : TG := fun v σ H Q => ∃ a xs, v = .ref a ∧ SqT K H a xs ∧ xs.length = n ∧ t xs σ H Q
theorem pg_tup {es : List Expr} {k : Nat} {t : TGs} {n : Nat} (hc : X.calm = true) (h : PGs X es t)
    (hn : (assignEach es X.env).length = n := by rfl) (hst : (assignEach es X.env).findIdx? (·.1) = none := by rfl) : PG X (.Tuple es k pos) (gTup X.K n t) := by
  intro pins s σ H v u Q I r hw
  obtain ⟨a, xs, e1, hq, hl, hw⟩ := hw
  subst e1
  cases r
  obtain ⟨its, rv, ht, hz⟩ := I.tuple hq
  refine assign_Tuple_tuple (I.ok.hd hc) ht (by simp [hn, ← hl, rv.length]) hst fun h' hx => ?_
  have I1 : Inv X pins σ H { s with heap := h' } := I.kept (t' := s.toks) fun b o e => hx b o (Nat.ne_of_lt (Heap.lt_size e)) e
  exact h pins _ σ H xs _ Q I1 (by simpa using rv) hw
def gSub (to ti : TE) (t : TSet) : TG := fun v σ H Q => to σ H fun o H1 => ti σ H1 fun i H2 => t o i v H2 fun H3 => Q σ H3
theorem pg_sub {o i : Expr} {to ti : TE} {t : TSet} (ho : PE X o to) (hi : PE X i ti) (hs : PSet X t)
    (ha : ∀ v, assign (.Subscript o i pos) X.env v = (do
      let ov ← holding [v] (eval o X.env)
      let iv ← holding [v, ov] (eval i X.env)
      standAt pos
      holding [v, ov, iv] (setItem ov iv v)
      release [v, ov, iv] []) := by intro _; rfl) : PG X (.Subscript o i pos) (gSub to ti t) := by
  intro pins s σ H v u Q I r h
  rw [ha]
  refine wpAny_bind (wpAny_holding (thn (ho pins s σ H _ I h) fun ov s1 ⟨x, H1, I1, r1, q1⟩ => ?_))
  refine wpAny_bind (wpAny_holding (thn (hi pins s1 σ H1 _ I1 q1) fun iv s2 ⟨y, H2, I2, r2, q2⟩ => ?_))
  refine wpAny_bind (wpAny_standAt (wpAny_bind (wpAny_holding (thn (hs pins s2 σ H2 x y v ov iv u _ I2 r1 r2 r q2) fun _ s3 ⟨H3, I3, q3⟩ => ?_))))
  exact wpAny_release ⟨σ, H3, I3, q3⟩
def tAsg (te : TE) (g : TG) : TS := fun D σ H => te σ H fun x H1 => g x σ H1 D.nx
theorem ps_asg {tg e : Expr} {te : TE} {g : TG} (he : PE X e te) (hg : PG X tg g) (hs : swapsWithSole [tg] e pos.line X.env = pure false := by rfl) (hw : swappedStores [tg] e X.env = pure none := by rfl)
    (h1 : (assignEach [tg] X.env).map (·.2) = [assign tg X.env] := by rfl) : PS X (.Assign [tg] e pos) (tAsg te g) := by
  intro pins s σ H D I h
  refine wpAny_Assign_stores (thn (he pins s σ H _ I h) fun v s1 ⟨x, H1, I1, r1, q1⟩ => ?_) hs hw
  rw [h1]
  exact thn (hg pins s1 σ H1 x v _ I1 r1 q1) fun _ s2 q => q
theorem ps_set {i : Nat} {x : Str} {e : Expr} {te : TE} {pos' : Pos} (hN : X.N.Nodup) (hi : X.N[i]? = some x) (hx : Loc X.env.scope x) (he : PE X e te) (hs : swapsWith e (some (.Name x pos')) pos.line X.env = pure false := by rfl) (hf : X.fn x = true ∨ X.env.scope.names.lookup x = some .local := by first | exact .inl rfl | exact .inr rfl | assumption) :
    PS X (.Assign [.Name x pos'] e pos) (tAsg te (gName i)) := by
  intro pins s σ H D I h
  refine wpAny_Assign_Name (thn (he pins s σ H _ I h) fun v s1 ⟨y, H1, I1, r1, q1⟩ => ?_) hs
  exact store_ok I1 hN hi hx r1 (fun s2 I2 => ⟨_, H1, I2, q1⟩) hf
end
section
variable {X : Cx} {pos : Pos}
def tWhile (c : TT) (tb : TS) : TS := fun D σ H => ∃ W : Nat → St → Hp → Prop, (∃ m, W m σ H) ∧ ∀ m σ H, W m σ H →
  c σ H fun b H1 => if b = true then ∃ N : St → Hp → Prop, (∀ σ' H', N σ' H' → ∃ m', m' < m ∧ W m' σ' H') ∧ tb { D with nx := N, ct := N, bk := D.nx } σ H1 else D.nx σ H1
theorem ps_while {c : Expr} {body : List Stmt} {tc : TT} {tb : TS} (hp : PassesOwn (model X.prog X.w) X.A X.env X.xe) (hc : PT X c tc) (hb : PSs X body tb) : PS X (.While c body [] pos) (tWhile tc tb) := by
  intro pins s σ H D I h
  obtain ⟨W, ⟨m0, w0⟩, turn⟩ := h
  refine wpAny_While (codeAny_whileLoop (fun n s' => ∃ σ' H', Inv X pins σ' H' s' ∧ W n σ' H') ?_ m0 ⟨σ, H, I, w0⟩)
  rintro n s1 ⟨σ1, H1, I1, w1⟩
  refine wpAny_passesOwn hp (thn (hc pins s1 σ1 H1 _ I1 (turn n σ1 H1 w1)) fun b s2 ⟨H2, I2, q2⟩ => ?_)
  cases b with
  | true =>
    obtain ⟨N, hN, q2⟩ := q2
    rw [if_pos rfl]
    refine wpAny_passesOwn hp (thn (hb pins s2 σ1 H2 _ I2 q2) fun f s3 q3 => ?_)
    cases f with
    | next =>
      obtain ⟨σ3, H3, I3, n3⟩ := q3
      obtain ⟨m', hm, w3⟩ := hN σ3 H3 n3
      exact ⟨m', hm, σ3, H3, I3, w3⟩
    | cont =>
      obtain ⟨σ3, H3, I3, n3⟩ := q3
      obtain ⟨m', hm, w3⟩ := hN σ3 H3 n3
      exact ⟨m', hm, σ3, H3, I3, w3⟩
    | brk => exact q3
    | ret v => exact q3
  | false =>
    rw [if_neg Bool.false_ne_true]
    exact wpAny_execs_nil ⟨σ1, H2, I2, q2⟩
end
structure It where
  go : Nat → Hp → Prop
  yld : Nat → Hp → V → Hp → Prop
  stop : Nat → Hp → Prop
def FpOk (X : Cx) (pins : List (Addr × Obj)) (H : Hp) (b : Addr) : Prop :=
  H b = none ∧ b ≠ X.env.locals ∧ b ∉ X.fs ∧ (b ∈ X.ex ∨ X.s₀.heap.objs.size ≤ b) ∧ (∀ x c, X.env.cells.lookup x = some c → c ≠ b) ∧ ∀ p ∈ X.pn ++ pins, p.1 ≠ b
theorem Inv.fpOk {X : Cx} {pins : List (Addr × Obj)} {σ : St} {H H' : Hp} {s : Shared} {b : Addr} (I : Inv X pins σ H s) (hb : s.heap.objs.size ≤ b) (hn : H' b = none) : FpOk X pins H' b := by
  refine ⟨hn, Nat.ne_of_gt (Nat.lt_of_lt_of_le I.lt hb), I.nofs hb, .inr (Nat.le_trans I.sz hb), fun x c e z => ?_, fun p hp z => ?_⟩
  · obtain ⟨v, q⟩ := I.cell x c e
    exact absurd (Nat.lt_of_lt_of_le q.lt (by rw [z]; exact hb)) (Nat.lt_irrefl _)
  · exact absurd (Nat.lt_of_lt_of_le (Heap.lt_size (I.pin p hp).1) (by rw [z]; exact hb)) (Nat.lt_irrefl _)
structure Turn (P : Program) (w : World) (K : PySem.W.Frag) (tg : Expr) (J : It) (fp : List Addr) (it : Addr) (tn : Nat → Heap → Prop) : Prop where
  mem : it ∈ fp
  obj : ∀ i h, tn i h → ∀ b ∈ fp, ∃ o, h.get? b = some o ∧ ∀ v, o.data ≠ .cell v
  keep : ∀ i h h', tn i h → (∀ b ∈ fp, ∀ o, h.get? b = some o → h'.get? b = some o) → tn i h'
  item : ∀ (X : Cx), X.prog = P → X.w = w → X.K = K → X.calm = true → ∀ (i : Nat) (pins : List (Addr × Obj)) (s : Shared) (σ : St) (H : Hp) (E : Value → Shared → Prop), Inv X pins σ H s → (∀ b ∈ fp, FpOk X pins H b) → tn i s.heap → J.go i H →
    wpAny (model P w) X.A (pyNext (.ref it)) (fun r s1 => ∃ u, r = some u ∧
      wpAny (model P w) X.A (letOwnedTupleGo tg (.ref it) u) (fun _ s2 => ∃ x H', Inv X pins σ H' s2 ∧ RelV x u ∧ J.yld i H x H' ∧ tn (i + 1) s2.heap ∧ ∀ b ∈ fp, H' b = none) E s1) E s
  done : ∀ (X : Cx), X.prog = P → X.w = w → X.K = K → X.calm = true → ∀ (i : Nat) (pins : List (Addr × Obj)) (s : Shared) (σ : St) (H : Hp) (E : Value → Shared → Prop), Inv X pins σ H s → (∀ b ∈ fp, FpOk X pins H b) → tn i s.heap → J.stop i H →
    wpAny (model P w) X.A (pyNext (.ref it)) (fun r s1 => r = none ∧ Inv X pins σ H s1) E s
  self : ∀ (A : Around) (i : Nat) (s : Shared) (Q : Value → Shared → Prop) (E : Value → Shared → Prop), tn i s.heap → Q (.ref it) s → wpAny (model P w) A (pyIter (.ref it)) Q E s
abbrev TI := St → Hp → (It → Hp → Prop) → Prop
def PIE (X : Cx) (pins : List (Addr × Obj)) (σ : St) (tg : Expr) (R : It → Hp → Prop) (itv : Value) (s2 : Shared) : Prop :=
  ∃ (it : Addr) (fp : List Addr) (tn : Nat → Heap → Prop) (J : It) (H' : Hp), itv = .ref it ∧ Inv X pins σ H' s2 ∧ Turn X.prog X.w X.K tg J fp it tn ∧ tn 0 s2.heap ∧ (∀ b ∈ fp, FpOk X pins H' b) ∧ R J H'
def PI (X : Cx) (tg iter : Expr) (wi : TI) : Prop :=
  ∀ (pins : List (Addr × Obj)) (s : Shared) (σ : St) (H : Hp) (R : It → Hp → Prop), Inv X pins σ H s → wi σ H R →
    wpAny (model X.prog X.w) X.A (eval iter X.env) (fun v s1 => wpAny (model X.prog X.w) X.A (pyIter v) (PIE X pins σ tg R) X.xe s1) X.xe s
theorem go_of {M : Model} {A : Around} {E : Value → Shared → Prop} {s : Shared} {tg : Expr} {it : Addr} {u : Value} {o : Obj} {n : String} {vs : Array Value} {Q : Unit → Shared → Prop} (ho : s.heap.get? it = some o) (hc : o.cls = .type n) (hd : o.data = .fields vs)
    (hn : ["enumerate", "zip", "dict_itemiterator", "dict_reverseitemiterator", "odict_iterator", "itertools.zip_longest", "itertools.pairwise"].contains n = false) (hQ : Q () s) : wpAny M A (letOwnedTupleGo tg (.ref it) u) Q E s := by
  unfold letOwnedTupleGo
  cases tg <;> first
    | exact wpAny_pure hQ
    | (cases u <;> first
        | exact wpAny_pure hQ
        | (refine wpAny_bind (wpAny_load ho ?_)
           rw [hc, hd]
           show wpAny M A (if (["enumerate", "zip", "dict_itemiterator", "dict_reverseitemiterator", "odict_iterator", "itertools.zip_longest", "itertools.pairwise"].contains n && vs[0]? == some (rawInt _)) = true then _ else _) Q E s
           rw [if_neg (by intro h; rw [hn, Bool.false_and] at h; cases h)]
           exact wpAny_pure hQ))
def Itl (K : PySem.W.Frag) (a : Addr) : It :=
  ⟨fun i H => ∃ xs x, SqL K H a xs ∧ xs[i]? = some x, fun i H x H' => H' = H ∧ ∀ xs, SqL K H a xs → xs[i]? = some x, fun i H => ∃ xs, SqL K H a xs ∧ xs.length ≤ i⟩
def Itt (K : PySem.W.Frag) (a : Addr) : It :=
  ⟨fun i H => ∃ xs x, SqT K H a xs ∧ xs[i]? = some x, fun i H x H' => H' = H ∧ ∀ xs, SqT K H a xs → xs[i]? = some x, fun i H => ∃ xs, SqT K H a xs ∧ xs.length ≤ i⟩
def Itr (lo : Int) (n : Nat) : It := ⟨fun i _ => i < n, fun i H x H' => H' = H ∧ x = .int (lo + i), fun i _ => n ≤ i⟩
theorem turn_list {P : Program} {w : World} {K : PySem.W.Frag} {tg : Expr} (a it : Addr) : Turn P w K tg (Itl K a) [it] it (fun i h => h.IsListIter it a i) where
  mem := by simp
  obj := fun i h st b hb => by
    have e : b = it := by simpa using hb
    subst e
    obtain ⟨o, e, c, d⟩ := st
    exact ⟨o, e, fun v z => by rw [d] at z; cases z⟩
  keep := fun i h h' st k => st.at fun o e => k it (by simp) o e
  item := by
    intro X hP hw hK hc i pins s σ H E I hf st hg
    subst hP hw hK
    obtain ⟨xs, x, hq, hx⟩ := hg
    obtain ⟨its, rv, p, hz⟩ := I.list hq
    obtain ⟨u, hu, ru⟩ := rv.get hx
    obtain ⟨f0, f1, f2, f3, f4, f5⟩ := hf it (by simp)
    refine wpAny_pyNext_list_item st p.isList (x := u) (by simpa using hu) fun h' st' sb => ?_
    have I1 : Inv X pins σ H { s with heap := h' } := I.turned (t' := s.toks) (fun b o hb e => (sb.2 b hb).trans e) f0 f1 f3 f4 f5
    obtain ⟨o, e, c, d⟩ := id st'
    exact ⟨u, rfl, go_of (s := { s with heap := h' }) e c d (by decide) ⟨x, H, I1, ru, ⟨rfl, fun ys hy => by rw [I.list_inj hy hq]; exact hx⟩, st', fun b hb => (hf b hb).1⟩⟩
  done := by
    intro X hP hw hK hc i pins s σ H E I hf st hg
    subst hP hw hK
    obtain ⟨xs, hq, hx⟩ := hg
    obtain ⟨its, rv, p, hz⟩ := I.list hq
    obtain ⟨f0, f1, f2, f3, f4, f5⟩ := hf it (by simp)
    have hl := rv.length
    exact wpAny_pyNext_list_end (I.ok.hd hc) st p.isList (by simp; omega) fun h' eb => ⟨rfl, I.turned (t' := s.toks) (fun b o hb e => eb b o hb e) f0 f1 f3 f4 f5⟩
  self := fun _ _ _ _ _ st h => wpAny_pyIter_listiter st h
theorem turn_tuple {P : Program} {w : World} {K : PySem.W.Frag} {tg : Expr} (a it : Addr) : Turn P w K tg (Itt K a) [it] it (fun i h => h.IsTupleIter it a i) where
  mem := by simp
  obj := fun i h st b hb => by
    have e : b = it := by simpa using hb
    subst e
    obtain ⟨o, e, c, d⟩ := st
    exact ⟨o, e, fun v z => by rw [d] at z; cases z⟩
  keep := fun i h h' st k => st.at fun o e => k it (by simp) o e
  item := by
    intro X hP hw hK hc i pins s σ H E I hf st hg
    subst hP hw hK
    obtain ⟨xs, x, hq, hx⟩ := hg
    obtain ⟨its, rv, p, hz⟩ := I.tuple hq
    obtain ⟨u, hu, ru⟩ := rv.get hx
    obtain ⟨f0, f1, f2, f3, f4, f5⟩ := hf it (by simp)
    refine wpAny_pyNext_tuple_item st (show s.heap.IsTuple a its.toArray from p) (x := u) (by simpa using hu) fun h' st' sb => ?_
    have I1 : Inv X pins σ H { s with heap := h' } := I.turned (t' := s.toks) (fun b o hb e => (sb.2 b hb).trans e) f0 f1 f3 f4 f5
    obtain ⟨o, e, c, d⟩ := id st'
    exact ⟨u, rfl, go_of (s := { s with heap := h' }) e c d (by decide) ⟨x, H, I1, ru, ⟨rfl, fun ys hy => by rw [I.tuple_inj hy hq]; exact hx⟩, st', fun b hb => (hf b hb).1⟩⟩
  done := by
    intro X hP hw hK hc i pins s σ H E I hf st hg
    subst hP hw hK
    obtain ⟨xs, hq, hx⟩ := hg
    obtain ⟨its, rv, p, hz⟩ := I.tuple hq
    obtain ⟨f0, f1, f2, f3, f4, f5⟩ := hf it (by simp)
    have hl := rv.length
    exact wpAny_pyNext_tuple_end (I.ok.hd hc) st (show s.heap.IsTuple a its.toArray from p) (by simp; omega) fun h' eb => ⟨rfl, I.turned (t' := s.toks) (fun b o hb e => eb b o hb e) f0 f1 f3 f4 f5⟩
  self := fun _ _ _ _ _ st h => wpAny_pyIter_tupleiter st h
theorem turn_range {P : Program} {w : World} {K : PySem.W.Frag} {tg : Expr} (it : Addr) (lo : Int) (n : Nat) : Turn P w K tg (Itr lo n) [it] it (fun i h => IsRangeIter h it (lo + (i : Nat) * 1) ((n : Int) - (i : Nat)) 1) where
  mem := by simp
  obj := fun i h st b hb => by
    have e : b = it := by simpa using hb
    subst e
    exact ⟨_, st, fun v z => by
      have z' : Data.fields _ = Data.cell v := z
      cases z'⟩
  keep := fun i h h' st k => k it (by simp) _ st
  item := by
    intro X hP hw hK hc i pins s σ H E I hf st hg
    subst hP hw hK
    obtain ⟨f0, f1, f2, f3, f4, f5⟩ := hf it (by simp)
    have W := Walks.range (prog := X.prog) (w := X.w) (I.ok.hd hc) it lo 1 n
    refine W.item i s _ _ hg st fun v h' tk hv st' kk => ?_
    obtain ⟨t, rfl⟩ := hv
    have I1 : Inv X pins σ H { s with heap := h', toks := tk } := I.turned (fun b o hb e => kk b o (by simpa using hb) e) f0 f1 f3 f4 f5
    refine ⟨_, rfl, go_of (s := { s with heap := h', toks := tk }) (n := "range_iterator") st' rfl rfl (by decide) ⟨.int (lo + i), H, I1, ⟨t, ?_⟩, ⟨rfl, rfl⟩, st', fun b hb => (hf b hb).1⟩⟩
    rw [Int.mul_one]
  done := by
    intro X hP hw hK hc i pins s σ H E I hf st hg
    subst hP hw hK
    obtain ⟨f0, f1, f2, f3, f4, f5⟩ := hf it (by simp)
    exact wpAny_pyNext_range_end (I.ok.hd hc) st (by have : n ≤ i := hg; omega) fun h' eb => ⟨rfl, I.turned (t' := s.toks) (fun b o hb e => eb b o hb e) f0 f1 f3 f4 f5⟩
  self := fun _ _ _ _ _ st h => wpAny_pyIter_rangeiter st h
end L2
namespace L2
open PySem PySem.Spec PyProof.Rows
section
variable {X : Cx} {tg : Expr}
def iList (K : PySem.W.Frag) (tl : TE) : TI := fun σ H R => tl σ H fun x H1 => ∃ a, x = .ref a ∧ (∃ xs, SqL K H1 a xs) ∧ R (Itl K a) H1
def iTup (K : PySem.W.Frag) (tl : TE) : TI := fun σ H R => tl σ H fun x H1 => ∃ a, x = .ref a ∧ (∃ xs, SqT K H1 a xs) ∧ R (Itt K a) H1
theorem pi_list {l : Expr} {tl : TE} (hl : PE X l tl) : PI X tg l (iList X.K tl) := by
  intro pins s σ H R I h
  refine thn (hl pins s σ H _ I h) fun v s1 ⟨x, H1, I1, r1, q1⟩ => ?_
  obtain ⟨a, e, ⟨xs, hq⟩, q⟩ := q1
  subst e
  cases r1
  obtain ⟨its, rv, p, hz⟩ := I1.list hq
  refine wpAny_pyIter_list p.isList ?_
  refine ⟨s1.heap.objs.size, [s1.heap.objs.size], _, _, H1, rfl, I1.kept (t' := s1.toks) fun b o e => Heap.get?_push_of_some _ e, turn_list a _, ⟨_, Heap.get?_push_size _ rfl, rfl, rfl⟩, fun b hb => ?_, q⟩
  have e : b = s1.heap.objs.size := by simpa using hb
  subst e
  exact I1.fpOk (Nat.le_refl _) (I1.hok.fresh (Nat.le_refl _))
theorem pi_tup {l : Expr} {tl : TE} (hl : PE X l tl) : PI X tg l (iTup X.K tl) := by
  intro pins s σ H R I h
  refine thn (hl pins s σ H _ I h) fun v s1 ⟨x, H1, I1, r1, q1⟩ => ?_
  obtain ⟨a, e, ⟨xs, hq⟩, q⟩ := q1
  subst e
  cases r1
  obtain ⟨its, rv, p, hz⟩ := I1.tuple hq
  refine wpAny_pyIter_tuple (show s1.heap.IsTuple a its.toArray from p) ?_
  refine ⟨s1.heap.objs.size, [s1.heap.objs.size], _, _, H1, rfl, I1.kept (t' := s1.toks) fun b o e => Heap.get?_push_of_some _ e, turn_tuple a _, ⟨_, Heap.get?_push_size _ rfl, rfl, rfl⟩, fun b hb => ?_, q⟩
  have e : b = s1.heap.objs.size := by simpa using hb
  subst e
  exact I1.fpOk (Nat.le_refl _) (I1.hok.fresh (Nat.le_refl _))
theorem range_it {pins : List (Addr × Obj)} {σ : St} {H : Hp} {s : Shared} {R : It → Hp → Prop} {E : Value → Shared → Prop} {lo hi : Int} {t u v : Tok} {tk : Nat} (I : Inv X pins σ H s) (h1 : -(2 ^ 62) ≤ lo) (h2 : lo < 2 ^ 62) (h3 : -(2 ^ 62) ≤ hi) (h4 : hi < 2 ^ 62)
    (q : R (Itr lo (hi - lo).toNat) H) : wpAny (model X.prog X.w) X.A (pyIter (.ref s.heap.objs.size)) (PIE X pins σ tg R) E { s with heap := s.heap.push { cls := .type "range", data := .fields #[.int lo t, .int hi u, .int 1 v] }, toks := tk } := by
  refine wpAny_pyIter_range (IsRange.new ..) (small_one h1 h2 h3 h4) ?_
  have I1 : Inv X pins σ H { s with heap := s.heap.push { cls := .type "range", data := .fields #[.int lo t, .int hi u, .int 1 v] }, toks := tk } := I.kept fun b o e => Heap.get?_push_of_some _ e
  refine ⟨(s.heap.push { cls := .type "range", data := .fields #[.int lo t, .int hi u, .int 1 v] }).objs.size, [(s.heap.push { cls := .type "range", data := .fields #[.int lo t, .int hi u, .int 1 v] }).objs.size], _, _, H, rfl,
    I1.kept (t' := tk) fun b o e => Heap.get?_push_of_some _ e, turn_range _ lo (hi - lo).toNat, ?_, fun b hb => ?_, q⟩
  · have e1 : lo + ((0 : Nat) : Int) * 1 = lo := by simp
    have e2 : (((hi - lo).toNat : Nat) : Int) - ((0 : Nat) : Int) = Builtin.Range.rangeSize lo hi 1 := by rw [rangeSize_one]; split <;> omega
    show IsRangeIter _ _ (lo + ((0 : Nat) : Int) * 1) ((((hi - lo).toNat : Nat) : Int) - ((0 : Nat) : Int)) 1
    rw [e1, e2]
    exact Heap.get?_push_size _ rfl
  · have e : b = (s.heap.push { cls := .type "range", data := .fields #[.int lo t, .int hi u, .int 1 v] }).objs.size := by simpa using hb
    subst e
    exact I1.fpOk (Nat.le_refl _) (I1.hok.fresh (Nat.le_refl _))
def iRng1 (ta : TA) : TI := fun σ H R => ta σ H fun vs H1 => ∃ j : Int, vs = [.int j] ∧ -(2 ^ 62) ≤ j ∧ j < 2 ^ 62 ∧ R (Itr 0 j.toNat) H1
theorem pi_range1 {a : Expr} {ta : TA} {p pos : Pos} (hg : Gl X "range") (hm : X.mg "range" = none) (ha : PA X [a] ta) (hs : starEach [a] X.env = [(false, eval a X.env)] := by rfl) : PI X tg (.Call (.Name "range" p) [a] [] pos) (iRng1 ta) := by
  intro pins s σ H R I h
  refine Call_ (ld_blt I hg hm boot_range (PyProof.Rows.callWith_type1 (thn (ha pos pins s σ H _ I h) fun us s1 ⟨vs, H1, I1, r1, q1⟩ => ?_) hs rfl))
  obtain ⟨j, e, q1, q2, q⟩ := q1
  subst e
  cases r1 with
  | cons r rr =>
    cases rr
    obtain ⟨t, rfl⟩ := r
    exact call_range_1 (range_it I1 (by omega) (by omega) q1 q2 (by simpa using q))
def tFor (wi : TI) (g : TG) (tb : TS) : TS := fun D σ H => wi σ H fun J H1 => ∃ W : Nat → Nat → St → Hp → Prop, (∃ m, W 0 m σ H1) ∧ ∀ i m σ H, W i m σ H →
  (J.stop i H ∧ D.nx σ H) ∨ (J.go i H ∧ ∃ N : St → Hp → Prop, (∀ σ' H', N σ' H' → ∃ m', m' < m ∧ W (i + 1) m' σ' H') ∧ ∀ x H', J.yld i H x H' → g x σ H' fun σ2 H2 => tb { D with nx := N, ct := N, bk := D.nx } σ2 H2)
def pinsAt (fp : List Addr) (h : Heap) : List (Addr × Obj) := fp.filterMap fun b => (h.get? b).map fun o => (b, o)
theorem mem_pinsAt {fp : List Addr} {h : Heap} {b : Addr} {o : Obj} (hb : b ∈ fp) (e : h.get? b = some o) : (b, o) ∈ pinsAt fp h := List.mem_filterMap.mpr ⟨b, hb, by rw [e]; rfl⟩
theorem of_pinsAt {fp : List Addr} {h : Heap} {p : Addr × Obj} (hp : p ∈ pinsAt fp h) : p.1 ∈ fp ∧ h.get? p.1 = some p.2 := by
  obtain ⟨b, hb, e⟩ := List.mem_filterMap.mp hp
  cases q : h.get? b with
  | none => rw [q] at e; cases e
  | some o =>
    rw [q] at e
    have e' : (b, o) = p := Option.some.inj e
    subst e'
    exact ⟨hb, q⟩
theorem Inv.pinned {pins : List (Addr × Obj)} {σ : St} {H : Hp} {s : Shared} {fp : List Addr} (I : Inv X pins σ H s) (hf : ∀ b ∈ fp, FpOk X pins H b) (ho : ∀ b ∈ fp, ∃ o, s.heap.get? b = some o ∧ ∀ v, o.data ≠ .cell v) : Inv X (pins ++ pinsAt fp s.heap) σ H s :=
  I.pins_of fun p hp => (List.mem_append.mp hp).elim (fun z => I.pin p (List.mem_append_right _ z)) fun z => by
    obtain ⟨hb, e⟩ := of_pinsAt z
    obtain ⟨f0, f1, f2, _⟩ := hf p.1 hb
    obtain ⟨o, e', d⟩ := ho p.1 hb
    rw [e] at e'; cases e'
    exact ⟨e, f0, f1, f2, d⟩
theorem Inv.unpinned {pins pl : List (Addr × Obj)} {σ : St} {H : Hp} {s : Shared} (I : Inv X (pins ++ pl) σ H s) : Inv X pins σ H s := I.pins_of fun p hp => I.pin p (List.mem_append_right _ (List.mem_append_left _ hp))
theorem ps_for {iter : Expr} {body : List Stmt} {wi : TI} {g : TG} {tb : TS} {pos : Pos} (hp : PassesOwn (model X.prog X.w) X.A X.env X.xe) (hc : X.calm = true) (hi : PI X tg iter wi) (hg : PG X tg g) (hb : PSs X body tb)
    (hs : ∀ x, foldedSetIterable iter X.env x = pure x := by intro _; rfl) : PS X (.For tg iter body [] pos) (tFor wi g tb) := by
  intro pins s σ H D I h
  refine wpAny_For (thn (hi pins s σ H _ I h) fun v s1 h1 => thn h1 fun itv s2 h2 => ?_) hs
  obtain ⟨it, fp, tn, J, H2, e, I2, T, st2, f2, W, ⟨m0, w0⟩, turn⟩ := h2
  subst e
  have stat : ∀ {H' : Hp}, (∀ b ∈ fp, H' b = none) → ∀ b ∈ fp, FpOk X pins H' b := fun hn b hb => ⟨hn b hb, (f2 b hb).2⟩
  refine codeAny_forLoop_any (fun n s' => ∃ i σ' H', Inv X pins σ' H' s' ∧ tn i s'.heap ∧ (∀ b ∈ fp, H' b = none) ∧ W i n σ' H') ?_ m0 ⟨0, σ, H2, I2, st2, fun b hb => (f2 b hb).1, w0⟩
  rintro n s3 ⟨i, σ3, H3, I3, st3, fr3, w3⟩
  rcases turn i n σ3 H3 w3 with ⟨stop, qn⟩ | ⟨go, N, hN, step⟩
  · refine wpAny_passesOwn hp (thn (T.done X rfl rfl rfl hc i pins s3 σ3 H3 X.xe I3 (stat fr3) st3 stop) fun r s4 ⟨hr, I4⟩ => ?_)
    subst hr
    exact wpAny_execs_nil ⟨σ3, H3, I4, qn⟩
  · refine wpAny_passesOwn hp (thn (T.item X rfl rfl rfl hc i pins s3 σ3 H3 X.xe I3 (stat fr3) st3 go) fun r s4 ⟨u, hr, h4⟩ => ?_)
    subst hr
    refine wpAny_passesOwn hp (thn h4 fun _ s5 ⟨x, H5, I5, r5, y5, st5, fr5⟩ => ?_)
    have I5' := I5.pinned (stat fr5) (T.obj _ _ st5)
    refine wpAny_passesOwn hp (thn (hg _ s5 σ3 H5 x u _ I5' r5 (step x H5 y5)) fun _ s6 ⟨σ6, H6, I6, q6⟩ => ?_)
    refine wpAny_passesOwn hp (thn (hb _ s6 σ6 H6 _ I6 q6) fun f s7 q7 => ?_)
    have again : ∀ {σ7 : St} {H7 : Hp}, Inv X (pins ++ pinsAt fp s5.heap) σ7 H7 s7 → N σ7 H7 → ∃ m, m < n ∧ ∃ i σ' H', Inv X pins σ' H' s7 ∧ tn i s7.heap ∧ (∀ b ∈ fp, H' b = none) ∧ W i m σ' H' := fun {σ7 H7} I7 n7 => by
      obtain ⟨m', hm, w7⟩ := hN σ7 H7 n7
      refine ⟨m', hm, i + 1, σ7, H7, I7.unpinned, T.keep _ _ _ st5 fun b hb o e => (I7.pin (b, o) (List.mem_append_right _ (List.mem_append_right _ (mem_pinsAt hb e)))).1, fun b hb => ?_, w7⟩
      obtain ⟨o, e, d⟩ := T.obj _ _ st5 b hb
      exact (I7.pin (b, o) (List.mem_append_right _ (List.mem_append_right _ (mem_pinsAt hb e)))).2.1
    cases f with
    | next => obtain ⟨σ7, H7, I7, n7⟩ := q7; exact again I7 n7
    | cont => obtain ⟨σ7, H7, I7, n7⟩ := q7; exact again I7 n7
    | brk => obtain ⟨σ7, H7, I7, q7⟩ := q7; exact ⟨σ7, H7, I7.unpinned, q7⟩
    | ret v => obtain ⟨x7, σ7, H7, I7, r7, q7⟩ := q7; exact ⟨x7, σ7, H7, I7.unpinned, r7, q7⟩
end
theorem for_list {K : PySem.W.Frag} {a : Addr} {xs : List V} {g : TG} {tb : TS} {D : Ends} {σ : St} {H : Hp} (Pv : Nat → St → Hp → Prop) (h0 : Pv 0 σ H) (hl : ∀ i σ H, i ≤ xs.length → Pv i σ H → SqL K H a xs)
    (hs : ∀ i x σ H, xs[i]? = some x → Pv i σ H → g x σ H fun σ2 H2 => tb { D with nx := Pv (i + 1), ct := Pv (i + 1), bk := D.nx } σ2 H2) (hd : ∀ σ H, Pv xs.length σ H → D.nx σ H) :
    ∃ W : Nat → Nat → St → Hp → Prop, (∃ m, W 0 m σ H) ∧ ∀ i m σ H, W i m σ H →
      ((Itl K a).stop i H ∧ D.nx σ H) ∨ ((Itl K a).go i H ∧ ∃ N : St → Hp → Prop, (∀ σ' H', N σ' H' → ∃ m', m' < m ∧ W (i + 1) m' σ' H') ∧ ∀ x H', (Itl K a).yld i H x H' → g x σ H' fun σ2 H2 => tb { D with nx := N, ct := N, bk := D.nx } σ2 H2) := by
  refine ⟨fun i m σ H => m = xs.length - i ∧ i ≤ xs.length ∧ Pv i σ H, ⟨xs.length, by simp, Nat.zero_le _, h0⟩, ?_⟩
  rintro i m σ H ⟨rfl, hi, p⟩
  have q := hl i σ H hi p
  by_cases hlt : i < xs.length
  · refine .inr ⟨⟨xs, xs[i], q, by simp [hlt]⟩, Pv (i + 1), fun σ' H' p' => ⟨xs.length - (i + 1), by omega, rfl, hlt, p'⟩, fun x H' y => ?_⟩
    obtain ⟨e, y⟩ := y
    subst e
    exact hs i x σ _ (y xs q) p
  · have e : i = xs.length := by omega
    subst e
    exact .inl ⟨⟨xs, q, Nat.le_refl _⟩, hd σ H p⟩
theorem for_range {lo : Int} {n : Nat} {g : TG} {tb : TS} {D : Ends} {σ : St} {H : Hp} (Pv : Nat → St → Hp → Prop) (h0 : Pv 0 σ H)
    (hs : ∀ i σ H, i < n → Pv i σ H → g (.int (lo + i)) σ H fun σ2 H2 => tb { D with nx := Pv (i + 1), ct := Pv (i + 1), bk := D.nx } σ2 H2) (hd : ∀ σ H, Pv n σ H → D.nx σ H) :
    ∃ W : Nat → Nat → St → Hp → Prop, (∃ m, W 0 m σ H) ∧ ∀ i m σ H, W i m σ H →
      ((Itr lo n).stop i H ∧ D.nx σ H) ∨ ((Itr lo n).go i H ∧ ∃ N : St → Hp → Prop, (∀ σ' H', N σ' H' → ∃ m', m' < m ∧ W (i + 1) m' σ' H') ∧ ∀ x H', (Itr lo n).yld i H x H' → g x σ H' fun σ2 H2 => tb { D with nx := N, ct := N, bk := D.nx } σ2 H2) := by
  refine ⟨fun i m σ H => m = n - i ∧ i ≤ n ∧ Pv i σ H, ⟨n, by simp, Nat.zero_le _, h0⟩, ?_⟩
  rintro i m σ H ⟨rfl, hi, p⟩
  by_cases hlt : i < n
  · refine .inr ⟨hlt, Pv (i + 1), fun σ' H' p' => ⟨n - (i + 1), by omega, rfl, hlt, p'⟩, fun x H' y => ?_⟩
    obtain ⟨e, y⟩ := y
    subst e y
    exact hs i σ _ hlt p
  · have e : i = n := by omega
    subst e
    exact .inl ⟨Nat.le_refl _, hd σ H p⟩
theorem while_by {c : TT} {tb : TS} {D : Ends} {σ : St} {H : Hp} (Pv : St → Hp → Prop) (μ : St → Hp → Nat) (h0 : Pv σ H)
    (hs : ∀ σ H, Pv σ H → c σ H fun b H1 => if b = true then tb { D with nx := fun σ' H' => Pv σ' H' ∧ μ σ' H' < μ σ H, ct := fun σ' H' => Pv σ' H' ∧ μ σ' H' < μ σ H, bk := D.nx } σ H1 else D.nx σ H1)
    (mono : ∀ σ H Q Q', (∀ b H1, Q b H1 → Q' b H1) → c σ H Q → c σ H Q') : tWhile c tb D σ H := by
  refine ⟨fun m σ H => m = μ σ H ∧ Pv σ H, ⟨_, rfl, h0⟩, ?_⟩
  rintro m σ H ⟨rfl, p⟩
  refine mono σ H _ _ (fun b H1 q => ?_) (hs σ H p)
  cases b with
  | true => exact ⟨_, fun σ' H' ⟨p', l⟩ => ⟨_, l, rfl, p'⟩, q⟩
  | false => exact q
end L2
namespace L2
open PySem PySem.Spec PyProof.Rows
abbrev R2 := V → V → Hp → VK → Prop
def OpR (X : Cx) (f : Value → Value → Sem Value) (r : R2) : Prop :=
  ∀ (pins : List (Addr × Obj)) (s : Shared) (σ : St) (H : Hp) (x y : V) (v u : Value) (Q : VK), Inv X pins σ H s → RelV x v → RelV y u → r x y H Q →
    wpAny (model X.prog X.w) X.A (f v u) (EP X pins σ Q) X.xe s
def UnR (X : Cx) (f : Value → Sem Value) (r : V → Hp → VK → Prop) : Prop :=
  ∀ (pins : List (Addr × Obj)) (s : Shared) (σ : St) (H : Hp) (x : V) (v : Value) (Q : VK), Inv X pins σ H s → RelV x v → r x H Q →
    wpAny (model X.prog X.w) X.A (f v) (EP X pins σ Q) X.xe s
def CallR (X : Cx) (f : Value) (r : List V → Hp → VK → Prop) : Prop :=
  ∀ (pins : List (Addr × Obj)) (s : Shared) (σ : St) (H : Hp) (xs : List V) (us : List Value) (Q : VK), Inv X pins σ H s → Vals xs us → r xs H Q →
    wpAny (model X.prog X.w) X.A (call f us) (EP X pins σ Q) X.xe s
def TruR (X : Cx) (r : V → Hp → (Bool → Hp → Prop) → Prop) : Prop :=
  ∀ (pins : List (Addr × Obj)) (s : Shared) (σ : St) (H : Hp) (x : V) (v : Value) (Q : Bool → Hp → Prop), Inv X pins σ H s → RelV x v → r x H Q →
    wpAny (model X.prog X.w) X.A (truthy v) (TP X pins σ Q) X.xe s
def tOp (r : R2) (ta tb : TE) : TE := fun σ H Q => ta σ H fun x H1 => tb σ H1 fun y H2 => r x y H2 Q
def tUn (r : V → Hp → VK → Prop) (ta : TE) : TE := fun σ H Q => ta σ H fun x H1 => r x H1 Q
def rI (C : Int → Int → Prop) (g : Int → Int → V) : R2 := fun x y H Q => ∃ i j, x = .int i ∧ y = .int j ∧ C i j ∧ Q (g i j) H
def rI0 (g : Int → Int → V) : R2 := fun x y H Q => ∃ i j, x = .int i ∧ y = .int j ∧ Q (g i j) H
def rU (g : Int → V) : V → Hp → VK → Prop := fun x H Q => ∃ i, x = .int i ∧ Q (g i) H
section
variable {X : Cx} {a b c : Expr} {ta tb tc : TE} {pos : Pos}
theorem binT (ha : PE X a ta) (hb : PE X b tb) {pins : List (Addr × Obj)} {s : Shared} {σ : St} {H : Hp} {R : V → V → Hp → Prop} (I : Inv X pins σ H s)
    (h : ta σ H fun x H1 => tb σ H1 fun y H2 => R x y H2) {Q : Value → Shared → Prop} {f : Value → Value → Sem Value}
    (hf : ∀ v u s2 x y H2, Inv X pins σ H2 s2 → RelV x v → RelV y u → R x y H2 → wpAny (model X.prog X.w) X.A (f v u) Q X.xe s2) :
    wpAny (model X.prog X.w) X.A (eval a X.env) (fun v s₁ => wpAny (model X.prog X.w) X.A (eval b X.env) (fun u s₂ => wpAny (model X.prog X.w) X.A (f v u) Q X.xe s₂) X.xe s₁) X.xe s := by
  refine thn (ha pins s σ H _ I h) fun v s1 ⟨x, H1, I1, r1, q1⟩ => ?_
  refine thn (hb pins s1 σ H1 _ I1 q1) fun u s2 ⟨y, H2, I2, r2, q2⟩ => ?_
  exact hf v u s2 x y H2 I2 r1 r2 q2
theorem pe_op {op : Operator} {r : R2} (ho : OpR X (binaryOp op) r) (ha : PE X a ta) (hb : PE X b tb) : PE X (.BinOp a op b pos) (tOp r ta tb) := by
  intro pins s σ H Q I h
  exact wpAny_BinOp (binT ha hb I h fun v u s2 x y H2 I2 rx ry q => ho pins s2 σ H2 x y v u Q I2 rx ry q)
theorem pe_un {op : UnaryOp} {r : V → Hp → VK → Prop} (ho : UnR X (unaryOp op) r) (ha : PE X a ta) : PE X (.UnaryOp op a pos) (tUn r ta) := by
  intro pins s σ H Q I h
  exact UnaryOp_ (thn (ha pins s σ H _ I h) fun v s1 ⟨x, H1, I1, r1, q1⟩ => ho pins s1 σ H1 x v Q I1 r1 q1)
theorem opI {f : Value → Value → Sem Value} {C : Int → Int → Prop} {g : Int → Int → Int}
    (rule : ∀ (i j : Int) (t u : Tok) (s : Shared) (Q : Value → Shared → Prop) (E : Value → Shared → Prop), C i j → Q (.int (g i j) s.toks) { s with toks := s.toks + 1 } → wpAny (model X.prog X.w) X.A (f (.int i t) (.int j u)) Q E s) :
    OpR X f (rI C fun i j => .int (g i j)) := by
  intro pins s σ H x y v u Q I rx ry h
  obtain ⟨i, j, rfl, rfl, hc, q⟩ := h
  obtain ⟨t, rfl⟩ := rx
  obtain ⟨t', rfl⟩ := ry
  exact rule i j t t' s _ _ hc ⟨.int (g i j), H, I.tok _, ⟨_, rfl⟩, q⟩
theorem opI0 {f : Value → Value → Sem Value} {g : Int → Int → Int}
    (rule : ∀ (i j : Int) (t u : Tok) (s : Shared) (Q : Value → Shared → Prop) (E : Value → Shared → Prop), Q (.int (g i j) s.toks) { s with toks := s.toks + 1 } → wpAny (model X.prog X.w) X.A (f (.int i t) (.int j u)) Q E s) :
    OpR X f (rI0 fun i j => .int (g i j)) := by
  intro pins s σ H x y v u Q I rx ry h
  obtain ⟨i, j, rfl, rfl, q⟩ := h
  obtain ⟨t, rfl⟩ := rx
  obtain ⟨t', rfl⟩ := ry
  exact rule i j t t' s _ _ ⟨.int (g i j), H, I.tok _, ⟨_, rfl⟩, q⟩
theorem opB0 {f : Value → Value → Sem Value} {g : Int → Int → Bool}
    (rule : ∀ (i j : Int) (t u : Tok) (s : Shared) (Q : Value → Shared → Prop) (E : Value → Shared → Prop), Q (.bool (g i j)) s → wpAny (model X.prog X.w) X.A (f (.int i t) (.int j u)) Q E s) :
    OpR X f (rI0 fun i j => .bl (g i j)) := by
  intro pins s σ H x y v u Q I rx ry h
  obtain ⟨i, j, rfl, rfl, q⟩ := h
  obtain ⟨t, rfl⟩ := rx
  obtain ⟨t', rfl⟩ := ry
  exact rule i j t t' s _ _ ⟨.bl (g i j), H, I, rfl, q⟩
def CDiv (i j : Int) : Prop := 0 < j ∧ j < 1073741824
def CPow (i j : Int) : Prop := 0 ≤ j ∧ j ≤ 1000000 ∧ i.natAbs < 2 ^ 64
def CMul (i j : Int) : Prop := (-(2 ^ 64) < i ∧ i < 2 ^ 64) ∨ (-(2 ^ 64) < j ∧ j < 2 ^ 64)
theorem CMul.ok {i j : Int} (h : CMul i j) : IntMulOk i j := by
  rcases h with ⟨h1, h2⟩ | ⟨h1, h2⟩
  · exact .of_left (intBits_le_64 h1 h2)
  · exact .of_right (intBits_le_64 h1 h2)
theorem op_add : OpR X (binaryOp .Add) (rI0 fun i j => .int (i + j)) := opI0 fun _ _ _ _ _ _ _ q => add_int q
theorem op_sub : OpR X (binaryOp .Sub) (rI0 fun i j => .int (i - j)) := opI0 fun _ _ _ _ _ _ _ q => sub_int q
theorem op_mul : OpR X (binaryOp .Mult) (rI CMul fun i j => .int (i * j)) := opI fun _ _ _ _ _ _ _ hc q => mul_int q hc.ok
theorem op_fdiv : OpR X (binaryOp .FloorDiv) (rI CDiv fun i j => .int (i / j)) := opI fun i j _ _ _ _ _ hc q => by
  have h1 : (0 : Int) < j := hc.1
  have h2 : j < 1073741824 := hc.2
  exact floordiv_int (by omega) (by rw [Int.fdiv_eq_ediv_of_nonneg i (by omega)]; exact q) (.inl (PyProof.noPylong_small (by omega)))
theorem op_mod : OpR X (binaryOp .Mod) (rI (fun _ j => 0 < j) fun i j => .int (i % j)) := opI fun i j _ _ _ _ _ hc q => by
  have h1 : (0 : Int) < j := hc
  exact mod_int' (by omega) (by rw [Int.fmod_eq_emod_of_nonneg i (by omega)]; exact q)
theorem op_pow : OpR X (binaryOp .Pow) (rI CPow fun i j => .int (i ^ j.toNat)) := opI fun _ _ _ _ _ _ _ hc q => pow_int_small hc.1 hc.2.1 hc.2.2 q
theorem unI {f : Value → Sem Value} {g : Int → Int}
    (rule : ∀ (i : Int) (t : Tok) (s : Shared) (Q : Value → Shared → Prop) (E : Value → Shared → Prop), Q (.int (g i) s.toks) { s with toks := s.toks + 1 } → wpAny (model X.prog X.w) X.A (f (.int i t)) Q E s) :
    UnR X f (rU fun i => .int (g i)) := by
  intro pins s σ H x v Q I rx h
  obtain ⟨i, rfl, q⟩ := h
  obtain ⟨t, rfl⟩ := rx
  exact rule i t s _ _ ⟨.int (g i), H, I.tok _, ⟨_, rfl⟩, q⟩
theorem un_neg : UnR X (unaryOp .USub) (rU fun i => .int (-i)) := unI fun _ _ _ _ _ q => neg_int q
end
def scal : V → V → Bool
  | .non, .non => true | .non, .int _ => true | .int _, .non => true | .non, .bl _ => true | .bl _, .non => true | .non, .str _ => true | .str _, .non => true
  | .int _, .int _ => true | .bl _, .bl _ => true | .str _, .str _ => true | .byt _, .byt _ => true
  | .int _, .str _ => true | .str _, .int _ => true | .bl _, .str _ => true | .str _, .bl _ => true
  | _, _ => false
def rEq : R2 := fun x y H Q => scal x y = true ∧ Q (.bl (decide (x = y))) H
def rNe : R2 := fun x y H Q => scal x y = true ∧ Q (.bl (!decide (x = y))) H
theorem dec_int {i j : Int} : decide (V.int i = V.int j) = (i == j) := by
  rw [Bool.eq_iff_iff]
  simp
theorem dec_bl {i j : Bool} : decide (V.bl i = V.bl j) = (i == j) := by
  rw [Bool.eq_iff_iff]
  simp
theorem dec_str {i j : Str} : decide (V.str i = V.str j) = (i == j) := by
  rw [Bool.eq_iff_iff]
  simp
theorem dec_byt {i j : Array UInt8} : decide (V.byt i = V.byt j) = (i.toList == j.toList) := by
  rw [Bool.eq_iff_iff]
  cases i
  cases j
  simp
section
variable {X : Cx} {a b c : Expr} {ta tb tc : TE} {pos : Pos}
theorem fin_bl {pins : List (Addr × Obj)} {σ : St} {H : Hp} {s : Shared} {Q : VK} {k k' : Bool} (I : Inv X pins σ H s) (q : Q (.bl k) H) (e : k = k') : EP X pins σ Q (.bool k') s := by
  subst e
  exact ⟨.bl k, H, I, rfl, q⟩
theorem op_eq : OpR X (compareOp .Eq) rEq := by
  intro pins s σ H x y v u Q I rx ry h
  obtain ⟨hs, q⟩ := h
  cases x with
  | non =>
    cases rx
    cases y with
    | non => cases ry; exact PySem.EqNone.eq_none_none (fin_bl I q (by simp))
    | bl j => cases ry; exact PySem.EqNone.eq_none_bool (fin_bl I q (by simp))
    | int j => obtain ⟨t', rfl⟩ := ry; exact PySem.EqNone.eq_none_int (fin_bl I q (by simp))
    | str j => obtain ⟨t', rfl⟩ := ry; exact PySem.EqNone.eq_none_str (fin_bl I q (by simp))
    | _ => exact absurd (show false = true from hs) Bool.false_ne_true
  | bl i =>
    cases rx
    cases y with
    | non => cases ry; exact PySem.EqNone.eq_bool_none (fin_bl I q (by simp))
    | bl j => cases ry; exact eq_bool (fin_bl I q dec_bl)
    | str j => obtain ⟨t', rfl⟩ := ry; exact PySem.EqMixed.eq_bool_str (fin_bl I q (by simp))
    | _ => exact absurd (show false = true from hs) Bool.false_ne_true
  | int i =>
    obtain ⟨t, rfl⟩ := rx
    cases y with
    | non => cases ry; exact PySem.EqNone.eq_int_none (fin_bl I q (by simp))
    | int j => obtain ⟨t', rfl⟩ := ry; exact eq_int (fin_bl I q dec_int)
    | str j => obtain ⟨t', rfl⟩ := ry; exact PySem.EqMixed.eq_int_str (fin_bl I q (by simp))
    | _ => exact absurd (show false = true from hs) Bool.false_ne_true
  | str i =>
    obtain ⟨t, rfl⟩ := rx
    cases y with
    | non => cases ry; exact PySem.EqNone.eq_str_none (fin_bl I q (by simp))
    | bl j => cases ry; exact PySem.EqMixed.eq_str_bool (fin_bl I q (by simp))
    | int j => obtain ⟨t', rfl⟩ := ry; exact PySem.EqMixed.eq_str_int (fin_bl I q (by simp))
    | str j => obtain ⟨t', rfl⟩ := ry; exact eq_str (fin_bl I q dec_str)
    | _ => exact absurd (show false = true from hs) Bool.false_ne_true
  | byt i =>
    obtain ⟨t, rfl⟩ := rx
    cases y with
    | byt j => obtain ⟨t', rfl⟩ := ry; exact PySem.W.eq_bytes (fin_bl I q dec_byt)
    | _ => exact absurd (show false = true from hs) Bool.false_ne_true
  | _ => cases y <;> exact absurd (show false = true from hs) Bool.false_ne_true
theorem op_ne : OpR X (compareOp .NotEq) rNe := by
  intro pins s σ H x y v u Q I rx ry h
  obtain ⟨hs, q⟩ := h
  cases x with
  | non =>
    cases rx
    cases y with
    | non => cases ry; exact PySem.EqNone.ne_none_none (fin_bl I q (by simp))
    | bl j => cases ry; exact PySem.EqNone.ne_none_bool (fin_bl I q (by simp))
    | int j => obtain ⟨t', rfl⟩ := ry; exact PySem.EqNone.ne_none_int (fin_bl I q (by simp))
    | str j => obtain ⟨t', rfl⟩ := ry; exact PySem.EqNone.ne_none_str (fin_bl I q (by simp))
    | _ => exact absurd (show false = true from hs) Bool.false_ne_true
  | bl i =>
    cases rx
    cases y with
    | non => cases ry; exact PySem.EqNone.ne_bool_none (fin_bl I q (by simp))
    | bl j => cases ry; exact ne_bool (fin_bl I q (congrArg not dec_bl))
    | str j => obtain ⟨t', rfl⟩ := ry; exact PySem.EqMixed.ne_bool_str (fin_bl I q (by simp))
    | _ => exact absurd (show false = true from hs) Bool.false_ne_true
  | int i =>
    obtain ⟨t, rfl⟩ := rx
    cases y with
    | non => cases ry; exact PySem.EqNone.ne_int_none (fin_bl I q (by simp))
    | int j => obtain ⟨t', rfl⟩ := ry; exact ne_int (fin_bl I q (congrArg not dec_int))
    | str j => obtain ⟨t', rfl⟩ := ry; exact PySem.EqMixed.ne_int_str (fin_bl I q (by simp))
    | _ => exact absurd (show false = true from hs) Bool.false_ne_true
  | str i =>
    obtain ⟨t, rfl⟩ := rx
    cases y with
    | non => cases ry; exact PySem.EqNone.ne_str_none (fin_bl I q (by simp))
    | bl j => cases ry; exact PySem.EqMixed.ne_str_bool (fin_bl I q (by simp))
    | int j => obtain ⟨t', rfl⟩ := ry; exact PySem.EqMixed.ne_str_int (fin_bl I q (by simp))
    | str j => obtain ⟨t', rfl⟩ := ry; exact ne_str (fin_bl I q (congrArg not dec_str))
    | _ => exact absurd (show false = true from hs) Bool.false_ne_true
  | byt i =>
    obtain ⟨t, rfl⟩ := rx
    cases y with
    | byt j => obtain ⟨t', rfl⟩ := ry; exact PySem.W.ne_bytes (fin_bl I q (congrArg not dec_byt))
    | _ => exact absurd (show false = true from hs) Bool.false_ne_true
  | _ => cases y <;> exact absurd (show false = true from hs) Bool.false_ne_true
theorem op_lt : OpR X (compareOp .Lt) (rI0 fun i j => .bl (decide (i < j))) := opB0 fun _ _ _ _ _ _ _ q => lt_int q
theorem op_le : OpR X (compareOp .LtE) (rI0 fun i j => .bl (decide (i ≤ j))) := opB0 fun _ _ _ _ _ _ _ q => le_int q
theorem op_gt : OpR X (compareOp .Gt) (rI0 fun i j => .bl (decide (j < i))) := opB0 fun _ _ _ _ _ _ _ q => gt_int q
theorem op_notN : OpR X (compareOp .IsNot) (fun x y H Q => y = .non ∧ Q (.bl (!decide (x = .non))) H) := by
  intro pins s σ H x y v u Q I rx ry h
  obtain ⟨rfl, q⟩ := h
  cases ry
  refine isnot_none_gen (fin_bl I q ?_)
  cases x <;> first
    | (cases rx; rfl)
    | (obtain ⟨t, rfl⟩ := rx; rfl)
theorem nomark (b : Expr) {op : CmpOp} (h : op ≠ .In := by decide) (h2 : op ≠ .NotIn := by decide) : behindInMarks op b = false := by
  have e1 : (op == CmpOp.In) = false := by cases op <;> first | rfl | exact absurd rfl h
  have e2 : (op == CmpOp.NotIn) = false := by cases op <;> first | rfl | exact absurd rfl h2
  cases b <;> simp [behindInMarks, e1, e2]
theorem pe_cmpR {op : CmpOp} {r : R2} (ho : OpR X (compareOp op) r) (ha : PE X a ta) (hb : PE X b tb) (hm : behindInMarks op b = false) : PE X (.Compare a [op] [b] pos) (tOp r ta tb) := by
  intro pins s σ H Q I h
  exact wpAny_Compare1 (binT ha hb I h fun v u s2 x y H2 I2 rx ry q => ho pins s2 σ H2 x y v u Q I2 rx ry q) hm
def tTest (t : TE) : TT := fun σ H Q => t σ H fun x H' => ∃ k, x = .bl k ∧ Q k H'
theorem pt_cmpR {op : CmpOp} {r : R2} (ho : OpR X (compareOp op) r) (ha : PE X a ta) (hb : PE X b tb) (hm : behindInMarks op b = false) : PT X (.Compare a [op] [b] pos) (tTest (tOp r ta tb)) := by
  intro pins s σ H Q I h
  refine wpAny_isTrue_Compare1 (thn (ha pins s σ H _ I h) fun v s1 ⟨x, H1, I1, r1, q1⟩ => thn (hb pins s1 σ H1 _ I1 q1) fun u s2 ⟨y, H2, I2, r2, q2⟩ =>
    thn (ho pins s2 σ H2 x y v u _ I2 r1 r2 q2) fun c s3 ⟨z, H3, I3, r3, k, e, q3⟩ => ?_) hm
  subst e
  cases r3
  exact wpAny_truthy_bool ⟨H3, I3, q3⟩
def tChain (r r' : R2) (ta tb tc : TE) : TE := fun σ H Q => ta σ H fun x H1 => tb σ H1 fun y H2 => r x y H2 fun z H3 => ∃ k, z = .bl k ∧
  (if k = true then tc σ H3 fun w' H4 => r' y w' H4 Q else Q (.bl false) H3)
theorem pe_chain {op op' : CmpOp} {r r' : R2} (ho : OpR X (compareOp op) r) (ho' : OpR X (compareOp op') r') (ha : PE X a ta) (hb : PE X b tb) (hc : PE X c tc)
    (hm : lastMarks [op, op'] [b, c] = false := by with_unfolding_all rfl) : PE X (.Compare a [op, op'] [b, c] pos) (tChain r r' ta tb tc) := by
  intro pins s σ H Q I h
  refine Compare_chain (thn (ha pins s σ H _ I h) fun v s1 ⟨x, H1, I1, r1, q1⟩ => chain_link (thn (hb pins s1 σ H1 _ I1 q1) fun u s2 ⟨y, H2, I2, r2, q2⟩ =>
    thn (ho pins s2 σ H2 x y v u _ I2 r1 r2 q2) fun d s3 ⟨z, H3, I3, r3, k, e, q3⟩ => ?_)) hm
  subst e
  cases r3
  refine wpAny_truthy_bool ?_
  cases k with
  | false => exact ite_ff ⟨.bl false, H3, I3, rfl, q3⟩
  | true => exact ite_tt (chain_last (thn (hc pins s3 σ H3 _ I3 q3) fun w' s4 ⟨z', H4, I4, r4, q4⟩ => ho' pins s4 σ H4 y z' u w' Q I4 r2 r4 q4))
theorem pt_chain {op op' : CmpOp} {r r' : R2} (ho : OpR X (compareOp op) r) (ho' : OpR X (compareOp op') r') (ha : PE X a ta) (hb : PE X b tb) (hc : PE X c tc)
    (hm : lastMarks [op, op'] [b, c] = false := by with_unfolding_all rfl) : PT X (.Compare a [op, op'] [b, c] pos) (tTest (tChain r r' ta tb tc)) := by
  intro pins s σ H Q I h
  refine isTrue_chain (thn (ha pins s σ H _ I h) fun v s1 ⟨x, H1, I1, r1, q1⟩ => test_link (thn (hb pins s1 σ H1 _ I1 q1) fun u s2 ⟨y, H2, I2, r2, q2⟩ =>
    thn (ho pins s2 σ H2 x y v u _ I2 r1 r2 q2) fun d s3 ⟨z, H3, I3, r3, k, e, q3⟩ => ?_)) hm
  subst e
  cases r3
  refine wpAny_truthy_bool ?_
  cases k with
  | false =>
    obtain ⟨k', e', q'⟩ := q3
    cases e'
    exact ite_ff ⟨H3, I3, q'⟩
  | true =>
    refine ite_tt (test_last (thn (hc pins s3 σ H3 _ I3 q3) fun w' s4 ⟨z', H4, I4, r4, q4⟩ => thn (ho' pins s4 σ H4 y z' u w' _ I4 r2 r4 q4) fun d' s5 ⟨z2, H5, I5, r5, k2, e2, q5⟩ => ?_))
    subst e2
    cases r5
    exact wpAny_truthy_bool ⟨H5, I5, q5⟩
def TruV (K : PySem.W.Frag) (x : V) (H : Hp) (k : Bool) : Prop :=
  match x with
  | .non => k = false
  | .bl b => k = b
  | .int i => k = (i != 0)
  | .str y => y.length ≤ sizeLine ∧ k = ((y.length : Int) != 0)
  | .byt y => y.size ≤ sizeLine ∧ k = ((y.size : Int) != 0)
  | .ref p => (∃ xs, SqL K H p xs ∧ k = !xs.isEmpty) ∨ (∃ xs, SqT K H p xs ∧ k = !xs.isEmpty) ∨ ∃ kvs, H p = some (.dK kvs) ∧ k = !kvs.isEmpty
  | _ => False
theorem isEmpty_kv {κ : Type} {kvs : List (κ × V)} {vs : List (κ × Value)} (r : KV kvs vs) : (!vs.isEmpty) = !kvs.isEmpty := by
  cases r <;> rfl
theorem isEmpty_of {xs : List V} {its : List Value} (r : Vals xs its) : (!its.toArray.isEmpty) = !xs.isEmpty := by
  cases r <;> simp
theorem line63 : (sizeLine : Nat) < 2 ^ 63 := by rw [sizeLine_eq]; decide
theorem tru_ok : TruR X (fun x H Q => ∃ k, TruV X.K x H k ∧ Q k H) := by
  intro pins s σ H x v Q I rx h
  obtain ⟨k, e, q⟩ := h
  have hl := line63
  have hs : sizeLine = 16777216 := sizeLine_eq
  cases x with
  | non =>
    cases rx
    have e' : k = false := e
    subst e'
    exact truthy_none ⟨H, I, q⟩
  | bl b =>
    cases rx
    have e' : k = b := e
    subst e'
    exact wpAny_truthy_bool ⟨H, I, q⟩
  | int i =>
    obtain ⟨t, rfl⟩ := rx
    have e' : k = (i != 0) := e
    subst e'
    exact PySem.P.truthy_int ⟨H, I, q⟩
  | str y =>
    obtain ⟨t, rfl⟩ := rx
    obtain ⟨hy, e'⟩ : y.length ≤ sizeLine ∧ k = ((y.length : Int) != 0) := e
    subst e'
    exact PySem.P.truthy_str (by omega) ⟨H, I.tok _, q⟩
  | byt y =>
    obtain ⟨t, rfl⟩ := rx
    obtain ⟨hy, e'⟩ : y.size ≤ sizeLine ∧ k = ((y.size : Int) != 0) := e
    subst e'
    exact PySem.W.truthy_bytes (by omega) ⟨H, I.tok _, q⟩
  | ref p =>
    cases rx
    have e' : (∃ xs, SqL X.K H p xs ∧ k = !xs.isEmpty) ∨ (∃ xs, SqT X.K H p xs ∧ k = !xs.isEmpty) ∨ ∃ kvs, H p = some (.dK kvs) ∧ k = !kvs.isEmpty := e
    rcases e' with ⟨xs, hx, e'⟩ | ⟨xs, hx, e'⟩ | ⟨kvs, hx, e'⟩
    · subst e'
      obtain ⟨its, r, pl, hz⟩ := I.list hx
      have hlen := r.length
      exact wpAny_truthy_list pl.isList (by simp only [List.size_toArray]; omega) ⟨H, I.tok _, by rw [isEmpty_of r]; exact q⟩
    · subst e'
      obtain ⟨its, r, pl, hz⟩ := I.tuple hx
      have hlen := r.length
      exact truthy_tuple pl (by simp only [List.size_toArray]; omega) ⟨H, I.tok _, by rw [isEmpty_of r]; exact q⟩
    · subst e'
      obtain ⟨hz, hS, vs, r, m⟩ : kvs.length ≤ sizeLine ∧ (p == sysModules) = false ∧ ∃ vs, KV kvs vs ∧ s.heap.DictOf (mixKind X.prog X.w) p vs := I.hok p _ hx
      have hlen : kvs.length = vs.length := Paired.length r
      exact wpAny_truthy_dict hS m (by omega) ⟨H, I.tok _, by rw [isEmpty_kv r]; exact q⟩
  | _ => exact (show False from e).elim
theorem pt_truth (ha : PE X a ta) (he : ∀ whole, isTrue a X.env whole = (do let v ← whole; standAt a.pos; holding [v] (truthy v))) :
    PT X a (fun σ H Q => ta σ H fun x H' => ∃ k, TruV X.K x H' k ∧ Q k H') := by
  intro pins s σ H Q I h
  exact isTrue_plain (thn (ha pins s σ H _ I h) fun v s1 ⟨x, H1, I1, r1, q1⟩ => tru_ok pins s1 σ H1 x v Q I1 r1 q1) (he _)
theorem op_add_str : OpR X (binaryOp .Add) (fun x y H Q => ∃ i j, x = .str i ∧ y = .str j ∧ i.length + j.length ≤ sizeLine ∧ Q (.str (i ++ j)) H) := by
  intro pins s σ H x y v u Q I rx ry h
  obtain ⟨i, j, rfl, rfl, hz, q⟩ := h
  obtain ⟨t, rfl⟩ := rx
  obtain ⟨t', rfl⟩ := ry
  exact add_str (fun t' tk => ⟨.str (i ++ j), H, I.tok _, ⟨_, rfl⟩, q⟩) hz
theorem vals1 {x : V} {us : List Value} (r : Vals [x] us) : ∃ u, us = [u] ∧ RelV x u := by
  cases r with
  | cons r1 r2 => cases r2; exact ⟨_, rfl, r1⟩
theorem vals2 {x y : V} {us : List Value} (r : Vals [x, y] us) : ∃ u w', us = [u, w'] ∧ RelV x u ∧ RelV y w' := by
  cases r with
  | cons r1 r2 =>
    cases r2 with
    | cons r3 r4 => cases r4; exact ⟨_, _, rfl, r1, r3⟩
theorem call_max2 (hc : X.calm = true) : CallR X (.builtin "max") (fun xs H Q => ∃ i j, xs = [.int i, .int j] ∧ Q (.int (if j > i then j else i)) H) := by
  intro pins s σ H xs us Q I r h
  obtain ⟨i, j, rfl, q⟩ := h
  obtain ⟨u, w', rfl, ⟨t, rfl⟩, ⟨t', rfl⟩⟩ := vals2 r
  refine max_two_ints (I.ok.hd hc) fun h' tk k => ⟨_, H, I.kept k, ?_, q⟩
  by_cases hj : j > i
  · rw [if_pos hj, if_pos hj]; exact ⟨_, rfl⟩
  · rw [if_neg hj, if_neg hj]; exact ⟨_, rfl⟩
theorem call_min2 (hc : X.calm = true) : CallR X (.builtin "min") (fun xs H Q => ∃ i j, xs = [.int i, .int j] ∧ Q (.int (if j < i then j else i)) H) := by
  intro pins s σ H xs us Q I r h
  obtain ⟨i, j, rfl, q⟩ := h
  obtain ⟨u, w', rfl, ⟨t, rfl⟩, ⟨t', rfl⟩⟩ := vals2 r
  refine min_two_ints (I.ok.hd hc) fun h' tk k => ⟨_, H, I.kept k, ?_, q⟩
  by_cases hj : j < i
  · rw [if_pos hj, if_pos hj]; exact ⟨_, rfl⟩
  · rw [if_neg hj, if_neg hj]; exact ⟨_, rfl⟩
end
end L2
namespace L2
open PySem PySem.Spec PyProof.Rows
structure ObjM (h : Heap) (x dx C : Addr) (mA : Str → Option Value) : Prop where
  obj : h.get? x = some (PySem.W.instObj C dx)
  ns : h.Ns1 dx mA
  ne : dx ≠ x
theorem lookIn_ns {h : Heap} {dx : Addr} {mA : Str → Option Value} (n : h.Ns1 dx mA) : ∃ od, h.get? dx = some od ∧ ∀ name, PySem.W.lookIn name od = some (mA name) := by
  obtain ⟨o, es, ep, ho, hd, hk, _, hm⟩ := n
  refine ⟨o, ho, fun name => ?_⟩
  have e := hm name
  unfold nsFind findBy at e
  rw [← Array.find?_toList] at e
  unfold PySem.W.lookIn
  rw [hd]
  dsimp only
  split
  · rename_i y q
    rw [q] at e
    exact congrArg some e
  · rename_i q
    rw [q] at e
    have a : es.toList.any (·.refKey) = false := by
      rw [List.any_eq_false]
      intro y hy
      obtain ⟨z, t, hkey⟩ := hk y (Array.mem_toList_iff.mp hy)
      simp [DictEntry.refKey, hkey]
    have a' : ¬ es.toList.any (·.refKey) = true := by rw [a]; exact Bool.false_ne_true
    rw [if_neg a']
    exact congrArg some e
theorem ObjM.look {h : Heap} {x dx C : Addr} {mA : Str → Option Value} (I : ObjM h x dx C mA) : ∃ od, PySem.W.InstAt h x (PySem.W.instObj C dx) C (some od) ∧ ∀ name, PySem.W.lookIn name od = some (mA name) :=
  let ⟨od, ho, hl⟩ := lookIn_ns I.ns
  ⟨od, ⟨I.obj, rfl, rfl, ho⟩, hl⟩
section
variable {prog : Program} {w : World} {A : Around} {E : Value → Shared → Prop} {s : Shared} {K : PySem.W.Frag} {x dx C f : Addr} {mA : Str → Option Value} {name : Str} {v : Value}
end
theorem RelO.some_of {v : V} {o : Option Value} (r : RelO (some v) o) : ∃ u, o = some u ∧ RelV v u := by
  cases o with
  | none => exact (show False from r).elim
  | some u => exact ⟨u, rfl, r⟩
section
variable {P : Program} {w : World} {H H' : Hp} {h h' : Heap} {a C dx : Addr} {fs fs' : List (Str × V)}
theorem ins_get (hok : HOk P w H h) (e : H a = some (.ins C dx fs)) : ∃ mA, ObjM h a dx C mA ∧ (∀ f, RelO (fs.lookup f) (mA f)) ∧ PySem.Within mA (fs.map (·.1)) ∧ fs.length ≤ 1000 ∧ H dx = some (.own a) := by
  obtain ⟨d, z, ne, ob, mA, n, r, q⟩ := (show ObjOk P w H h a (.ins C dx fs) from hok a _ e)
  exact ⟨mA, ⟨ob, n, ne⟩, r, q, z, d⟩
end
structure Cls (K : PySem.W.Frag) (C : Addr) : Prop where
  pg : PySem.W.plainGet K C Str.empty = true
  hd : PySem.W.hasDictIn K C = true
  po : PySem.W.plainOver K C = true
  sa : PySem.W.findIn K (.ref C) "__setattr__" = some (some (.builtin "object.__setattr__"))
theorem Cls.get {K : PySem.W.Frag} {C : Addr} (c : Cls K C) (f : Str) : PySem.W.plainGet K C f = true := c.pg
section
variable {X : Cx} {pins : List (Addr × Obj)} {σ : St} {H : Hp} {s : Shared} {a C dx : Addr} {fs : List (Str × V)} {f : Str} {v : V} {A : Around} {E : Value → Shared → Prop}
end
section
variable {X : Cx} {o e value : Expr} {f : Str} {pos pos' tpos : Pos} {ta tv : TE}
end
section
variable {X : Cx} {pins : List (Addr × Obj)} {σ : St} {H : Hp} {s : Shared} {A : Around} {E : Value → Shared → Prop} {Q : Value → Shared → Prop} {c : Value} {b : Bool}
inductive TyOf (K : PySem.W.Frag) (H : Hp) : V → Value → Prop where
  | non : TyOf K H .non (.type "NoneType")
  | bl (x : Bool) : TyOf K H (.bl x) (.type "bool")
  | int (i : Int) : TyOf K H (.int i) (.type "int")
  | str (x : Str) : TyOf K H (.str x) (.type "str")
  | flt (x : UInt64) : TyOf K H (.flt x) (.type "float")
  | lst {a : Addr} {xs : List V} (e : H a = some (.lst xs)) : TyOf K H (.ref a) (.type "list")
  | frz {a : Addr} {o : Obj} {xs : List V} (e : H a = some (.frz o (.lst xs))) : TyOf K H (.ref a) (.type "list")
  | tup {a : Addr} {xs : List V} (e : H a = some (.tup xs)) : TyOf K H (.ref a) (.type "tuple")
  | dK {a : Addr} {kvs : List (Key × V)} (e : H a = some (.dK kvs)) : TyOf K H (.ref a) (.type "dict")
  | dT {a : Addr} {kvs : List (List Key × V)} (e : H a = some (.dT kvs)) : TyOf K H (.ref a) (.type "dict")
  | ins {a C dx : Addr} {fs : List (Str × V)} (e : H a = some (.ins C dx fs)) (cl : Cls K C) (ha : PySem.W.findIn K (.ref C) "__class__" = some (some (.builtin "object.__class__")))
      (hn : PySem.W.specialIn K (.builtin "object.__class__") "__get__" = some (some (.builtin "getset_descriptor.__get__"))) (htk : PySem.W.takesIn K (.builtin "object.__class__") = some true)
      (hm : PySem.W.mroIn K C (.type "object") = some true) : TyOf K H (.ref a) (.ref C)
theorem isinst_ok {x : V} {u t : Value} (I : Inv X pins σ H s) (rx : RelV x u) (ty : TyOf X.K H x t) (e : PySem.W.kitOne X.K t c = some b) (h : ∀ tk, Q (.bool b) { s with toks := tk }) :
    wpAny (model X.prog X.w) A (call (.builtin "isinstance") [u, c]) Q E s := by
  cases ty with
  | non => cases (show u = Value.none from rx); exact PySem.W.kia_one PySem.W.kitx_none I.kIn True.intro e (fun z => nomatch z) h
  | bl y => cases (show u = Value.bool y from rx); exact PySem.W.kia_one PySem.W.kitx_bool I.kIn True.intro e (fun z => nomatch z) h
  | int i => obtain ⟨t, q⟩ := (show ∃ t, u = Value.int i t from rx); cases q; exact PySem.W.kia_one PySem.W.kitx_int I.kIn True.intro e (fun z => nomatch z) h
  | str y => obtain ⟨t, q⟩ := (show ∃ t, u = Value.str y t from rx); cases q; exact PySem.W.kia_one PySem.W.kitx_str I.kIn True.intro e (fun z => nomatch z) h
  | flt y => obtain ⟨t, q⟩ := (show ∃ t, u = Value.float y t from rx); cases q; exact PySem.W.kia_one PySem.W.kitx_float I.kIn True.intro e (fun z => nomatch z) h
  | @lst a xs ea =>
    cases (show u = Value.ref a from rx)
    obtain ⟨_, _, n, _, h1⟩ := (show ObjOk X.prog X.w H s.heap a (.lst xs) from I.hok a _ ea)
    exact PySem.W.kia_one PySem.W.kitx_list I.kIn ⟨_, h1, rfl⟩ e (fun z => nomatch z) h
  | @frz a ob xs ea =>
    cases (show u = Value.ref a from rx)
    obtain ⟨_, _, _, n, _, h1⟩ := (show ObjOk X.prog X.w H s.heap a (.frz ob (.lst xs)) from I.hok a _ ea)
    exact PySem.W.kia_one PySem.W.kitx_list I.kIn ⟨_, h1, rfl⟩ e (fun z => nomatch z) h
  | @tup a xs ea =>
    cases (show u = Value.ref a from rx)
    obtain ⟨_, _, _, p⟩ := (show ObjOk X.prog X.w H s.heap a (.tup xs) from I.hok a _ ea)
    obtain ⟨o, h1, h2, _⟩ := p
    exact PySem.W.kia_one PySem.W.kitx_tuple I.kIn ⟨o, h1, h2⟩ e (fun z => nomatch z) h
  | @dK a kvs ea =>
    cases (show u = Value.ref a from rx)
    obtain ⟨_, _, vs, _, p⟩ := (show ObjOk X.prog X.w H s.heap a (.dK kvs) from I.hok a _ ea)
    obtain ⟨o, es, ep, h1, h2, _⟩ := p
    exact PySem.W.kia_one PySem.W.kitx_dict I.kIn ⟨o, h1, h2.1⟩ e (fun z => nomatch z) h
  | @dT a kvs ea =>
    cases (show u = Value.ref a from rx)
    obtain ⟨_, _, xs, _, o, es, ep, h1, h2, _⟩ := (show ObjOk X.prog X.w H s.heap a (.dT kvs) from I.hok a _ ea)
    exact PySem.W.kia_one PySem.W.kitx_dict I.kIn ⟨o, h1, h2.1⟩ e (fun z => nomatch z) h
  | @ins a C dx fs ea cl ha hn htk hm =>
    cases (show u = Value.ref a from rx)
    obtain ⟨mA, O, _⟩ := ins_get I.hok ea
    obtain ⟨od, J, _⟩ := O.look
    exact PySem.W.kia_one (PySem.W.kitx_own (cl.get _) cl.hd ha hn htk hm) I.kIn J e (fun z => nomatch z) h
end
end L2
namespace L2
open PySem PySem.Spec PyProof.Rows
structure Room (k : Nat) (A : Around) : Prop where
  hd : A.handled = none
  dp : A.depth + 3 * k + 5 < recursionLimit
  un : A.units + 16 * k + 200 < cLine
theorem Room.mono {j k : Nat} {A : Around} (r : Room k A) (h : j ≤ k) : Room j A := ⟨r.hd, by have := r.dp; omega, by have := r.un; omega⟩
theorem Room.deeper {k : Nat} {A : Around} (r : Room (k + 1) A) (env : Env) : Room k (A.deeper env) :=
  ⟨r.hd, by have := r.dp; show A.depth + 1 + 3 * k + 5 < _; omega, by have := r.un; show A.units + 3 + 16 * k + 200 < _; omega⟩
theorem Room.in1 {k : Nat} {A : Around} (r : Room (k + 1) A) : Room k A.in1 :=
  ⟨r.hd, by have := r.dp; show A.depth + 3 * k + 5 < _; omega, by have := r.un; show A.units + 1 + 16 * k + 200 < _; omega⟩
theorem Room.depth {k : Nat} {A : Around} (r : Room k A) : A.depth < recursionLimit := by have := r.dp; omega
theorem Room.units {k : Nat} {A : Around} (r : Room k A) : A.units + 64 < cLine := by have := r.un; omega
def tNil : TA := fun _ H Q => Q [] H
def tCons (ta : TE) (tr : TA) : TA := fun σ H Q => ta σ H fun x H1 => tr σ H1 fun xs H2 => Q (x :: xs) H2
section
variable {X : Cx} {e : Expr} {es : List Expr} {te : TE} {t : TA} {pos : Pos}
theorem pa_nil : PA X [] tNil := fun _ _ _ _ H Q I h => Calls.spliced_nil ⟨[], H, I, .nil, h⟩
theorem pa_cons (ha : PE X e te) (hr : PA X es t) (hs : starEach (e :: es) X.env = (false, eval e X.env) :: starEach es X.env := by rfl) : PA X (e :: es) (tCons te t) := by
  intro pos pins s σ H Q I h
  rw [hs]
  show wpAny _ _ (spliced ((false, eval e X.env) :: backTo pos (starEach es X.env))) _ _ s
  refine Calls.spliced_cons (thn (ha pins s σ H _ I h) fun u s1 ⟨x, H1, I1, r1, q1⟩ => ?_)
  exact thn (hr pos pins s1 σ H1 _ I1 q1) fun us s2 ⟨xs, H2, I2, r2, q2⟩ => ⟨x :: xs, H2, I2, .cons r1 r2, q2⟩
def tTup (t : TA) : TE := fun σ H Q => t σ H fun xs H1 => xs.length ≤ sizeLine ∧ ∀ p, H1 p = none → Q (.ref p) (upd H1 p (.tup xs))
def tLst (t : TA) : TE := fun σ H Q => t σ H fun xs H1 => xs.length ≤ sizeLine ∧ ∀ p, H1 p = none → Q (.ref p) (upd H1 p (.lst xs))
theorem pe_tup {x1} (h : PA X es t) : PE X (.Tuple es x1 pos) (tTup t) := by
  intro pins s σ H Q I hq
  refine wpAny_Tuple_spliced (thn (h pos pins s σ H _ I hq) fun us s1 ⟨xs, H1, I1, r, z, q⟩ => ⟨by rw [← r.length]; exact z, ?_⟩)
  have hf : H1 s1.heap.objs.size = none := I1.hok.fresh (Nat.le_refl _)
  refine ⟨.ref s1.heap.objs.size, upd H1 s1.heap.objs.size (.tup xs), I1.laid (t' := s1.toks) (fun b u e => Heap.get?_push_of_some _ e) (Nat.le_refl _) ?_, rfl, q _ hf⟩
  exact ⟨z, us, r, ⟨_, Heap.get?_push_size _ rfl, rfl, _, rfl⟩⟩
theorem pe_lst (h : PA X es t) : PE X (.List es pos) (tLst t) := by
  intro pins s σ H Q I hq
  refine wpAny_List_spliced (thn (h pos pins s σ H _ I hq) fun us s1 ⟨xs, H1, I1, r, z, q⟩ => ⟨by rw [← r.length]; exact z, ?_⟩)
  have hf : H1 s1.heap.objs.size = none := I1.hok.fresh (Nat.le_refl _)
  refine ⟨.ref s1.heap.objs.size, upd H1 s1.heap.objs.size (.lst xs), I1.laid (t' := s1.toks) (fun b u e => Heap.get?_push_of_some _ e) (Nat.le_refl _) ?_, rfl, q _ hf⟩
  exact ⟨z, us, 0, r, Heap.get?_push_size _ rfl⟩
end
abbrev Sp := List V → Hp → VK → XK → Prop
abbrev CXT := List Env → Hp → Shared → XK → Value → Shared → Prop
structure Env0 (P : Program) (w : World) (K : PySem.W.Frag) (mg : Str → Option Value) (base : Heap) (A : Around) (outer : List Env) (s : Shared) (H : Hp) : Prop where
  frames : A.frames = some outer
  mod : Mod K mg base
  bs : ∀ b o, base.get? b = some o → s.heap.get? b = some o ∧ H b = none
  bsz : base.objs.size ≤ s.heap.objs.size
  funs : s.heap.FunFrames base outer
  frf : ∀ b ∈ frs outer, H b = none
  hok : HOk P w H s.heap
  bare : AllBare s.gens
def CE (outer : List Env) (P : Program) (w : World) (H : Hp) (s : Shared) (Q : VK) (u : Value) (s' : Shared) : Prop :=
  ∃ v H', s'.os = s.os ∧ AllBare s'.gens ∧ Un (frs outer) [] H H' s.heap s'.heap ∧ HOk P w H' s'.heap ∧ RelV v u ∧ Q v H'
def CR (CX : CXT) (outer : List Env) (P : Program) (w : World) (H : Hp) (s : Shared) (Q : VK) (E : XK) (r : Result) (s' : Shared) : Prop :=
  match r with
  | .ok (.ret u) => CE outer P w H s Q u s'
  | .ok _ => False
  | .error e => CX outer H s E e s'
structure FnOk (P : Program) (w : World) (K : PySem.W.Frag) (mg : Str → Option Value) (base : Heap) (CX : CXT) (k : Nat) (f : Addr) (fd : FuncData) (ps : List Str) (sp : Sp) : Prop where
  len : ∀ vs H Q E, sp vs H Q E → vs.length = ps.length
  run : ∀ (A : Around) (outer : List Env) (s : Shared) (H : Hp) (args : Args) (us : List Value) (vs : List V) (Q : VK) (E : XK), Room k A → Env0 P w K mg base A outer s H → BindsTo s fd args (ps.zip us) → Vals vs us → sp vs H Q E →
    codeAny (model P w) A (.call (.ref f) args) (CR CX outer P w H s Q E) s
section
variable {X : Cx} {pins : List (Addr × Obj)} {σ : St} {H : Hp} {s s' : Shared}
theorem Inv.env0 (I : Inv X pins σ H s) : Env0 X.prog X.w X.K X.mg X.base X.A X.stack s H :=
  ⟨I.ok.frames, I.ok.mod, I.bs, Nat.le_trans I.ok.bsz I.sz, I.stack, I.stkFree, I.hok, I.bare⟩
theorem Inv.after {Q : VK} {u : Value} (I : Inv X pins σ H s) (h : CE X.stack X.prog X.w H s Q u s') : EP X pins σ Q u s' := by
  obtain ⟨v, H', os, bare, un, hok, r, q⟩ := h
  obtain ⟨hh, g, d, t, os'⟩ := s'
  obtain rfl : os' = s.os := os
  exact ⟨v, H', I.call (h' := hh) (g' := g) (d' := d) (t' := t) (ch := []) un hok bare (fun b z => absurd z (by simp)), r, q⟩
end
def tCall (sp : Sp) (dvs : List V) (E : XK) (t : TA) : TE := fun σ H Q => t σ H fun vs H1 => sp (vs ++ dvs) H1 Q E
def Binds (K : PySem.W.Frag) (fd : FuncData) (ps : List Str) (ds : List Value) : Prop :=
  ∀ (s : Shared) (us : List Value), K.In s.heap → (us ++ ds).length = ps.length → BindsTo s fd ⟨us, []⟩ (ps.zip (us ++ ds))
theorem Binds.all {K : PySem.W.Frag} {fd : FuncData} {ps : List Str} (h : ∀ us : List Value, us.length = ps.length → bindArgs fd ⟨us, []⟩ = pure (ps.zip us)) : Binds K fd ps [] := fun s us _ hl => by
  rw [List.append_nil] at hl ⊢
  exact .of_eq (h us hl)
def Passes (CX : CXT) (X : Cx) (E : XK) : Prop := ∀ (pins : List (Addr × Obj)) (σ : St) (H : Hp) (s : Shared) (e : Value) (s' : Shared), Inv X pins σ H s → CX X.stack H s E e s' → X.xe e s'
section
variable {X : Cx} {CX : CXT} {k : Nat} {f C : Addr} {fd : FuncData} {ps : List Str} {sp : Sp} {dvs : List V} {ds : List Value} {E : XK} {x m : Str} {p pos apos : Pos} {e o : Expr} {es : List Expr} {ta : TE} {t : TA}
theorem run_fn {pins : List (Addr × Obj)} {σ : St} {H : Hp} {s : Shared} {Q : VK} {us : List Value} {vs : List V} (F : FnOk X.prog X.w X.K X.mg X.base CX k f fd ps sp) (hr : Room k X.A) (hb : Binds X.K fd ps ds) (hd : Vals dvs ds) (hx : Passes CX X E)
    (I : Inv X pins σ H s) (r : Vals vs us) (h : sp (vs ++ dvs) H Q E) : wpAny (model X.prog X.w) X.A (call (.ref f) us) (EP X pins σ Q) X.xe s := by
  have r2 : Vals (vs ++ dvs) (us ++ ds) := r.append hd
  have hl : (us ++ ds).length = ps.length := by rw [← r2.length]; exact F.len _ _ _ _ h
  refine wpAny_call (codeAny_mono (F.run X.A X.stack s H ⟨us, []⟩ (us ++ ds) (vs ++ dvs) Q E hr I.env0 (hb s us I.kIn hl) r2 h) fun r s' hq => ?_)
  cases r with
  | error e => exact hx pins σ H s e s' I hq
  | ok fl =>
    cases fl with
    | ret u => exact I.after hq
    | next => exact False.elim hq
    | brk => exact False.elim hq
    | cont => exact False.elim hq
theorem pe_call (F : FnOk X.prog X.w X.K X.mg X.base CX k f fd ps sp) (hr : Room k X.A) (hg : Gl X x) (hm : X.mg x = some (.ref f)) (hk : PySem.W.keepIn X.K (.ref f) = true) (hb : Binds X.K fd ps ds) (hd : Vals dvs ds) (hx : Passes CX X E)
    (ha : PA X (e :: es) t) (hdb : (x == ("__debug__" : Str)) = false := by decide) (he : starEach (e :: es) X.env = (false, eval e X.env) :: starEach es X.env := by rfl) (hpl : (backTo pos (starEach es X.env)).any (·.1) = false := by rfl) :
    PE X (.Call (.Name x p) (e :: es) [] pos) (tCall sp dvs E t) := by
  intro pins s σ H Q I h
  refine wpAny_Call_Name_kw (ld_glob I hg hm ?_ hdb)
  refine PySem.W.callWith_K (h₀ := X.base) I.ok.mod.kin hk (thn (ha pos pins s σ H _ I h) fun us s1 ⟨vs, H1, I1, r, q⟩ => ⟨I1.kIn, ?_⟩) he hpl
  exact run_fn F hr hb hd hx I1 r q
end
def PK (X : Cx) (kws : List Keyword) (t : TA) : Prop :=
  ∀ (pos : Pos) (pins : List (Addr × Obj)) (s : Shared) (σ : St) (H : Hp) (Q : List V → Hp → Prop), Inv X pins σ H s → t σ H Q → wpAny (model X.prog X.w) X.A (evalAll ((backToKw pos (keywordEach kws X.env)).map (·.2))) (AP X pins σ Q) X.xe s
section
variable {X : Cx} {CX : CXT} {k : Nat} {f C : Addr} {fd : FuncData} {ps ks : List Str} {sp : Sp} {E : XK} {x m : Str} {p pos apos kpos : Pos} {e o : Expr} {es : List Expr} {kws : List Keyword} {te ta : TE} {t tk : TA} {nm : Option Str}
theorem pk_nil : PK X [] tNil := fun _ _ _ _ H Q I h => wpAny_evalAll_nil ⟨[], H, I, .nil, h⟩
theorem pk_cons (ha : PE X e te) (hr : PK X kws t) : PK X (⟨nm, e, kpos⟩ :: kws) (tCons te t) := by
  intro pos pins s σ H Q I h
  show wpAny _ _ (evalAll ((do let v ← eval e X.env; standAt pos; pure v) :: (backToKw pos (keywordEach kws X.env)).map (·.2))) _ _ s
  refine wpAny_evalAll_cons (wpAny_bind (thn (ha pins s σ H _ I h) fun u s1 ⟨x, H1, I1, r1, q1⟩ => wpAny_bind (wpAny_standAt (wpAny_pure ?_))))
  exact thn (hr pos pins s1 σ H1 _ I1 q1) fun us s2 ⟨xs, H2, I2, r2, q2⟩ => ⟨x :: xs, H2, I2, .cons r1 r2, q2⟩
variable {g : List Value → List Value → List Value} {gV : List V → List V → List V}
end
structure FnScope (N P : List Str) (sc : Scope) : Prop where
  kind : sc.kind = .function
  co : sc.isCoroutine = false
  gen : sc.isGenerator = false
  nd : N.Nodup
  pre : N.take P.length = P
  par : ∀ x ∈ P, sc.names.lookup x = some .local ∨ sc.names.lookup x = some .cell
  nofree : ∀ y ∈ sc.names, y.2 ≠ .free
theorem bindL_out {kindOf : Str → Option NameKind} {x : Str} : ∀ {binds : List (Str × Value)} {m : Str → Option Value}, (∀ v, (x, v) ∉ binds) → bindL kindOf binds m x = m x
  | [], _, _ => rfl
  | (n, v) :: r, m, h => by
    unfold bindL
    rw [bindL_out fun w hw => h w (List.mem_cons_of_mem _ hw)]
    split
    · have : x ≠ n := by rintro rfl; exact h v List.mem_cons_self
      simp [this]
    · rfl
theorem bindC_out {kindOf : Str → Option NameKind} {x : Str} : ∀ {binds : List (Str × Value)} {m : Str → Option Value}, (∀ v, (x, v) ∉ binds) → bindC kindOf binds m x = m x
  | [], _, _ => rfl
  | (n, v) :: r, m, h => by
    unfold bindC
    rw [bindC_out fun w hw => h w (List.mem_cons_of_mem _ hw)]
    split
    · rfl
    · have : x ≠ n := by rintro rfl; exact h v List.mem_cons_self
      simp [this]
theorem bindL_get {kindOf : Str → Option NameKind} {x : Str} {v : Value} : ∀ {P : List Str} {vs : List Value} {i : Nat} {m : Str → Option Value}, P.Nodup → P[i]? = some x → vs[i]? = some v → kindOf x = some .local →
    bindL kindOf (P.zip vs) m x = some v
  | [], _, _, _, _, h, _, _ => by simp at h
  | _ :: _, [], _, _, _, _, h, _ => by simp at h
  | p :: P, w :: vs, 0, m, nd, h1, h2, hk => by
    simp at h1 h2; subst h1; subst h2
    show bindL kindOf ((p, w) :: P.zip vs) m p = _
    unfold bindL
    rw [bindL_out fun v hv => (List.nodup_cons.mp nd).1 (List.of_mem_zip hv).1, if_pos hk]
    simp
  | p :: P, w :: vs, i + 1, m, nd, h1, h2, hk => by
    show bindL kindOf ((p, w) :: P.zip vs) m x = _
    unfold bindL
    exact bindL_get (i := i) (List.nodup_cons.mp nd).2 (by simpa using h1) (by simpa using h2) hk
theorem bindC_get {kindOf : Str → Option NameKind} {x : Str} {v : Value} : ∀ {P : List Str} {vs : List Value} {i : Nat} {m : Str → Option Value}, P.Nodup → P[i]? = some x → vs[i]? = some v → kindOf x ≠ some .local →
    bindC kindOf (P.zip vs) m x = some v
  | [], _, _, _, _, h, _, _ => by simp at h
  | _ :: _, [], _, _, _, _, h, _ => by simp at h
  | p :: P, w :: vs, 0, m, nd, h1, h2, hk => by
    simp at h1 h2; subst h1; subst h2
    show bindC kindOf ((p, w) :: P.zip vs) m p = _
    unfold bindC
    rw [bindC_out fun v hv => (List.nodup_cons.mp nd).1 (List.of_mem_zip hv).1, if_neg hk]
    simp
  | p :: P, w :: vs, i + 1, m, nd, h1, h2, hk => by
    show bindC kindOf ((p, w) :: P.zip vs) m x = _
    unfold bindC
    exact bindC_get (i := i) (List.nodup_cons.mp nd).2 (by simpa using h1) (by simpa using h2) hk
def start (N : List Str) (vs : List V) : St := vs.map some ++ List.replicate (N.length - vs.length) none
def cxOf (CX : CXT) (P : Program) (w : World) (K : PySem.W.Frag) (mg : Str → Option Value) (base : Heap) (N : List Str) (qual : Str) (scope : Scope) (f : Addr) (cd : Value) (A : Around) (outer : List Env) (s : Shared) (H : Hp) (E : XK) : Cx where
  prog := P
  w := w
  K := K
  mg := mg
  base := base
  A := A.deeper (envOfC qual scope s.heap.objs.size f cd)
  N := N
  s₀ := s
  H₀ := H
  env := envOfC qual scope s.heap.objs.size f cd
  outer := outer
  stack := envOfC qual scope s.heap.objs.size f cd :: outer
  ex := []
  calm := true
  fn := fun _ => true
  pn := []
  xe := fun e s' => wpAny (model P w) (A.deeper (envOfC qual scope s.heap.objs.size f cd)) (leaving (envOfC qual scope s.heap.objs.size f cd) e) (fun _ s'' => CX outer H s E e s'') (fun e' s'' => CX outer H s E e' s'') s'
theorem cell_has {sc : Scope} {n : Nat} {x : Str} (h : sc.names.lookup x = some .cell) : ∃ c, (cellsFrom n sc.names []).lookup x = some c := by
  have q := PySem.W.cellsFrom_some sc.names n [] (.inl h)
  exact Option.isSome_iff_exists.mp q
theorem inv_start {CX : CXT} {P : Program} {w : World} {K : PySem.W.Frag} {mg : Str → Option Value} {base : Heap} {N ps : List Str} {qual : Str} {scope : Scope} {f : Addr} {cd : Value} {A : Around} {outer : List Env} {s s1 : Shared} {H : Hp} {E : XK} {us : List Value} {vs : List V}
    (S : FnScope N ps scope) (hd : A.handled = none) (e0 : Env0 P w K mg base A outer s H) (hl : vs.length = ps.length) (r : Vals vs us)
    (x : InCallC s s.heap.objs.size (bindL (envOfC qual scope s.heap.objs.size f cd).kindOf (ps.zip us) fun _ => none) (cellsFrom (s.heap.objs.size + 1) scope.names []) (bindC (envOfC qual scope s.heap.objs.size f cd).kindOf (ps.zip us) fun _ => none) s1) :
    Inv (cxOf CX P w K mg base N qual scope f cd A outer s H E) [] (start N vs) H s1 := by
  have hpl : ps.length ≤ N.length := by have := congrArg List.length S.pre; rw [List.length_take] at this; omega
  obtain ⟨h1, tk, rfl, hk⟩ := x.done
  have noA : ∀ b : Addr, b ∉ (cxOf CX P w K mg base N qual scope f cd A outer s H E).ex := fun b z => absurd (show b ∈ ([] : List Addr) from z) (by simp)
  refine ⟨⟨e0.mod, S.kind, rfl, rfl, Nat.le_refl _, fun y z c h1 h2 => ?_, fun y hy => ?_, fun y c _ h => ?_, fun _ => hd, Around.frames_deeper e0.frames, .inr ⟨rfl, rfl⟩, fun b z => absurd z (noA b), e0.bs, e0.bsz, fun b _ _ => noA b, fun b z => absurd z (noA b), e0.funs, e0.frf⟩,
    rfl, e0.bare, Un.kept hk, ⟨_, x.toInCall.ns, fun i y v h1 h2 h3 => ?_⟩, fun y c h => ⟨_, x.cell y c h⟩, e0.hok.fresh (Nat.le_refl _), fun y c h => ?_, fun p hp => absurd (show p ∈ ([] : List (Addr × Obj)) from hp) (by simp), e0.hok.kept hk, ?_⟩
  · exact name_of_addr x.apart (PySem.mem_of_lookup h1) (PySem.mem_of_lookup h2)
  · have hy : scope.names.lookup y = some .cell ∨ scope.names.lookup y = some .free := hy
    rcases hy with hy | hy
    · exact cell_has hy
    · exact absurd rfl (S.nofree _ (PySem.mem_of_lookup hy))
  · exact Nat.le_of_lt (x.above y c (PySem.mem_of_lookup h))
  · have hi : i < vs.length := by
      unfold start at h2
      by_cases hi : i < vs.length
      · exact hi
      · rw [List.getElem?_append_right (by simpa using hi)] at h2
        rw [List.getElem?_replicate] at h2
        split at h2 <;> cases h2
    have ha : vs[i]? = some v := by
      unfold start at h2
      rw [List.getElem?_append_left (by simpa using hi), List.getElem?_map] at h2
      cases e : vs[i]? with
      | none => rw [e] at h2; cases h2
      | some a => rw [e] at h2; cases h2; rfl
    obtain ⟨u, hu, rv⟩ := r.get ha
    have hp : ps[i]? = some y := by
      rw [← S.pre, List.getElem?_take_of_lt (by omega)]; exact h1
    have ndP : ps.Nodup := by rw [← S.pre]; exact S.nd.sublist (List.take_sublist _ _)
    refine ⟨u, rv, ?_⟩
    rcases S.par y (List.mem_of_getElem? hp) with k | k
    · exact .inl ⟨k, bindL_get ndP hp hu k⟩
    · obtain ⟨c, e⟩ := cell_has (n := s.heap.objs.size + 1) k
      refine .inr ⟨.inl k, c, e, ?_⟩
      have q := x.cell y c e
      rw [bindC_get ndP hp hu (by show scope.names.lookup y ≠ _; rw [k]; decide)] at q
      exact q
  · exact e0.hok.fresh (Nat.le_of_lt (x.above y c (PySem.mem_of_lookup h)))
  · unfold start
    show _ = N.length
    rw [List.length_append, List.length_map, List.length_replicate]
    omega
theorem fn_of {CX : CXT} {P : Program} {w : World} {K : PySem.W.Frag} {mg : Str → Option Value} {base : Heap} {k : Nat} {f : Addr} {name qual : Str} {params : Arguments} {body : List Stmt} {scope : Scope} {dV kV doc pm cdv ct oc : Value} {an od : Option Addr}
    {osl : Array (Option Value)} {N ps : List Str} {sp : Sp} (lk : K.lookup f = some ⟨oc, od, .func (PySem.W.fnOf name qual params body scope dV kV doc pm an cdv ct), osl⟩) (hcd : PySem.W.codeIn K cdv qual = true) (S : FnScope N ps scope)
    (len : ∀ vs H Q E, sp vs H Q E → vs.length = ps.length)
    (hbody : ∀ (A : Around) (outer : List Env) (s : Shared) (H : Hp) (vs : List V) (Q : VK) (E : XK), Room k (A.deeper (envOfC qual scope s.heap.objs.size f cdv)) → sp vs H Q E →
      ∃ t, PSs (cxOf CX P w K mg base N qual scope f cdv A outer s H E) body t ∧ t { nx := fun _ H' => Q .non H', rt := Q } (start N vs) H) :
    FnOk P w K mg base CX (k + 1) f (PySem.W.fnOf name qual params body scope dV kV doc pm an cdv ct) ps sp := by
  refine ⟨len, fun A outer s H args us vs Q E hr e0 hb r hsp => ?_⟩
  have hl := len _ _ _ _ hsp
  have KX : K.In s.heap := e0.mod.kin.keeps fun b o e => (e0.bs b o e).1
  have lim : s.heap.NoLimit := e0.mod.nolimit.keeps fun b o e => (e0.bs b o e).1
  have hkind : ∀ y ∈ ps.zip us, scope.names.lookup y.1 = some .local ∨ (scope.names.lookup y.1 = some .cell ∧ ((cellsFrom (s.heap.objs.size + 1) scope.names []).lookup y.1).isSome = true) := fun ⟨n, v⟩ hy => by
    rcases S.par n (List.of_mem_zip hy).1 with q | q
    · exact .inl q
    · exact .inr ⟨q, PySem.W.cellsFrom_some _ _ _ (.inl q)⟩
  refine codeAny_call_function hr.depth (KX _ _ lk) rfl S.co S.gen rfl (PySem.W.codeRec_of KX hcd) (hb _ _ _ _ ?_)
  refine wpAny_newFunctionEnv_cells S.kind hkind fun env he s1 x => ?_
  subst he
  refine ⟨lim.keeps x.toInCall.keep, codeAny_func ?_⟩
  obtain ⟨t, ht, hq⟩ := hbody A outer s H vs Q E (hr.deeper _) hsp
  have I : Inv (cxOf CX P w K mg base N qual scope f cdv A outer s H E) [] (start N vs) H s1 := inv_start S hr.hd e0 hl r x
  refine wpAny_mono (ht [] s1 (start N vs) H _ I hq) (fun fl s' hs => ?_) fun e s' hs => hs
  have fin : ∀ {σ' : St} {H' : Hp} {v : V} {u : Value}, Inv (cxOf CX P w K mg base N qual scope f cdv A outer s H E) [] σ' H' s' → RelV v u → Q v H' → CE outer P w H s Q u s' :=
    fun {σ' H' v u} J rv q => ⟨v, H', J.os, J.bare, J.base, J.hok, rv, q⟩
  cases fl with
  | ret u =>
    obtain ⟨v, σ', H', J, rv, q⟩ := hs
    exact fin J rv q
  | next =>
    obtain ⟨σ', H', J, q⟩ := hs
    exact fin (v := V.non) (u := Value.none) J rfl q
  | brk =>
    obtain ⟨_, _, _, q⟩ := hs
    exact False.elim q
  | cont =>
    obtain ⟨_, _, _, q⟩ := hs
    exact False.elim q
end L2
namespace L2
open PySem PySem.Spec PyProof.Rows
section
variable {X : Cx} {x : Str} {p pos : Pos} {e : Expr} {es : List Expr} {t : TA} {id T : String} {r : List V → Hp → VK → Prop}
def tCB (r : List V → Hp → VK → Prop) (t : TA) : TE := fun σ H Q => t σ H fun vs H1 => r vs H1 Q
theorem pe_callB (hc : CallR X (.builtin id) r) (hg : Gl X x) (hm : X.mg x = none) (hv : bootBuiltins x = some (.builtin id)) (ha : PA X (e :: es) t) (hn : x ≠ "__name__" := by decide) (hdb : (x == ("__debug__" : Str)) = false := by decide)
    (he : starEach (e :: es) X.env = (false, eval e X.env) :: starEach es X.env := by rfl) (hpl : (backTo pos (starEach es X.env)).any (·.1) = false := by rfl) : PE X (.Call (.Name x p) (e :: es) [] pos) (tCB r t) := by
  intro pins s σ H Q I h
  refine wpAny_Call_Name_kw (ld_blt I hg hm hv ?_ hn hdb)
  exact PyProof.Rows.callWith_builtin1 (thn (ha pos pins s σ H _ I h) fun us s1 ⟨vs, H1, I1, r1, q1⟩ => hc pins s1 σ H1 vs us Q I1 r1 q1) he hpl
theorem pe_callTy (hc : CallR X (.type T) r) (hg : Gl X x) (hm : X.mg x = none) (hv : bootBuiltins x = some (.type T)) (ha : PA X (e :: es) t) (hn : x ≠ "__name__" := by decide) (hdb : (x == ("__debug__" : Str)) = false := by decide)
    (he : starEach (e :: es) X.env = (false, eval e X.env) :: starEach es X.env := by rfl) (hpl : (backTo pos (starEach es X.env)).any (·.1) = false := by rfl) : PE X (.Call (.Name x p) (e :: es) [] pos) (tCB r t) := by
  intro pins s σ H Q I h
  refine wpAny_Call_Name_kw (ld_blt I hg hm hv ?_ hn hdb)
  exact PyProof.Rows.callWith_type1 (thn (ha pos pins s σ H _ I h) fun us s1 ⟨vs, H1, I1, r1, q1⟩ => hc pins s1 σ H1 vs us Q I1 r1 q1) he hpl
end
end L2
namespace HT
open PySem PyProof.Rows
section
open PySem.SeqAt
open PySem.AutoSeq1 (wpAny_loadPart')
open PySem.MeetsSeq PySem.MeetsSeq2 PySem.MeetsSeq3
end
section
variable {prog : Program} {w : World} {A : Around} {E : Value → Shared → Prop} {s : Shared}
def sIx (n d : Nat) : Option Int → Nat
  | none => d
  | some v => if v < 0 then (v + (n : Int)).toNat else min v.toNat n
theorem sIx_none (n d : Nat) : sIx n d none = d := rfl
theorem sIx_nat (n d k : Nat) : sIx n d (some (k : Int)) = min k n := by
  show (if (k : Int) < 0 then ((k : Int) + (n : Int)).toNat else min (k : Int).toNat n) = min k n
  rw [if_neg (by omega), Int.toNat_natCast]
end
end HT
namespace L2
open PySem PySem.Spec PyProof.Rows
abbrev TO := St → Hp → (Option Int → Hp → Prop) → Prop
def PO (X : Cx) (e : Option Expr) (t : TO) : Prop :=
  ∀ (pins : List (Addr × Obj)) (s : Shared) (σ : St) (H : Hp) (Q : Option Int → Hp → Prop), Inv X pins σ H s → t σ H Q →
    wpAny (model X.prog X.w) X.A (evalPart e X.env) (fun u s' => ∃ o H', Inv X pins σ H' s' ∧ IsPart u o ∧ Q o H') X.xe s
def tNoPart : TO := fun _ H Q => Q none H
def tPart (t : TE) : TO := fun σ H Q => t σ H fun x H1 => ∃ i, x = .int i ∧ Q (some i) H1
section
variable {X : Cx} {e : Expr} {te : TE} {lo hi : Option Expr} {tl th : TO} {pos p2 : Pos}
theorem po_none : PO X none tNoPart := by
  intro pins s σ H Q I h
  rw [evalPart_none]
  exact wpAny_pure ⟨none, H, I, .none, h⟩
theorem po_some (h : PE X e te) : PO X (some e) (tPart te) := by
  intro pins s σ H Q I hw
  rw [evalPart_some]
  refine thn (h pins s σ H _ I hw) fun u s1 ⟨x, H1, I1, r1, q1⟩ => ?_
  obtain ⟨i, rfl, q⟩ := q1
  obtain ⟨t, rfl⟩ := r1
  exact ⟨some i, H1, I1, .int i t, q⟩
def SlR (X : Cx) (r : V → Option Int → Option Int → Hp → VK → Prop) : Prop :=
  ∀ (pins : List (Addr × Obj)) (s : Shared) (σ : St) (H : Hp) (x : V) (v vl vu : Value) (lo hi : Option Int) (sl : Addr) (Q : VK), Inv X pins σ H s → RelV x v → s.heap.IsSliceOf sl vl vu .none → IsPart vl lo → IsPart vu hi → r x lo hi H Q →
    ∃ T id, typeLookup (.type T) "__getitem__" = pure (some (.builtin id)) ∧ s.TypeIs v T ∧ wpAny (model X.prog X.w) X.A (getItem v (.ref sl)) (EP X pins σ Q) X.xe s
def tSl (r : V → Option Int → Option Int → Hp → VK → Prop) (te : TE) (tl th : TO) : TE := fun σ H Q => te σ H fun x H1 => tl σ H1 fun l H2 => th σ H2 fun u H3 => r x l u H3 Q
theorem pe_slice {r : V → Option Int → Option Int → Hp → VK → Prop} (hr : SlR X r) (he : PE X e te) (hl : PO X lo tl) (hu : PO X hi th) : PE X (.Subscript e (.Slice lo hi none p2) pos) (tSl r te tl th) := by
  intro pins s σ H Q I h
  refine Subscript_ (thn (he pins s σ H _ I h) fun v s1 ⟨x, H1, I1, r1, q1⟩ => ?_)
  refine wpAny_Slice (thn (hl pins s1 σ H1 _ I1 q1) fun vl s2 ⟨l, H2, I2, pl, q2⟩ => thn (hu pins s2 σ H2 _ I2 q2) fun vu s3 ⟨u, H3, I3, pu, q3⟩ => ?_)
  rw [evalPart_none]
  refine wpAny_pure ?_
  have I4 : Inv X pins σ H3 { s3 with heap := s3.heap.push { cls := .type "slice", data := .fields #[vl, vu, .none] } } := I3.kept (t' := s3.toks) fun b ob q => Heap.get?_push_of_some _ q
  obtain ⟨T, id, hT, ht, hg⟩ := hr pins { s3 with heap := s3.heap.push { cls := .type "slice", data := .fields #[vl, vu, .none] } } σ H3 x v vl vu l u s3.heap.objs.size Q I4 r1 (Heap.IsSliceOf.new ..) pl pu q3
  show wpAny (model X.prog X.w) X.A (subscriptTail e (.Slice lo hi none p2) v (.ref s3.heap.objs.size)) (EP X pins σ Q) X.xe { s3 with heap := s3.heap.push { cls := .type "slice", data := .fields #[vl, vu, .none] } }
  exact tail_any (ops := [.ref s3.heap.objs.size, v]) ht hT hg (by with_unfolding_all rfl)
def cutV (xs : List V) (lo hi : Option Int) : List V := (xs.drop (HT.sIx xs.length 0 lo)).take (HT.sIx xs.length xs.length hi - HT.sIx xs.length 0 lo)
theorem cutV_length (xs : List V) (lo hi : Option Int) : (cutV xs lo hi).length ≤ xs.length := by
  unfold cutV
  rw [List.length_take, List.length_drop]
  omega
end
end L2
namespace L2
open PySem PySem.Spec PyProof.Rows
def ixN (n : Nat) (i : Int) : Option Nat := if 0 ≤ i then (if i < n then some i.toNat else none) else if -(n : Int) ≤ i then some (i + n).toNat else none
def atI {α : Type} (xs : List α) (i : Int) : Option α := (ixN xs.length i).bind fun j => xs[j]?
theorem ixN_seq {n : Nat} {i : Int} {j : Nat} (h : ixN n i = some j) : seqIndex? i n = some j ∧ j < n ∧ -(n : Int) ≤ i ∧ i < n := by
  unfold ixN at h
  by_cases h0 : 0 ≤ i
  · rw [if_pos h0] at h
    by_cases h1 : i < n
    · rw [if_pos h1] at h
      have e : i.toNat = j := Option.some.inj h
      exact ⟨by rw [seqIndex_of h0 h1, e], by omega, by omega, h1⟩
    · rw [if_neg h1] at h; cases h
  · rw [if_neg h0] at h
    by_cases h1 : -(n : Int) ≤ i
    · rw [if_pos h1] at h
      have e : (i + n).toNat = j := Option.some.inj h
      exact ⟨by rw [seqIndex_neg (by omega) h1, e], by omega, h1, by omega⟩
    · rw [if_neg h1] at h; cases h
theorem atI_get {α : Type} {xs : List α} {i : Int} {v : α} (h : atI xs i = some v) : ∃ j, seqIndex? i xs.length = some j ∧ xs[j]? = some v ∧ j < xs.length ∧ -(xs.length : Int) ≤ i ∧ i < xs.length := by
  unfold atI at h
  cases e : ixN xs.length i with
  | none => rw [e] at h; cases h
  | some j =>
    rw [e] at h
    obtain ⟨h1, h2, h3, h4⟩ := ixN_seq e
    exact ⟨j, h1, h, h2, h3, h4⟩
theorem atI_last {α : Type} (xs : List α) (v : α) : atI (xs ++ [v]) (-1) = some v := by
  have hl : (xs ++ [v]).length = xs.length + 1 := by simp
  have e : ixN (xs ++ [v]).length (-1) = some xs.length := by
    unfold ixN
    rw [hl, if_neg (by decide), if_pos (by omega)]
    congr 1
    omega
  unfold atI
  rw [e]
  show (xs ++ [v])[xs.length]? = some v
  simp
def PlainIx (b : Expr) : Prop := ∀ o i, subscripted b false o i = operate [o, i] (getItem o i)
def IxR (X : Cx) (r : R2) : Prop :=
  ∀ (value slice : Expr) (pins : List (Addr × Obj)) (s : Shared) (σ : St) (H : Hp) (x y : V) (v u : Value) (Q : VK), Inv X pins σ H s → RelV x v → RelV y u → r x y H Q →
    subscripted slice false v u = operate [v, u] (getItem v u) → wpAny (model X.prog X.w) X.A (subscriptTail value slice v u) (EP X pins σ Q) X.xe s
def MtR (X : Cx) (id : String) (r : V → List V → Hp → VK → Prop) : Prop :=
  ∀ (pins : List (Addr × Obj)) (s : Shared) (σ : St) (H : Hp) (x : V) (xs : List V) (v : Value) (us : List Value) (Q : VK), Inv X pins σ H s → RelV x v → Vals xs us → r x xs H Q →
    wpAny (model X.prog X.w) X.A (call (.builtin id) (v :: us)) (EP X pins σ Q) X.xe s
section
variable {X : Cx} {a b : Expr} {ta tb : TE} {pos : Pos}
theorem pe_ix {r : R2} (hr : IxR X r) (ha : PE X a ta) (hb : PE X b tb) (hs : PlainIx b) : PE X (.Subscript a b pos) (tOp r ta tb) := by
  intro pins s σ H Q I h
  exact Subscript_ (binT ha hb I h fun v u s2 x y H2 I2 rx ry q => hr a b pins s2 σ H2 x y v u Q I2 rx ry q (hs _ _))
def rIxL (K : PySem.W.Frag) : R2 := fun x y H Q => ∃ p xs i v, x = .ref p ∧ y = .int i ∧ SqL K H p xs ∧ atI xs i = some v ∧ Q v H
def rIxT (K : PySem.W.Frag) : R2 := fun x y H Q => ∃ p xs i v, x = .ref p ∧ y = .int i ∧ SqT K H p xs ∧ atI xs i = some v ∧ Q v H
def rIxS : R2 := fun x y H Q => ∃ z i c, x = .str z ∧ y = .int i ∧ z.length ≤ sizeLine ∧ atI z.cps.toList i = some c ∧ Q (.str ⟨#[c]⟩) H
theorem ix_list : IxR X (rIxL X.K) := by
  intro value slice pins s σ H x y v u Q I rx ry h hs
  obtain ⟨p, xs, i, z, rfl, rfl, hq, he, q⟩ := h
  cases rx
  obtain ⟨t, rfl⟩ := ry
  obtain ⟨its, r, pl, hz⟩ := I.list hq
  obtain ⟨j, h1, h2, h3, h4, h5⟩ := atI_get he
  obtain ⟨w, ew, rw'⟩ := r.get h2
  have hl := r.length
  have hn := line63
  have fin : EP X pins σ Q w s := ⟨z, H, I, rw', q⟩
  by_cases h0 : 0 ≤ i
  · have hj : i.toNat = j := by
      rw [seqIndex_of h0 h5] at h1
      exact Option.some.inj h1
    exact item_listR pl.isList h0 (by omega) (by rw [hj]; simpa using ew) fin hs
  · have hj : (i + (its.toArray.size : Int)).toNat = j := by
      rw [seqIndex_neg (by omega) h4] at h1
      rw [List.size_toArray, ← hl]
      exact Option.some.inj h1
    exact subscriptTail_builtinR (x := w) pl.isList.typeIs slot_list_getitem.lookup
      (wpAny_getItem_list_neg (Q := fun r s' => r = w ∧ EP X pins σ Q r s') pl.isList (by omega) (by rw [List.size_toArray] <;> omega) (by omega) (by rw [hj]; simpa using ew) ⟨rfl, fin⟩) hs
theorem ix_tup : IxR X (rIxT X.K) := by
  intro value slice pins s σ H x y v u Q I rx ry h hs
  obtain ⟨p, xs, i, z, rfl, rfl, hq, he, q⟩ := h
  cases rx
  obtain ⟨t, rfl⟩ := ry
  obtain ⟨its, r, pl, hz⟩ := I.tuple hq
  obtain ⟨j, h1, h2, h3, h4, h5⟩ := atI_get he
  obtain ⟨w, ew, rw'⟩ := r.get h2
  have hl := r.length
  have hn := line63
  have fin : EP X pins σ Q w s := ⟨z, H, I, rw', q⟩
  exact subscriptTail_builtinR (x := w) pl.typeIs slot_tuple_getitem.lookup
    (getItem_tuple (j := j) (Q := fun r s' => r = w ∧ EP X pins σ Q r s') pl (by omega) (by omega) (by rw [List.size_toArray, ← hl]; exact h1) (by simpa using ew) ⟨rfl, fin⟩) hs
theorem ix_str : IxR X rIxS := by
  intro value slice pins s σ H x y v u Q I rx ry h hs
  obtain ⟨z, i, c, rfl, rfl, hz, he, q⟩ := h
  obtain ⟨t, rfl⟩ := rx
  obtain ⟨t', rfl⟩ := ry
  obtain ⟨j, h1, h2, h3, h4, h5⟩ := atI_get he
  have hl : z.cps.toList.length = z.length := by simp [Str.length]
  rw [hl] at h1 h4 h5
  have hn := line63
  exact tail_any (typeIs_str s z t) slot_str_getitem.lookup (getItem_str (c := c) (by
    have e1 : decide (i < -(2 ^ 63 : Int)) = false := decide_eq_false (by omega)
    have e2 : decide (i ≥ 2 ^ 63) = false := decide_eq_false (by omega)
    rw [e1, e2, Bool.or_false]) (by rw [h1]; simpa using h2) ⟨.str ⟨#[c]⟩, H, I.tok _, ⟨_, rfl⟩, q⟩) hs
theorem mapSeq_set (its : List Value) (n j : Nat) (u : Value) : Obj.mapSeq (·.setIfInBounds j u) { cls := .type "list", data := .seq its.toArray n } = { cls := .type "list", data := .seq (its.set j u).toArray n } := by
  simp [Obj.mapSeq]
theorem Inv.lst {pins : List (Addr × Obj)} {σ : St} {H : Hp} {s : Shared} {p : Addr} {xs : List V} (I : Inv X pins σ H s) (h : H p = some (.lst xs)) :
    ∃ (its : List Value) (n : Nat), Vals xs its ∧ s.heap.get? p = some { cls := .type "list", data := .seq its.toArray n } ∧ xs.length ≤ sizeLine := by
  obtain ⟨z, its, n, r, e⟩ := I.hok p _ h
  exact ⟨its, n, r, e, z⟩
theorem Inv.lstUpd {pins : List (Addr × Obj)} {σ : St} {H : Hp} {s : Shared} {p : Addr} {xs ys : List V} {its its' : List Value} {n n' : Nat} {f : Obj → Obj} (I : Inv X pins σ H s) (h : H p = some (.lst xs))
    (ho : s.heap.get? p = some { cls := .type "list", data := .seq its.toArray n }) (hf : f { cls := .type "list", data := .seq its.toArray n } = { cls := .type "list", data := .seq its'.toArray n' }) (r : Vals ys its') (hz : ys.length ≤ sizeLine) (t : Nat) :
    Inv X pins σ (upd H p (.lst ys)) { s with heap := s.heap.update p f, toks := t } := by
  have e : (s.heap.update p f).get? p = some { cls := .type "list", data := .seq its'.toArray n' } := by
    rw [Heap.get?_update_self f ho (by rw [hf] <;> rfl), hf]
  refine I.write (x := p) (e := p) (by rw [h]; trivial) (.inl rfl) (fun b u hb q => (Heap.get?_update_other _ _ (Ne.symm hb)).trans q) ⟨_, e⟩ ?_
  exact ⟨hz, its', n', r, e⟩
def rSetL : V → V → V → Hp → (Hp → Prop) → Prop := fun o i v H Q => ∃ p xs k j, o = .ref p ∧ i = .int k ∧ H p = some (.lst xs) ∧ ixN xs.length k = some j ∧ Q (upd H p (.lst (xs.set j v)))
theorem set_list : PSet X rSetL := by
  intro pins s σ H o i v ov iv u Q I ro ri rv h
  obtain ⟨p, xs, k, j, rfl, rfl, hp, hj, q⟩ := h
  cases ro
  obtain ⟨t, rfl⟩ := ri
  obtain ⟨its, n, r, ho, hz⟩ := I.lst hp
  obtain ⟨h1, h2, h3, h4⟩ := ixN_seq hj
  have hl := r.length
  have hn := line63
  have I' : Inv X pins σ (upd H p (.lst (xs.set j v))) { s with heap := s.heap.update p (Obj.mapSeq (·.setIfInBounds j u)) } :=
    I.lstUpd hp ho (mapSeq_set its n j u) (r.set rv j) (by rw [List.length_set]; exact hz) s.toks
  by_cases h0 : 0 ≤ k
  · have hk : k.toNat = j := by
      rw [seqIndex_of h0 h4] at h1
      exact Option.some.inj h1
    exact PySem.W.ki_setAt ho h0 (by omega) (by rw [List.size_toArray, ← hl]; exact h4) (by rw [hk]; exact ⟨_, I', q⟩)
  · have hk : (k + (its.toArray.size : Int)).toNat = j := by
      rw [seqIndex_neg (by omega) h3] at h1
      rw [List.size_toArray, ← hl]
      exact Option.some.inj h1
    exact PySem.W.ki_setBack ho (by omega) (by rw [List.size_toArray, ← hl]; exact h3) (by omega) (by rw [hk]; exact ⟨_, I', q⟩)
theorem slice_bounds (lo hi : Option Int) (n : Nat) : (sliceBounds lo hi none n).1 = ((HT.sIx n 0 lo : Nat) : Int) ∧ (sliceBounds lo hi none n).2.1 = ((HT.sIx n n hi : Nat) : Int) ∧ (sliceBounds lo hi none n).2.2 = 1 := by
  refine ⟨?_, ?_, rfl⟩
  · cases lo with
    | none => simp [sliceBounds, HT.sIx]
    | some i =>
      simp only [sliceBounds, HT.sIx, Option.getD_none, show (1 : Int) > 0 by decide, if_true]
      by_cases h : i < 0
      · simp only [h, if_true] <;> omega
      · simp only [h, if_false] <;> omega
  · cases hi with
    | none => simp [sliceBounds, HT.sIx]
    | some i =>
      simp only [sliceBounds, HT.sIx, Option.getD_none, show (1 : Int) > 0 by decide, if_true]
      by_cases h : i < 0
      · simp only [h, if_true] <;> omega
      · simp only [h, if_false] <;> omega
theorem slicePick_cut (its : List Value) (lo hi : Option Int) : slicePick its.toArray lo hi none = ((its.drop (HT.sIx its.length 0 lo)).take (HT.sIx its.length its.length hi - HT.sIx its.length 0 lo)).toArray := by
  obtain ⟨h1, h2, h3⟩ := slice_bounds lo hi its.toArray.size
  unfold slicePick
  rw [h1, h2, h3]
  simp only [sliceRange_one, pick_run, List.size_toArray] <;> rfl
def rSlL (K : PySem.W.Frag) : V → Option Int → Option Int → Hp → VK → Prop := fun x lo hi H Q => ∃ a xs, x = .ref a ∧ SqL K H a xs ∧ ∀ p, H p = none → Q (.ref p) (upd H p (.lst (cutV xs lo hi)))
theorem sl_list : SlR X (rSlL X.K) := by
  intro pins s σ H x v vl vu lo hi sl Q I rx hs pl pu h
  obtain ⟨a, xs, rfl, hx, q⟩ := h
  cases rx
  obtain ⟨its, r, ht, hz⟩ := I.list hx
  have hlen := r.length
  refine ⟨"list", _, slot_list_getitem.lookup, ht.isList.typeIs, ?_⟩
  refine wpAny_getItem_list_slice ht.isList hs pl pu .none (by simp) ?_ (by rw [List.size_toArray] <;> omega)
  rw [slicePick_cut, ← hlen]
  refine ⟨.ref s.heap.objs.size, _, I.laid (t' := s.toks) (o := .lst (cutV xs lo hi)) (fun b ob q => Heap.get?_push_of_some _ q) (Nat.le_refl _) ?_, rfl, q _ (I.hok.fresh (Nat.le_refl _))⟩
  exact ⟨Nat.le_trans (cutV_length xs lo hi) hz, _, 0, (r.drop (HT.sIx xs.length 0 lo)).take (HT.sIx xs.length xs.length hi - HT.sIx xs.length 0 lo), Heap.get?_push_size _ rfl⟩
def flatV : V → Bool
  | .non => true
  | .bl _ => true
  | .int _ => true
  | .str _ => true
  | _ => false
def eqV : V → V → Bool
  | .non, .non => true
  | .bl a, .bl b => a == b
  | .bl a, .int b => (if a then 1 else 0) == b
  | .int a, .bl b => a == (if b then 1 else 0)
  | .int a, .int b => a == b
  | .str a, .str b => a == b
  | _, _ => false
theorem eqAt_V {A : Around} {s : Shared} {y x : V} {u v : Value} (ry : RelV y u) (rx : RelV x v) (fy : flatV y = true) (fx : flatV x = true) : SeqAt.EqAt A s u v (eqV y x) := by
  cases y with
  | non =>
    cases ry
    cases x with
    | non => cases rx; exact SeqAt.EqAt.same _
    | bl b => cases rx; exact SeqAt.EqAt.none_bool b
    | int b => obtain ⟨t, rfl⟩ := rx; exact SeqAt.EqAt.none_int b t
    | str b => obtain ⟨t, rfl⟩ := rx; exact SeqAt.EqAt.none_str b t
    | _ => exact absurd (show false = true from fx) Bool.false_ne_true
  | bl a =>
    cases ry
    cases x with
    | non => cases rx; exact SeqAt.EqAt.bool_none a
    | bl b => cases rx; exact SeqAt.EqAt.bool_bool a b
    | int b => obtain ⟨t, rfl⟩ := rx; exact SeqAt.EqAt.bool_int a b t
    | str b => obtain ⟨t, rfl⟩ := rx; exact SeqAt.EqAt.bool_str a b t
    | _ => exact absurd (show false = true from fx) Bool.false_ne_true
  | int a =>
    obtain ⟨t', rfl⟩ := ry
    cases x with
    | non => cases rx; exact SeqAt.EqAt.int_none a t'
    | bl b => cases rx; exact SeqAt.EqAt.int_bool a t' b
    | int b => obtain ⟨t, rfl⟩ := rx; exact SeqAt.EqAt.int_int a t' b t
    | str b => obtain ⟨t, rfl⟩ := rx; exact SeqAt.EqAt.int_str a t' b t
    | _ => exact absurd (show false = true from fx) Bool.false_ne_true
  | str a =>
    obtain ⟨t', rfl⟩ := ry
    cases x with
    | non => cases rx; exact SeqAt.EqAt.str_none a t'
    | bl b => cases rx; exact SeqAt.EqAt.str_bool a t' b
    | int b => obtain ⟨t, rfl⟩ := rx; exact SeqAt.EqAt.str_int a t' b t
    | str b => obtain ⟨t, rfl⟩ := rx; exact SeqAt.EqAt.str_str a t' b t
    | _ => exact absurd (show false = true from fx) Bool.false_ne_true
  | _ => exact absurd (show false = true from fy) Bool.false_ne_true
def eqU (x : V) (u : Value) : Bool := match u with
  | .none => eqV .non x
  | .bool b => eqV (.bl b) x
  | .int i _ => eqV (.int i) x
  | .str z _ => eqV (.str z) x
  | _ => false
theorem eqU_of {x y : V} {u : Value} (r : RelV y u) (f : flatV y = true) : eqU x u = eqV y x := by
  cases y with
  | non => cases r; rfl
  | bl b => cases r; rfl
  | int i => obtain ⟨t, rfl⟩ := r; rfl
  | str z => obtain ⟨t, rfl⟩ := r; rfl
  | _ => exact absurd (show false = true from f) Bool.false_ne_true
theorem any_eqU {x : V} : ∀ {xs : List V} {us : List Value}, Vals xs us → xs.all flatV = true → us.any (eqU x) = xs.any fun y => eqV y x
  | _, _, .nil, _ => rfl
  | y :: xs, u :: us, .cons r t, f => by
    rw [List.all_cons, Bool.and_eq_true] at f
    rw [List.any_cons, List.any_cons, eqU_of r f.1, any_eqU t f.2]
theorem mem_eqAt {A : Around} {s : Shared} {x : V} {v : Value} (rx : RelV x v) (fx : flatV x = true) : ∀ {xs : List V} {us : List Value}, Vals xs us → xs.all flatV = true → ∀ u ∈ us, SeqAt.EqAt A s u v (eqU x u)
  | _, _, .nil, _ => fun u hu => by cases hu
  | y :: xs, u :: us, .cons r t, f => fun u' hu => by
    rw [List.all_cons, Bool.and_eq_true] at f
    rcases List.mem_cons.mp hu with rfl | hu
    · rw [eqU_of r f.1]; exact eqAt_V r rx f.1 fx
    · exact mem_eqAt rx fx t f.2 u' hu
def inV (x : V) (xs : List V) : Bool := xs.any fun y => eqV y x
def rIn (K : PySem.W.Frag) (neg : Bool) : R2 := fun x y H Q => ∃ p xs, y = .ref p ∧ (SqL K H p xs ∨ SqT K H p xs) ∧ flatV x = true ∧ xs.all flatV = true ∧ Q (.bl (if neg then !inV x xs else inV x xs)) H
theorem op_in_seq : OpR X (compareOp .In) (rIn X.K false) := by
  intro pins s σ H x y v u Q I rx ry h
  obtain ⟨p, xs, rfl, hq, fx, fs, q⟩ := h
  cases ry
  rcases hq with hq | hq
  · obtain ⟨its, r, pl, hz⟩ := I.list hq
    refine SeqAt.in_listAt (eqU x) pl.isList (fun w hw => mem_eqAt rx fx r fs w (by simpa using hw)) ⟨.bl _, H, I, rfl, ?_⟩
    rw [show its.toArray.any (eqU x) = its.any (eqU x) by simp, any_eqU r fs]
    exact q
  · obtain ⟨its, r, pl, hz⟩ := I.tuple hq
    refine SeqAt.in_tupleAt (eqU x) pl (fun w hw => mem_eqAt rx fx r fs w (by simpa using hw)) ⟨.bl _, H, I, rfl, ?_⟩
    rw [show its.toArray.any (eqU x) = its.any (eqU x) by simp, any_eqU r fs]
    exact q
theorem op_notIn_seq : OpR X (compareOp .NotIn) (rIn X.K true) := by
  intro pins s σ H x y v u Q I rx ry h
  obtain ⟨p, xs, rfl, hq, fx, fs, q⟩ := h
  cases ry
  rcases hq with hq | hq
  · obtain ⟨its, r, pl, hz⟩ := I.list hq
    refine SeqAt.notIn_listAt (eqU x) pl.isList (fun w hw => mem_eqAt rx fx r fs w (by simpa using hw)) ⟨.bl _, H, I, rfl, ?_⟩
    rw [show its.toArray.any (eqU x) = its.any (eqU x) by simp, any_eqU r fs]
    exact q
  · obtain ⟨its, r, pl, hz⟩ := I.tuple hq
    refine SeqAt.notIn_tupleAt (eqU x) pl (fun w hw => mem_eqAt rx fx r fs w (by simpa using hw)) ⟨.bl _, H, I, rfl, ?_⟩
    rw [show its.toArray.any (eqU x) = its.any (eqU x) by simp, any_eqU r fs]
    exact q
theorem call_len_seq : CallR X (.builtin "len") (fun xs H Q => ∃ p ys, xs = [.ref p] ∧ (SqL X.K H p ys ∨ SqT X.K H p ys) ∧ Q (.int ys.length) H) := by
  intro pins s σ H xs us Q I r h
  obtain ⟨p, ys, rfl, hq, q⟩ := h
  obtain ⟨u, rfl, rx⟩ := vals1 r
  cases rx
  have hn := line63
  rcases hq with hq | hq
  · obtain ⟨its, r', pl, hz⟩ := I.list hq
    have hlen := r'.length
    exact Calls.call_len_list pl.isList (by simp only [List.size_toArray] <;> omega) ⟨.int ys.length, H, I.tok _, ⟨s.toks + 1, by rw [List.size_toArray, hlen]⟩, q⟩
  · obtain ⟨its, r', pl, hz⟩ := I.tuple hq
    have hlen := r'.length
    exact len_tuple pl (by simp only [List.size_toArray] <;> omega) ⟨.int ys.length, H, I.tok _, ⟨s.toks + 1, by rw [List.size_toArray, hlen]⟩, q⟩
theorem call_len_str : CallR X (.builtin "len") (fun xs H Q => ∃ z, xs = [.str z] ∧ z.length ≤ sizeLine ∧ Q (.int z.length) H) := by
  intro pins s σ H xs us Q I r h
  obtain ⟨z, rfl, hz, q⟩ := h
  obtain ⟨u, rfl, t, rfl⟩ := vals1 r
  have hn := line63
  exact len_str (by omega) ⟨.int z.length, H, I.tok _, ⟨_, rfl⟩, q⟩
def tyV (K : PySem.W.Frag) (T : String) (x : V) (H : Hp) : Prop := match x with
  | .str _ => T = "str"
  | .int _ => T = "int"
  | .ref p => (T = "list" ∧ ∃ xs, SqL K H p xs) ∨ (T = "tuple" ∧ ∃ o, K.lookup p = some o ∧ o.cls = .type "tuple" ∧ o.dict = none) ∨
      (T = "dict" ∧ ((∃ kvs, H p = some (.dK kvs)) ∨ ∃ kvs, H p = some (.dT kvs))) ∨ (T = "set" ∧ ∃ S n, H p = some (.set S n))
  | _ => False
theorem tyV_is {pins : List (Addr × Obj)} {σ : St} {H : Hp} {s : Shared} {T : String} {x : V} {v : Value} (I : Inv X pins σ H s) (r : RelV x v) (ty : tyV X.K T x H) :
    s.TypeIs v T ∧ ∀ a, v = .ref a → ∃ ob, s.heap.get? a = some ob ∧ ob.dict = none := by
  cases x with
  | str z =>
    obtain ⟨t, rfl⟩ := r
    cases (show T = "str" from ty)
    exact ⟨typeIs_str s z t, fun _ e => nomatch e⟩
  | int i =>
    obtain ⟨t, rfl⟩ := r
    cases (show T = "int" from ty)
    exact ⟨typeIs_int s i t, fun _ e => nomatch e⟩
  | ref p =>
    cases r
    rcases ty with ⟨rfl, xs, hq⟩ | ⟨rfl, o, hk, hc, hd⟩ | ⟨rfl, hk⟩ | ⟨rfl, S, n, hk⟩
    · obtain ⟨its, _, pl, _⟩ := I.list hq
      refine ⟨pl.isList.typeIs, fun a e => ?_⟩
      cases e
      obtain ⟨o, n, e, c, hd, _⟩ := pl
      exact ⟨o, e, hd⟩
    · refine ⟨⟨o, I.kIn p o hk, hc⟩, fun a e => ?_⟩
      cases e
      exact ⟨o, I.kIn _ o hk, hd⟩
    · have z : ∃ o, s.heap.get? p = some o ∧ o.ExactDict := by
        rcases hk with ⟨kvs, hk⟩ | ⟨kvs, hk⟩
        · obtain ⟨_, _, _, _, o, _, _, e, ex, _⟩ := I.hok p _ hk
          exact ⟨o, e, ex⟩
        · obtain ⟨_, _, _, _, o, _, _, e, ex, _⟩ := I.hok p _ hk
          exact ⟨o, e, ex⟩
      obtain ⟨o, e, ex⟩ := z
      refine ⟨⟨o, e, ex.1⟩, fun a e2 => ?_⟩
      cases e2
      exact ⟨o, e, ex.2.1⟩
    · obtain ⟨o, _, _, _, e, ex, _⟩ := I.hok p _ hk
      refine ⟨⟨o, e, ex.1⟩, fun a e2 => ?_⟩
      cases e2
      exact ⟨o, e, ex.2.1⟩
  | _ => exact False.elim ty
def tBM0 (K : PySem.W.Frag) (T : String) (r : V → List V → Hp → VK → Prop) (to : TE) : TE := fun σ H Q => to σ H fun x H1 => tyV K T x H1 ∧ r x [] H1 Q
def tBM (K : PySem.W.Frag) (T : String) (r : V → List V → Hp → VK → Prop) (to : TE) (t : TA) : TE := fun σ H Q => to σ H fun x H1 => tyV K T x H1 ∧ t σ H1 fun xs H2 => r x xs H2 Q
variable {o e : Expr} {es : List Expr} {to : TE} {t : TA} {name : Str} {apos cpos : Pos} {T id : String} {r : V → List V → Hp → VK → Prop}
theorem pe_bm0 (pa : PlainAttrs T) (slot : Slot T name id) (hty : typeOf (.builtin id) = pure (.type "method_descriptor")) (hm : MtR X id r) (ho : PE X o to)
    (hbase : attributeBase o name X.env (eval o X.env) = eval o X.env := by rfl) (hline : (apos.endLine == cpos.line) = true := by rfl) : PE X (.Call (.Attribute o name apos) [] [] cpos) (tBM0 X.K T r to) := by
  intro pins s σ H Q I h
  refine wpAny_Call_method0_late hbase hline (thn (ho pins s σ H _ I h) fun v s1 ⟨x, H1, I1, r1, ty, q1⟩ => ?_)
  obtain ⟨h1, h2⟩ := tyV_is I1 r1 ty
  exact ⟨T, id, pa, slot, hty, h1, h2, Calls.callWith_builtin rfl (PySem.evalArgs_none (hm pins s1 σ H1 x [] v [] Q I1 r1 .nil q1))⟩
theorem pe_bm (pa : PlainAttrs T) (slot : Slot T name id) (hty : typeOf (.builtin id) = pure (.type "method_descriptor")) (hm : MtR X id r) (ho : PE X o to) (ha : PA X (e :: es) t)
    (hbase : attributeBase o name X.env (eval o X.env) = eval o X.env := by rfl)
    (hfew : ((backTo cpos (starEach (e :: es) X.env)).all (fun x => !x.1) && (backToKw cpos (keywordEach [] X.env)).all (fun x => x.1.isSome)
      && decide ((e :: es).length + ([] : List Keyword).length + (if ([] : List Keyword).isEmpty then 0 else 1) < 30)) = true := by rfl)
    (hline : (apos.endLine == cpos.line) = true := by rfl) (hs : starEach (e :: es) X.env = (false, eval e X.env) :: starEach es X.env := by rfl) (hplain : (backTo cpos (starEach es X.env)).any (·.1) = false := by rfl) :
    PE X (.Call (.Attribute o name apos) (e :: es) [] cpos) (tBM X.K T r to t) := by
  intro pins s σ H Q I h
  refine wpAny_Call_method_late hbase hfew hline rfl (thn (ho pins s σ H _ I h) fun v s1 ⟨x, H1, I1, r1, ty, q1⟩ => ?_)
  obtain ⟨h1, h2⟩ := tyV_is I1 r1 ty
  refine ⟨T, id, pa, slot, hty, h1, h2, ?_⟩
  have hA := ha cpos pins s1 σ H1 _ I1 q1
  rw [hs] at hA ⊢
  refine Calls.callWith_builtin (by show (false || (backTo cpos (starEach es X.env)).any (·.1)) = false; rw [hplain] <;> rfl) (Calls.evalArgs_plain ?_)
  exact thn hA fun us s2 ⟨vs, H2, I2, r2, q2⟩ => hm pins s2 σ H2 x vs v us Q I2 r1 r2 q2
/- xs.append(e), list.index on a module's tuple .. are MtR facts of 06m -/
end
end L2
namespace L2
open PySem PySem.Spec PyProof.Rows
def MtM (X : Cx) (id : String) (r : V → List V → Hp → VK → Prop) : Prop :=
  ∀ (pins : List (Addr × Obj)) (s : Shared) (σ : St) (H : Hp) (x : V) (xs : List V) (v : Value) (us : List Value) (Q : VK), Inv X pins σ H s → RelV x v → Vals xs us → r x xs H Q →
    wpAny (model X.prog X.w) X.A (call (.builtin id) (v :: us)) (EP X pins σ Q) X.xe s
theorem Vals.one : ∀ {x : V} {us : List Value}, Vals [x] us → ∃ u, us = [u] ∧ RelV x u
  | _, _, .cons r .nil => ⟨_, rfl, r⟩
theorem Vals.two : ∀ {x y : V} {us : List Value}, Vals [x, y] us → ∃ u v, us = [u, v] ∧ RelV x u ∧ RelV y v
  | _, _, _, .cons r (.cons q .nil) => ⟨_, _, rfl, r, q⟩
theorem Vals.zero : ∀ {us : List Value}, Vals [] us → us = []
  | _, .nil => rfl
section
variable {X : Cx} {pins : List (Addr × Obj)} {σ : St} {H : Hp} {s : Shared} {l b : Addr} {xs ys zs : List V}
theorem Inv.lset {its its' : List Value} {n : Nat} {f : Array Value → Array Value} {t' : Nat} (I : Inv X pins σ H s) (hH : H l = some (.lst xs))
    (e : s.heap.get? l = some { cls := .type "list", data := .seq its.toArray n }) (hf : f its.toArray = its'.toArray) (hv : Vals ys its') (hz : ys.length ≤ sizeLine) :
    Inv X pins σ (upd H l (.lst ys)) { s with heap := s.heap.update l (Obj.mapSeq f), toks := t' } := by
  have q := PySem.IsL.update e f
  rw [hf] at q
  refine I.write (x := l) (e := l) (by rw [hH]; exact trivial) (.inl rfl) (fun b' u hb hu => (Heap.get?_update_other s.heap (Obj.mapSeq f) (Ne.symm hb)).trans hu) ⟨_, q⟩ ?_
  exact ⟨hz, its', _, hv, q⟩
theorem Inv.lnew {its : List Value} {t' : Nat} (I : Inv X pins σ H s) (hv : Vals ys its) (hz : ys.length ≤ sizeLine) :
    Inv X pins σ (upd H s.heap.objs.size (.lst ys)) { s with heap := s.heap.push { cls := .type "list", data := .seq its.toArray }, toks := t' } :=
  I.laid (fun _ _ q => Heap.get?_push_of_some _ q) (Nat.le_refl _) ⟨hz, its, 0, hv, Heap.get?_push_size _ rfl⟩
theorem Inv.lstM (I : Inv X pins σ H s) (hH : H l = some (.lst xs)) : xs.length ≤ sizeLine ∧ ∃ (its : List Value) (n : Nat), Vals xs its ∧ xs.length = its.length ∧ s.heap.get? l = some { cls := .type "list", data := .seq its.toArray n } := by
  obtain ⟨z, its, n, r, e⟩ := I.hok l _ hH
  exact ⟨z, its, n, r, r.length, e⟩
end
section
variable {X : Cx}
def rAppend : V → List V → Hp → VK → Prop := fun x vs H Q => ∃ l xs y, x = .ref l ∧ vs = [y] ∧ H l = some (.lst xs) ∧ xs.length < sizeLine ∧ Q .non (upd H l (.lst (xs ++ [y])))
theorem mt_append : MtM X "list.append" rAppend := by
  intro pins s σ H x vs v us Q I rx rv h
  obtain ⟨l, xs, y, rfl, rfl, hH, hz, q⟩ := h
  cases rx
  obtain ⟨u, rfl, ru⟩ := rv.one
  obtain ⟨z, its, n, r, hl, e⟩ := I.lstM hH
  refine call_meets F.slot_list_append ⟨_, e, rfl⟩ F.entry_list_append (F.args_list_append_2 _ _) (PySem.list_append l its.toArray n u (by rw [List.size_toArray]; omega)) ⟨e, ?_⟩
  refine ⟨.non, _, I.lset (its' := its ++ [u]) hH e (by simp) (r.append (.cons ru .nil)) ?_, rfl, q⟩
  rw [List.length_append, List.length_singleton]
  omega
end
section
variable {prog : Program} {w : World} {A : Around} {E : Value → Shared → Prop} {s : Shared}
set_option maxRecDepth 100000 in
end
section
variable {X : Cx}
end
end L2
namespace Att
open PySem PySem.W PySem.Calls PyProof.Rows
theorem ints_of_wellAll {P : Params} {h : Heap} : ∀ (ns : List Int) (vs : List Value), WellAll P h vs (ns.map WData.int) → IntsAre vs ns := by
  intro ns
  induction ns with
  | nil =>
    intro vs w
    rw [List.map_nil] at w
    cases w
    exact .nil
  | cons n ns ih =>
    intro vs w
    rw [List.map_cons] at w
    cases w with
    | cons a b =>
      cases a
      exact .cons _ _ (ih _ b)
theorem script_of {l : OpenLaw} {n : Nat} (hn : l.most = some n) {P : Params} {h : Heap} {args : List WData} {vals : List Value}
    (hpre : l.row.toRowW.claim.pre args = true) (hwl : WellAll P h vals args) :
    ∃ a vs ns, vals = [Value.ref a] ∧ args = [WData.list (ns.map WData.int)] ∧ h.get? a = some { cls := .type "list", data := .seq vs.toArray } ∧ IntsAre vs ns ∧ ns.length ≤ n := by
  have hsh : WShape.hasAll [] args [.list .int] = true := (pre_splitW hpre).1
  have hc : l.pre.holds [] { args := args } = true := (pre_splitW hpre).2
  obtain ⟨d, r, rfl, h1, h2⟩ := hasAllW_cons hsh
  obtain rfl := hasAllW_nil h2
  obtain ⟨xs, rfl, h3⟩ := hasW_list h1
  obtain ⟨ns, rfl⟩ := items_int h3
  have hlen : ns.length ≤ n := by
    unfold OpenLaw.pre at hc
    have h4 : (WTm.not (.lt (.lit (.int (n : Int))) (.len (.arg 0)))).holds [] { args := [.list (ns.map .int)] } = true := by
      have h4 := (holds_andW hc).1
      rw [hn] at h4
      exact h4
    have h5 := condW_of h4 (w_not (w_lt w_lit (w_len_list (w_arg rfl))))
    rw [List.length_map] at h5
    refine Nat.le_of_not_lt fun q => ?_
    have q' : (n : Int) < ((ns.length : Nat) : Int) := by omega
    first
      | (rw [decide_eq_true q'] at h5; exact absurd h5 (by decide))
      | (simp at h5; omega)
  cases hwl with
  | cons w1 w2 =>
    cases w2
    cases w1 with
    | list ho hall => exact ⟨_, _, ns, rfl, rfl, ho, ints_of_wellAll ns _ hall, hlen⟩
theorem post_true (l : OpenLaw) (args : List WData) : l.row.toRowW.claim.post args (.bool true) args = true :=
  postW_of (r := l.row.toRowW) (X := (true == true))
    (show WShape.has [] (.bool true) .bool = true by first | rfl | decide | simp [WShape.has, WShape.arms, WShape.armsAll])
    (show (WTm.eq .res (.lit (.bool true))).value [] { args := args, res := some (.bool true), after := args } = some (.bool (true == true)) from w_eq_bool (w_res rfl) w_lit) rfl
theorem attach_call {l : OpenLaw} {n : Nat} {q : Program} {loose : List Str} {XP : (Str → Option Value) → Heap → Prop} {YP : World → Heap → Prop} {d : DefRec}
    (hn : l.most = some n) (hdf : d.params.defaults = [])
    (call : ∀ (w : World) (s₀ s₁ : Shared) (mg mb : Str → Option Value) (fa : Addr) (o : Obj) (pm cd doc : Value) (a : Addr) (vs : List Value) (ns : List Int),
      Ground q loose [] XP w s₀ mg mb s₁.heap → YP w s₁.heap →
      s₁.heap.get? fa = some o → o.data = .func (docDef d.name d.params d.body d.scope pm cd doc) → s₁.heap.CodeRec cd d.name → mg d.name = some (.ref fa) →
      s₁.heap.get? a = some { cls := .type "list", data := .seq vs.toArray } → IntsAre vs ns → ns.length ≤ n → s₁.gens = #[] →
      codeAny (model l.prog w) callerA (.call (.ref fa) ⟨[.ref a], []⟩) (fun r s' => r = .ok (.ret (.bool true)) ∧ OldK s₁.heap s'.heap ∧ s'.os = s₁.os ∧ AllBare s'.gens) s₁) :
    WalkO q loose XP YP l.row.toRowW d [] (fun f vs => PySem.call f vs) := by
  intro w s₀ s₁ mg mb G Y fa o pm cd doc dV kV ho hd hcd hD hmg hg args vals as hpre hlay hrd hwl hlo
  obtain rfl : dV = .none := Dflts.none hD hdf
  obtain rfl : kV = .none := Dflts.noKw hD
  obtain ⟨a, vs, ns, rfl, rfl, hobj, hints, hlen⟩ := script_of hn hpre hwl
  refine enter_call (codeAny_mono (call w s₀ s₁ mg mb fa o pm cd doc a vs ns G Y ho (fd_plain hd) hcd hmg hobj hints hlen hg) fun r s' hq => ?_)
  obtain ⟨rfl, h2, h3, h4⟩ := hq
  exact ⟨.inl ⟨.bool true, .bool true, [], rfl, fun _ => rfl, .bool true, post_true l _, fun _ => ⟨List.Pairwise.nil, fun _ hm => (nomatch hm)⟩⟩, h2, h3, h4⟩
section
variable {prog : Program} {w : World} {A : Around} {E : Value → Shared → Prop} {s : Shared} {K : Frag}
end
end Att
namespace L2
open PySem PySem.Spec PyProof.Rows
theorem vals_ints : ∀ {vs : List Value} {ns : List Int}, IntsAre vs ns → Vals (ns.map V.int) vs
  | _, _, .nil => .nil
  | _, _, .cons n t h => .cons ⟨t, rfl⟩ (vals_ints h)
end L2
namespace L2
open PySem PySem.Spec PyProof.Rows
end L2
/- THE LAST THEOREM (shape; LID, My.* are yours):
   My.Adr: a structure of the addresses that your layer names (classes, functions); My.Txt K t: a structure (Prop) of the equations over K;
   My.txt_mk : {K} {implicit addresses ..} (e1 : nsIn K mainGlobals "law" = some (some (.ref f))) (e2 : K.lookup f = some ⟨oc, od, .func (fnOf "law" "law" params body scope dV kV doc pm an cdv ct), sl⟩) (e3 : codeIn K cdv "law" = true) .. : ∃ t, My.Txt K t
set_option maxRecDepth 100000 in
set_option maxHeartbeats 0 in
theorem PySem.Challenge.cw_LID_holds : PySem.Challenge.rw_LID.Holds := by
  w_on; o_law; k_head; (case hw => w_witness2)
  k_fill
  refine L2.walk_of (l := PySem.Challenge.rw_LID) (n := 63) (k := 40) (x := "script") (CX := fun w => ..) (sp := fun _ => My.sp_law) rfl (by decide) rfl ⟨rfl, by decide, by decide⟩ (fun w h Y => PySem.W.kIn_of Y) ?F ?S ?C
  case F =>
    intro w mg fa h KX G hmg
    have T : ∃ t, My.Txt (L2.KOf KX) t := by
      dsimp only [L2.KOf]                          -- K must stand as «<heap const> w.params» for k_is
      refine' My.txt_mk ?e1 ?e2 ?e3 ..
      (case e1 => PySem.W.k_is)                    -- in the order: a name -> its address -> its object -> its parts
      (case e2 => PySem.W.k_is)
      ..
    obtain ⟨t, T⟩ := T
    have e0 := hmg.symm.trans (PySem.W.mg_of KX G T.law)
    cases e0                                       -- fa is the law's own address
    exact ⟨_, fun s u => .of_eq rfl, fun base kb nb => My.law_fn T kb nb⟩     -- if «.of_eq rfl» comes too early: refine' ⟨_, ?b, fun base kb nb => My.law_fn T kb nb⟩; exact fun s u => .of_eq rfl
  case S => exact fun w H a ns hl hO hS => ..
  case C => exact ..
(the tactic k_is has no namespace: write k_is) -/
namespace L2
open PySem PySem.Spec PyProof.Rows
def defArgs (s : Stmt) : Arguments := match s with
  | .FunctionDef _ a _ _ _ _ _ _ _ _ => a
  | _ => { posonlyargs := [], args := [], vararg := none, kwonlyargs := [], kw_defaults := [], kwarg := none, defaults := [] }
def defBody (s : Stmt) : List Stmt := match s with
  | .FunctionDef _ _ b _ _ _ _ _ _ _ => b
  | _ => []
def defScope (s : Stmt) : Scope := match s with
  | .FunctionDef _ _ _ _ _ _ sc _ _ _ => sc
  | _ => { kind := .function, names := [], isGenerator := false, isCoroutine := false }
abbrev CX0 : CXT := fun _ _ _ _ _ _ => False
abbrev E0 : XK := fun _ _ _ => False
theorem pass0 {X : Cx} : Passes CX0 X E0 := fun _ _ _ _ _ _ _ h => h.elim
structure Fun (K : PySem.W.Frag) (x qual : Str) (st : Stmt) (f : Addr) (fd : FuncData) : Prop where
  ex : ∃ (oc : Value) (od : Option Addr) (kV doc pm : Value) (an : Option Addr) (cdv ct : Value) (osl : Array (Option Value)),
    fd = PySem.W.fnOf x qual (defArgs st) (defBody st) (defScope st) .none kV doc pm an cdv ct ∧ K.lookup f = some ⟨oc, od, .func fd, osl⟩ ∧ PySem.W.codeIn K cdv qual = true
  kp : PySem.W.keepIn K (.ref f) = true
section
variable {P : Program} {w : World} {K : PySem.W.Frag} {mg : Str → Option Value} {base : Heap}
theorem Fun.ok {x qual : Str} {st : Stmt} {f : Addr} {fd : FuncData} {N ps : List Str} {k : Nat} {sp : Sp} (F : Fun K x qual st f fd) (S : FnScope N ps (defScope st)) (len : ∀ vs H Q E, sp vs H Q E → vs.length = ps.length)
    (hbody : ∀ (cdv : Value) (A : Around) (outer : List Env) (s : Shared) (H : Hp) (vs : List V) (Q : VK) (E : XK), Room k (A.deeper (envOfC qual (defScope st) s.heap.objs.size f cdv)) → sp vs H Q E →
      ∃ t, PSs (cxOf CX0 P w K mg base N qual (defScope st) f cdv A outer s H E).nox (defBody st) t ∧ t { nx := fun _ H' => Q .non H', rt := Q } (start N vs) H) : FnOk P w K mg base CX0 (k + 1) f fd ps sp := by
  obtain ⟨oc, od, kV, doc, pm, an, cdv, ct, osl, rfl, lk, hcd⟩ := F.ex
  refine fn_of lk hcd S len fun A outer s H vs Q E hr hsp => ?_
  obtain ⟨t, h, q⟩ := hbody cdv A outer s H vs Q E hr hsp
  exact ⟨t, h.nox, q⟩
theorem Fun.binds {x qual : Str} {st : Stmt} {f : Addr} {fd : FuncData} {ps : List Str} (F : Fun K x qual st f fd)
    (h : ∀ (kV doc pm : Value) (an : Option Addr) (cdv ct : Value) (us : List Value), us.length = ps.length → bindArgs (PySem.W.fnOf x qual (defArgs st) (defBody st) (defScope st) .none kV doc pm an cdv ct) ⟨us, []⟩ = pure (ps.zip us)) : Binds K fd ps [] := by
  obtain ⟨oc, od, kV, doc, pm, an, cdv, ct, osl, rfl, lk, hcd⟩ := F.ex
  exact .all (h kV doc pm an cdv ct)
theorem fun_mk {x qual : Str} {st : Stmt} {f : Addr} {oc : Value} {od an : Option Addr} {osl : Array (Option Value)} {kV doc pm cdv ct : Value} (l : K.lookup f = some ⟨oc, od, .func (PySem.W.fnOf x qual (defArgs st) (defBody st) (defScope st) .none kV doc pm an cdv ct), osl⟩)
    (c : PySem.W.codeIn K cdv qual = true) (k : PySem.W.keepIn K (.ref f) = true) : Fun K x qual st f (PySem.W.fnOf x qual (defArgs st) (defBody st) (defScope st) .none kV doc pm an cdv ct) := ⟨⟨oc, od, kV, doc, pm, an, cdv, ct, osl, rfl, l, c⟩, k⟩
end
theorem hu_of {A : Around} {k : Nat} (hr : Room k A) : A.units + 1 < cLine := Nat.lt_of_le_of_lt (Nat.add_le_add_left (by decide : 1 ≤ 64) _) hr.units
section
variable {X : Cx}
theorem pv (i : Nat) {x : Str} {pos : Pos} (hN : X.N[i]? = some x := by rfl) (hv : Vis X.env.scope x := by first | exact Or.inl rfl | exact Or.inr (Or.inl rfl) | exact Or.inr (Or.inr rfl)) (hd : (x == ("__debug__" : Str)) = false := by decide)
    (hcd : (x == ("__classdict__" : Str)) = false := by decide) : PE X (.Name x pos) (tVar i) := pe_var hN hv hd hcd
end
theorem iteF {A B : Prop} (h : B) : if false = true then A else B := by
  rw [if_neg Bool.false_ne_true]
  exact h
theorem iteT {A B : Prop} (h : A) : if true = true then A else B := by
  rw [if_pos rfl]
  exact h
theorem ite2 {c A B : Prop} [Decidable c] (h1 : c → A) (h2 : ¬ c → B) : if c then A else B := by
  by_cases h : c
  · rw [if_pos h]
    exact h1 h
  · rw [if_neg h]
    exact h2 h
def Same (H H' : Hp) : Prop := ∀ b o, H b = some o → H' b = some o
theorem Same.seq {K : PySem.W.Frag} {H H' : Hp} {a : Addr} {xs : List V} (e : Same H H') (h : SqL K H a xs) : SqL K H' a xs := by
  rcases h with (h | ⟨o, h⟩) | h
  · exact .inl (.inl (e _ _ h))
  · exact .inl (.inr ⟨o, e _ _ h⟩)
  · exact .inr h
end L2
set_option Elab.async false
set_option linter.all false
set_option maxRecDepth 100000
namespace L2
open PySem PySem.Spec PyProof.Rows
section
variable {κ : Type} [DecidableEq κ]
def valV (kvs : List (κ × V)) (k : κ) : Option V := (kvs.find? fun kv => decide (kv.1 = k)).map (·.2)
def putK (kvs : List (κ × V)) (k : κ) (v : V) : List (κ × V) :=
  if (kvs.any fun kv => decide (kv.1 = k)) = true then kvs.map (fun kv => if kv.1 = k then (kv.1, v) else kv) else kvs ++ [(k, v)]
theorem valV_pos {p : κ × V} {r : List (κ × V)} {k : κ} (e : p.1 = k) : valV (p :: r) k = some p.2 := by simp [valV, List.find?_cons, e]
theorem valV_neg {p : κ × V} {r : List (κ × V)} {k : κ} (e : ¬ p.1 = k) : valV (p :: r) k = valV r k := by simp [valV, List.find?_cons, e]
theorem valV_any (k : κ) : ∀ kvs : List (κ × V), (kvs.any fun kv => decide (kv.1 = k)) = (valV kvs k).isSome
  | [] => rfl
  | p :: r => by
    rw [List.any_cons]
    by_cases e : p.1 = k
    · simp only [valV_pos e, decide_eq_true e, Bool.true_or, Option.isSome_some]
    · rw [valV_neg e, decide_eq_false e, Bool.false_or]; exact valV_any k r
theorem length_putK (kvs : List (κ × V)) (k : κ) (v : V) : (putK kvs k v).length ≤ kvs.length + 1 := by
  unfold putK
  split
  · rw [List.length_map]; omega
  · rw [List.length_append, List.length_cons, List.length_nil]; omega
theorem RelO.isSome_eq {o : Option V} {u : Option Value} (r : RelO o u) : o.isSome = u.isSome := by
  cases o with
  | none => cases u with
    | none => rfl
    | some _ => exact (show False from r).elim
  | some _ => cases u with
    | none => exact (show False from r).elim
    | some _ => rfl
theorem KV.val {kvs : List (κ × V)} {vs : List (κ × Value)} (r : KV kvs vs) (k : κ) : RelO (valV kvs k) (valueAt vs k) := by
  unfold KV at r
  induction r with
  | nil => exact True.intro
  | @cons p q ps qs h t ih =>
    obtain ⟨h1, h2⟩ := h
    by_cases e : p.1 = k
    · have e' : q.1 = k := h1.symm.trans e
      have b : valueAt (q :: qs) k = some q.2 := by simp [valueAt, List.find?_cons, e']
      rw [valV_pos e, b]; exact h2
    · have e' : ¬ q.1 = k := fun z => e (h1.trans z)
      have b : valueAt (q :: qs) k = valueAt qs k := by simp [valueAt, List.find?_cons, e']
      rw [valV_neg e, b]; exact ih
theorem KV.any {kvs : List (κ × V)} {vs : List (κ × Value)} (r : KV kvs vs) (k : κ) : (kvs.any fun kv => decide (kv.1 = k)) = vs.any fun kv => decide (kv.1 = k) := by
  unfold KV at r
  induction r with
  | nil => rfl
  | cons h t ih => rw [List.any_cons, List.any_cons, ih, h.1]
theorem KV.repl {kvs : List (κ × V)} {vs : List (κ × Value)} (r : KV kvs vs) (k : κ) {y : V} {u : Value} (ry : RelV y u) :
    KV (kvs.map fun kv => if kv.1 = k then (kv.1, y) else kv) (vs.map fun kv => if kv.1 = k then (kv.1, u) else kv) := by
  unfold KV at r ⊢
  induction r with
  | nil => exact .nil
  | @cons p q ps qs h t ih =>
    rw [List.map_cons, List.map_cons]
    refine .cons ?_ ih
    obtain ⟨h1, h2⟩ := h
    by_cases e : p.1 = k
    · rw [if_pos e, if_pos (h1.symm.trans e)]; exact ⟨h1, ry⟩
    · rw [if_neg e, if_neg (fun z => e (h1.trans z))]; exact ⟨h1, h2⟩
theorem KV.put {kvs : List (κ × V)} {vs : List (κ × Value)} (r : KV kvs vs) (k : κ) {y : V} {u : Value} (ry : RelV y u) : KV (putK kvs k y) (stored vs k u) := by
  unfold putK stored
  rw [r.any k]
  by_cases e : (vs.any fun kv => decide (kv.1 = k)) = true
  · rw [if_pos e, if_pos e]; exact r.repl k ry
  · rw [if_neg e, if_neg e]; exact Paired.snoc r ⟨rfl, ry⟩
theorem KV.length {kvs : List (κ × V)} {vs : List (κ × Value)} (r : KV kvs vs) : kvs.length = vs.length := Paired.length r
end
theorem kV_is {P : Program} {w : World} {k : Key} {u : Value} (r : RelV (kV k) u) : (mixKind P w).is k u = true := by
  cases k with
  | inl i => obtain ⟨t, e⟩ := (show ∃ t, u = Value.int i t from r); subst e; exact mixKind_int P w i t
  | inr x => obtain ⟨t, e⟩ := (show ∃ t, u = Value.str x t from r); subst e; exact mixKind_str P w x t
theorem items_are {P : Program} {w : World} : ∀ {ks : List Key} {us : List Value}, Vals (ks.map kV) us → ItemsAre (mixKind P w) ks us
  | [], _, r => by rw [List.map_nil] at r; cases r; exact .nil
  | k :: ks, _, r => by
    rw [List.map_cons] at r
    cases r with
    | cons h t => exact .cons (kV_is h) (items_are t)
abbrev KT (H : Hp) : List (List Key × V) → List (List Key × Addr × Value) → Prop := Paired fun p q => p.1 = q.1 ∧ H q.2.1 = some (.tup (p.1.map kV)) ∧ RelV p.2 q.2.2
theorem KT.val {H : Hp} {kvs : List (List Key × V)} {xs : List (List Key × Addr × Value)} (r : KT H kvs xs) (k : List Key) : RelO (valV kvs k) ((atKey xs k).map (·.2)) := by
  induction r with
  | nil => exact True.intro
  | @cons p q ps qs h t ih =>
    obtain ⟨h1, _, h2⟩ := h
    by_cases e : p.1 = k
    · have e' : q.1 = k := h1.symm.trans e
      have b : atKey (q :: qs) k = some q.2 := by simp [atKey, List.find?_cons, e']
      rw [valV_pos e, b]; exact h2
    · have e' : ¬ q.1 = k := fun z => e (h1.trans z)
      have b : atKey (q :: qs) k = atKey qs k := by simp [atKey, List.find?_cons, e']
      rw [valV_neg e, b]; exact ih
theorem KT.repl {H : Hp} {kvs : List (List Key × V)} {xs : List (List Key × Addr × Value)} (r : KT H kvs xs) (k : List Key) {y : V} {u : Value} (ry : RelV y u) :
    KT H (kvs.map fun kv => if kv.1 = k then (kv.1, y) else kv) (xs.map (putAt k u)) := by
  induction r with
  | nil => exact .nil
  | @cons p q ps qs h t ih =>
    rw [List.map_cons, List.map_cons]
    refine .cons ?_ ih
    obtain ⟨h1, h2, h3⟩ := h
    unfold putAt
    by_cases e : p.1 = k
    · rw [if_pos e, if_pos (h1.symm.trans e)]; exact ⟨h1, h2, ry⟩
    · rw [if_neg e, if_neg (fun z => e (h1.trans z))]; exact ⟨h1, h2, h3⟩
theorem KT.put {H : Hp} {kvs : List (List Key × V)} {xs : List (List Key × Addr × Value)} (r : KT H kvs xs) (k : List Key) {b : Addr} {y : V} {u : Value} (hb : H b = some (.tup (k.map kV))) (ry : RelV y u) :
    KT H (putK kvs k y) (storedH xs k b u) := by
  have e : (kvs.any fun kv => decide (kv.1 = k)) = (atKey xs k).isSome := by
    rw [valV_any, (r.val k).isSome_eq, Option.isSome_map]
  unfold putK storedH
  rw [e]
  by_cases q : (atKey xs k).isSome = true
  · rw [if_pos q, if_pos q]; exact r.repl k ry
  · rw [if_neg q, if_neg q]; exact Paired.snoc r ⟨rfl, hb, ry⟩
theorem KT.keeps {H H' : Hp} {kvs : List (List Key × V)} {xs : List (List Key × Addr × Value)} (r : KT H kvs xs) (ht : ∀ b ys, H b = some (.tup ys) → H' b = some (.tup ys)) : KT H' kvs xs :=
  Paired.mapP r fun _ _ z => ⟨z.1, ht _ _ z.2.1, z.2.2⟩
section
variable {P : Program} {w : World} {H : Hp} {h : Heap} {a : Addr}
theorem rd_of {u : HO} (ok : HOk P w H h) (e : Rd H a u) : ObjOk P w H h a u := e.ok ok
theorem dk_rd {kvs : List (Key × V)} (ok : HOk P w H h) (e : Rd H a (.dK kvs)) : kvs.length ≤ sizeLine ∧ (a == sysModules) = false ∧ ∃ vs, KV kvs vs ∧ h.DictOf (mixKind P w) a vs :=
  show ObjOk P w H h a (.dK kvs) from rd_of ok e
theorem dk_of {kvs : List (Key × V)} (ok : HOk P w H h) (e : H a = some (.dK kvs)) : kvs.length ≤ sizeLine ∧ (a == sysModules) = false ∧ ∃ vs, KV kvs vs ∧ h.DictOf (mixKind P w) a vs := dk_rd ok (.inl e)
theorem key_of {ks : List Key} (ok : HOk P w H h) (e : H a = some (.tup (ks.map kV))) : (tupleKind (mixKind P w)).is h ks a := by
  obtain ⟨_, its, r, o, h1, h2, n, h3⟩ := (show ObjOk P w H h a (.tup (ks.map kV)) from ok a _ e)
  exact ⟨o, its.toArray, n, h1, h2, h3, by simpa using items_are r⟩
theorem dt_rd {kvs : List (List Key × V)} (ok : HOk P w H h) (e : Rd H a (.dT kvs)) : kvs.length ≤ sizeLine ∧ (a == sysModules) = false ∧
    ∃ xs, KT H kvs xs ∧ h.DictOfH (tupleKind (mixKind P w)) a xs := by
  obtain ⟨z, y, xs, r, o, es, ep, h1, h2, h3, h4, h5⟩ := (show ObjOk P w H h a (.dT kvs) from rd_of ok e)
  refine ⟨z, y, xs, r, o, es, ep, h1, h2, h3, h4, fun x hx => ?_, h5⟩
  have all : ∀ {l : List (List Key × V)} {m : List (List Key × Addr × Value)}, KT H l m → ∀ x ∈ m, (tupleKind (mixKind P w)).is h x.1 x.2.1 := by
    intro l m q
    induction q with
    | nil => intro x hx; exact nomatch hx
    | @cons p q ps qs hq t ih =>
      intro x hx
      rcases List.mem_cons.mp hx with e | hx
      · subst e
        exact key_of ok (by rw [← hq.1]; exact hq.2.1)
      · exact ih x hx
  exact all r x hx
theorem dt_of {kvs : List (List Key × V)} (ok : HOk P w H h) (e : H a = some (.dT kvs)) : kvs.length ≤ sizeLine ∧ (a == sysModules) = false ∧
    ∃ xs, KT H kvs xs ∧ h.DictOfH (tupleKind (mixKind P w)) a xs := dt_rd ok (.inl e)
end
def DGet (H : Hp) (a : Addr) (y : V) (r : Option V) : Prop :=
  (∃ kvs k, Rd H a (.dK kvs) ∧ y = kV k ∧ r = valV kvs k) ∨ ∃ kvs k b, Rd H a (.dT kvs) ∧ y = .ref b ∧ H b = some (.tup (k.map kV)) ∧ r = valV kvs k
def DPut (H : Hp) (a : Addr) (y v : V) (H' : Hp) : Prop :=
  (∃ kvs k, H a = some (.dK kvs) ∧ y = kV k ∧ kvs.length < sizeLine ∧ H' = upd H a (.dK (putK kvs k v))) ∨
  ∃ kvs k b, H a = some (.dT kvs) ∧ y = .ref b ∧ H b = some (.tup (k.map kV)) ∧ kvs.length < sizeLine ∧ H' = upd H a (.dT (putK kvs k v))
theorem DPut.k {H : Hp} {a : Addr} {kvs : List (Key × V)} {k : Key} {v : V} (e : H a = some (.dK kvs)) (hl : kvs.length < sizeLine) : DPut H a (kV k) v (upd H a (.dK (putK kvs k v))) := .inl ⟨kvs, k, e, rfl, hl, rfl⟩
section
variable {X : Cx} {pins : List (Addr × Obj)} {σ : St} {H : Hp} {s : Shared} {a : Addr} {y v : V} {u r : Value} {o : Option V} {A : Around} {E : Value → Shared → Prop}
theorem Inv.big (I : Inv X pins σ H s) : sysModules < s.heap.objs.size := by
  have h : mainGlobals < s.heap.objs.size := (I.mod.glob.keeps I.bk).lt
  exact Nat.lt_trans (by decide) h
theorem d_getItem {Q : Value → Shared → Prop} (hu : A.units + 1 < cLine) (I : Inv X pins σ H s) (g : DGet H a y (some v)) (ry : RelV y u) (h : ∀ w' s', Inv X pins σ H s' → RelV v w' → Q w' s') :
    wpAny (model X.prog X.w) A (getItem (.ref a) u) Q E s := by
  rcases g with ⟨kvs, k, e, ey, l⟩ | ⟨kvs, k, b, e, ey, eb, l⟩
  · subst ey
    obtain ⟨z, hd, vs, rel, dd⟩ := dk_rd I.hok e
    obtain ⟨w', hw, rw'⟩ := RelO.some_of (v := v) (o := valueAt vs k) (by rw [l]; exact rel.val k)
    exact wpAny_getItem_of (kV_is ry) dd.mapOf hw (h w' _ (I.tok _) rw')
  · subst ey
    cases (show u = Value.ref b from ry)
    obtain ⟨z, hd, xs, rel, dd⟩ := dt_rd I.hok e
    obtain ⟨w', hw, rw'⟩ := RelO.some_of (v := v) (o := (atKey xs k).map (·.2)) (by rw [l]; exact rel.val k)
    obtain ⟨p, hp, hp2⟩ := Option.map_eq_some_iff.mp hw
    refine wpAny_getItem_heap (tupleKind_room_in1 hu) (key_of I.hok eb) dd hp ?_
    rw [hp2]
    exact h w' _ (I.tok _) rw'
theorem d_write {h' : Heap} {t' : Nat} {ob : HO} (I : Inv X pins σ H s) (mu : Mut (H a)) (hs : Heap.SameBut a s.heap h') (he : ∃ q, h'.get? a = some q) (new : ObjOk X.prog X.w (upd H a ob) h' a ob) :
    Inv X pins σ (upd H a ob) { s with heap := h', toks := t' } :=
  I.write (x := a) (e := a) mu (.inl rfl) (fun b q hb z => (hs.2 b hb).trans z) he new
theorem dk_new {P : Program} {w : World} {H' : Hp} {h' : Heap} {kvs : List (Key × V)} {vs : List (Key × Value)} (z : kvs.length ≤ sizeLine) (hd : (a == sysModules) = false) (rel : KV kvs vs) (dd : h'.DictOf (mixKind P w) a vs) :
    ObjOk P w H' h' a (.dK kvs) := ⟨z, hd, vs, rel, dd⟩
theorem d_setItem {H' : Hp} {Q : Unit → Shared → Prop} (hu : A.units + 1 < cLine) (I : Inv X pins σ H s) (g : DPut H a y v H') (ry : RelV y u) (rv : RelV v r) (h : ∀ s', Inv X pins σ H' s' → Q () s') :
    wpAny (model X.prog X.w) A (setItem (.ref a) u r) Q E s := by
  rcases g with ⟨kvs, k, e, ey, l, eH⟩ | ⟨kvs, k, b, e, ey, eb, l, eH⟩
  · subst ey eH
    obtain ⟨z, hd, vs, rel, dd⟩ := dk_of I.hok e
    have hz : vs.length ≤ sizeLine := by rw [← rel.length]; exact z
    have hl : (putK kvs k v).length ≤ sizeLine := by have := length_putK kvs k v; omega
    refine wpAny_setItem_pairs (hsz := hz) (kV_is ry) dd fun h' dd' hs => h _ ?_
    have he : ∃ q, h'.get? a = some q := let ⟨q, _, _, hq, _⟩ := dd'; ⟨q, hq⟩
    exact d_write I (by rw [e]; exact True.intro) hs he (dk_new hl hd (rel.put k rv) dd')
  · subst ey eH
    cases (show u = Value.ref b from ry)
    obtain ⟨z, hd, xs, rel, dd⟩ := dt_of I.hok e
    have hz : xs.length ≤ sizeLine := by rw [← Paired.length rel]; exact z
    have hl : (putK kvs k v).length ≤ sizeLine := by have := length_putK kvs k v; omega
    refine wpAny_setItem_heap (hsz := hz) (tupleKind_room_in1 hu) (key_of I.hok eb) dd fun h' dd' hs => h _ ?_
    obtain ⟨q, es, ep, hq, h2, h3, h4, _, h5⟩ := dd'
    refine d_write I (by rw [e]; exact True.intro) hs ⟨q, hq⟩ ⟨hl, hd, _, (rel.put k eb rv).keeps fun c ys ec => ?_, q, es, ep, hq, h2, h3, h4, h5⟩
    rw [upd_ne (ne_of ec e (fun z => nomatch z))]
    exact ec
end
section
variable {X : Cx} {pins : List (Addr × Obj)} {σ : St} {H : Hp} {s : Shared} {a : Addr} {kvs : List (Key × V)} {k : Key} {u : Value} {A : Around} {E : Value → Shared → Prop}
theorem d_len {Q : Value → Shared → Prop} (I : Inv X pins σ H s) (e : Rd H a (.dK kvs)) (h : ∀ t s', Inv X pins σ H s' → Q (.int kvs.length t) s') : wpAny (model X.prog X.w) A (call (.builtin "len") [.ref a]) Q E s := by
  obtain ⟨z, hd, vs, rel, dd⟩ := dk_rd I.hok e
  refine call_len_dict hd dd (by rw [← rel.length]; rw [sizeLine_eq] at z; omega) ?_
  rw [← rel.length]
  exact h _ _ (I.tok _)
end
def NoSl (i : Expr) : Prop := ∀ ov iv, subscripted i false ov iv = operate [ov, iv] (getItem ov iv)
theorem subD_of {prog : Program} {w : World} {A : Around} {E : Value → Shared → Prop} {s : Shared} {env : Env} {value slice : Expr} {pos : Pos} {T id : String} {Q : Value → Shared → Prop}
    (hl : typeLookup (.type T) "__getitem__" = pure (some (.builtin id))) (hs : NoSl slice)
    (h : wpAny (model prog w) A (eval value env) (fun o s₁ => wpAny (model prog w) A (eval slice env) (fun i s₂ => s₂.TypeIs o T ∧ wpAny (model prog w) A (getItem o i) Q E s₂) E s₁) E s) :
    wpAny (model prog w) A (eval (.Subscript value slice pos) env) Q E s := by
  refine Subscript_ (wpAny_mono h (fun o s₁ h₁ => wpAny_mono h₁ (fun i s₂ h₂ => ?_) fun _ _ x => x) fun _ _ x => x)
  obtain ⟨hT, h₂⟩ := h₂
  unfold subscriptTail
  refine wpAny_bind ?_
  rw [getitemInPython_of_ne hT.not_modules]
  refine wpAny_bind (wpAny_specialOf hT hl ?_)
  have fin : wpAny (model prog w) A (subscripted slice false o i) (fun r s₃ => wpAny (model prog w) A (letTemporaryGo value o r >>= fun _ => pure r) Q E s₃) E s₂ := by
    rw [hs o i]
    exact wpAny_operating (wpAny_mono h₂ (fun r s₃ h₃ => wpAny_bind (wpAny_letTemporaryGo (wpAny_pure h₃))) fun _ _ x => x)
  first
    | exact wpAny_pure (wpAny_bind fin)
    | exact wpAny_bind (wpAny_pure (wpAny_bind fin))
    | exact wpAny_bind fin
theorem dict_typeIs {X : Cx} {pins : List (Addr × Obj)} {σ : St} {H : Hp} {s : Shared} {a : Addr} {y : V} {o : Option V} (I : Inv X pins σ H s) (g : DGet H a y o) : s.TypeIs (.ref a) "dict" := by
  rcases g with ⟨kvs, k, e, _, _⟩ | ⟨kvs, k, b, e, _, _, _⟩
  · obtain ⟨_, _, vs, _, dd⟩ := dk_rd I.hok e
    exact dd.typeIs
  · obtain ⟨_, _, xs, _, dd⟩ := dt_rd I.hok e
    exact dd.typeIs
def tDGet (td ty : TE) : TE := fun σ H Q => td σ H fun x H1 => ty σ H1 fun y H2 => ∃ a v, x = .ref a ∧ DGet H2 a y (some v) ∧ Q v H2
def sDPut (td ty tv : TE) : TS := fun D σ H => tv σ H fun v H1 => td σ H1 fun x H2 => ty σ H2 fun y H3 => ∃ a H4, x = .ref a ∧ DPut H3 a y v H4 ∧ D.nx σ H4
section
variable {X : Cx} {o i e value : Expr} {pos pos' tpos : Pos} {td ty tv : TE}
theorem pe_dget (hu : X.A.units + 1 < cLine) (ho : PE X o td) (hi : PE X i ty) (hs : NoSl i) : PE X (.Subscript o i pos) (tDGet td ty) := by
  intro pins s σ H Q I h
  refine subD_of PySem.F.slot_dict_getitem.lookup hs (thn (ho pins s σ H _ I h) fun u s1 ⟨x, H1, I1, rx, q1⟩ => thn (hi pins s1 σ H1 _ I1 q1) fun iv s2 ⟨y, H2, I2, ry, a, v, ex, g, q2⟩ => ?_)
  subst ex
  obtain rfl : u = Value.ref a := rx
  exact ⟨dict_typeIs I2 g, d_getItem hu I2 g ry fun w' s3 I3 rw' => ⟨v, H2, I3, rw', q2⟩⟩
theorem ps_dput (hu : X.A.units + 1 < cLine) (ho : PE X o td) (hi : PE X i ty) (hv : PE X value tv) (hs : swapsWith value (some (.Subscript o i pos')) pos.line X.env = pure false) :
    PS X (.Assign [.Subscript o i pos'] value pos) (sDPut td ty tv) := by
  intro pins s σ H D I h
  refine wpAny_Assign_Subscript (thn (hv pins s σ H _ I h) fun r s1 ⟨v, H1, I1, rv, q1⟩ => thn (ho pins s1 σ H1 _ I1 q1) fun u s2 ⟨x, H2, I2, rx, q2⟩ => thn (hi pins s2 σ H2 _ I2 q2) fun iv s3 ⟨y, H3, I3, ry, a, H4, ex, g, q3⟩ => ?_) hs
  subst ex
  obtain rfl : u = Value.ref a := rx
  exact d_setItem hu I3 g ry rv fun s4 I4 => ⟨σ, H4, I4, q3⟩
end
theorem dk_empty {P : Program} {w : World} {H : Hp} (h : Heap) (hb : sysModules < h.objs.size) : ObjOk P w H (h.push { cls := .type "dict", data := .dict #[] }) h.objs.size (.dK []) :=
  ⟨Nat.zero_le _, beq_eq_false_iff_ne.mpr (Ne.symm (Nat.ne_of_lt hb)), [], .nil, Heap.DictOf.new h⟩
def tDNewK : TE := fun _ H Q => ∀ p, H p = none → Q (.ref p) (upd H p (.dK []))
section
variable {X : Cx} {pos : Pos}
theorem pe_dnewK : PE X (.Dict [] [] pos) tDNewK := fun pins s σ H Q I h =>
  wpAny_Dict_empty ⟨.ref s.heap.objs.size, _, I.laid (a := s.heap.objs.size) (o := .dK []) (t' := s.toks) (fun _ _ q => Heap.get?_push_of_some _ q) (Nat.le_refl _) (dk_empty s.heap I.big), rfl, h _ (I.hok.fresh (Nat.le_refl _))⟩
end
section
variable {X : Cx} {pins : List (Addr × Obj)} {σ : St} {H : Hp} {s : Shared} {a : Addr} {y d : V} {u r : Value} {o : Option V} {A : Around} {E : Value → Shared → Prop}
end
section
variable {X : Cx} {o e f : Expr} {apos cpos : Pos} {td ty tx : TE}
end
section
variable {X : Cx} {pins : List (Addr × Obj)} {σ : St} {H : Hp} {s : Shared} {a : Addr} {kvs : List (Key × V)} {A : Around} {E : Value → Shared → Prop}
theorem d_copyOf {Q : Value → Shared → Prop} (I : Inv X pins σ H s) (e : Rd H a (.dK kvs)) (h : ∀ p s', H p = none → Inv X pins σ (upd H p (.dK kvs)) s' → Q (.ref p) s') : wpAny (model X.prog X.w) A (call (.type "dict") [.ref a]) Q E s := by
  obtain ⟨z, hd, vs, rel, dd⟩ := dk_rd I.hok e
  refine kt_call_dict hd dd (by rw [← rel.length]; exact z) fun h' dd' hs => ?_
  refine h _ _ (I.hok.fresh (Nat.le_refl _)) (I.laid (a := s.heap.objs.size) (o := .dK kvs) (t' := s.toks) (fun b q hq => ?_) (Nat.le_refl _) (dk_new z (beq_eq_false_iff_ne.mpr (Ne.symm (Nat.ne_of_lt I.big))) rel dd'))
  exact (hs.2 b (Nat.ne_of_lt (Heap.lt_size hq))).trans (Heap.get?_push_of_some _ hq)
end
section
variable {X : Cx} {pins : List (Addr × Obj)} {σ : St} {H : Hp} {s : Shared} {a : Addr} {y : V} {u : Value} {A : Around} {E : Value → Shared → Prop}
end
end L2
namespace L2
open PySem PySem.Spec PyProof.Rows
section
variable {X : Cx}
theorem call_lenD : CallR X (.builtin "len") (fun xs H Q => ∃ a kvs, xs = [V.ref a] ∧ H a = some (.dK kvs) ∧ Q (.int kvs.length) H) := by
  intro pins s σ H xs us Q I r h
  obtain ⟨a, kvs, rfl, ha, q⟩ := h
  obtain ⟨u, rfl, ru⟩ := vals1 r
  cases ru
  exact d_len I (.inl ha) fun t s' I' => ⟨.int kvs.length, H, I', ⟨t, rfl⟩, q⟩
end
section
variable {κ : Type} [DecidableEq κ]
end
end L2
set_option Elab.async false
set_option linter.all false
set_option maxRecDepth 100000
set_option maxHeartbeats 4000000
namespace L2
open PySem PySem.Spec PyProof.Rows
def clOf (env : Env) : List (Str × NameKind) → List (Str × Addr) → List (Str × Addr)
  | [], cs => cs
  | (n, k) :: r, cs => if (k == NameKind.free) = true then (match env.cells.lookup n with | some c => clOf env r ((n, c) :: cs) | none => clOf env r cs) else clOf env r cs
theorem closure_list {env : Env} : ∀ (l : List (Str × NameKind)) (cs : List (Str × Addr)), (∀ x ∈ l, x.2 = .free → ∃ c, env.cells.lookup x.1 = some c) →
    (forIn l cs (fun (x : Str × NameKind) (cs : List (Str × Addr)) => match x with
      | (name, kind) => if (kind == NameKind.free) = true then (do let c ← cellOf env name; pure (ForInStep.yield ((name, c) :: cs))) else pure (ForInStep.yield cs)) : Sem (List (Str × Addr))) = pure (clOf env l cs)
  | [], _, _ => rfl
  | (n, k) :: r, cs, h => by
    rw [List.forIn_cons]
    have hr : ∀ x ∈ r, x.2 = .free → ∃ c, env.cells.lookup x.1 = some c := fun x hx => h x (List.mem_cons_of_mem _ hx)
    by_cases hk : (k == NameKind.free) = true
    · obtain ⟨c, hc⟩ := h (n, k) List.mem_cons_self (by simpa using hk)
      have e1 : clOf env ((n, k) :: r) cs = clOf env r ((n, c) :: cs) := by
        show (if (k == NameKind.free) = true then _ else _) = _
        rw [if_pos hk]
        have hc : env.cells.lookup n = some c := hc
        rw [hc]
      have e2 : cellOf env n = pure c := by
        have hc : env.cells.lookup n = some c := hc
        unfold cellOf; rw [hc]
      rw [e1, ← closure_list r ((n, c) :: cs) hr]
      show (if (k == NameKind.free) = true then (do let c ← cellOf env n; pure (ForInStep.yield ((n, c) :: cs))) else pure (ForInStep.yield cs)) >>= _ = _
      rw [if_pos hk, e2, pure_bind, pure_bind]
    · have e1 : clOf env ((n, k) :: r) cs = clOf env r cs := by
        show (if (k == NameKind.free) = true then _ else _) = _
        rw [if_neg hk]
      rw [e1, ← closure_list r cs hr]
      show (if (k == NameKind.free) = true then (do let c ← cellOf env n; pure (ForInStep.yield ((n, c) :: cs))) else pure (ForInStep.yield cs)) >>= _ = _
      rw [if_neg hk, pure_bind]
theorem closureFor_of {scope : Scope} {env : Env} (h : ∀ x ∈ scope.names, x.2 = .free → ∃ c, env.cells.lookup x.1 = some c) : closureFor scope env = pure (clOf env scope.names []) := by
  unfold closureFor
  have e := closure_list (env := env) scope.names [] h
  first
    | exact e
    | (refine Eq.trans ?_ e; rfl)
    | (rw [bind_pure]; exact e)
    | simpa using e
theorem clOf_sub {env : Env} {x : Str} {c : Addr} : ∀ {l : List (Str × NameKind)} {cs : List (Str × Addr)}, (∀ y d, cs.lookup y = some d → env.cells.lookup y = some d) → (clOf env l cs).lookup x = some c → env.cells.lookup x = some c
  | [], cs, h, e => h x c e
  | (n, k) :: r, cs, h, e => by
    unfold clOf at e
    by_cases hk : (k == NameKind.free) = true
    · rw [if_pos hk] at e
      cases q : env.cells.lookup n with
      | none => rw [q] at e; exact clOf_sub h e
      | some d =>
        rw [q] at e
        refine clOf_sub (fun y z hy => ?_) e
        rw [List.lookup_cons] at hy
        cases hyn : y == n with
        | true =>
          rw [hyn] at hy
          have : y = n := by simpa using hyn
          subst this
          rw [q]; exact hy
        | false => rw [hyn] at hy; exact h y z hy
    · rw [if_neg hk] at e; exact clOf_sub h e
theorem clOf_keeps {env : Env} {x : Str} {c : Addr} (hx : env.cells.lookup x = some c) : ∀ {l : List (Str × NameKind)} {cs : List (Str × Addr)}, cs.lookup x = some c → (clOf env l cs).lookup x = some c
  | [], _, h => h
  | (n, k) :: r, cs, h => by
    unfold clOf
    by_cases hk : (k == NameKind.free) = true
    · rw [if_pos hk]
      cases q : env.cells.lookup n with
      | none => exact clOf_keeps hx h
      | some d =>
        refine clOf_keeps hx ?_
        rw [List.lookup_cons]
        cases hxn : x == n with
        | true =>
          have : x = n := by simpa using hxn
          subst this
          rw [← q, hx]
        | false => exact h
    · rw [if_neg hk]; exact clOf_keeps hx h
theorem clOf_has {env : Env} {x : Str} {c : Addr} (hx : env.cells.lookup x = some c) : ∀ {l : List (Str × NameKind)} {cs : List (Str × Addr)}, (x, NameKind.free) ∈ l → (clOf env l cs).lookup x = some c
  | [], _, h => nomatch h
  | (n, k) :: r, cs, h => by
    unfold clOf
    rcases List.mem_cons.mp h with e | h
    · cases e
      rw [if_pos (show (NameKind.free == NameKind.free) = true by decide), hx]
      exact clOf_keeps hx (by rw [List.lookup_cons]; simp)
    · by_cases hk : (k == NameKind.free) = true
      · rw [if_pos hk]
        cases q : env.cells.lookup n with
        | none => exact clOf_has hx h
        | some d => exact clOf_has hx h
      · rw [if_neg hk]; exact clOf_has hx h
theorem cellsFrom_out {x : Str} : ∀ {l : List (Str × NameKind)} {n : Nat} {acc : List (Str × Addr)}, (∀ y ∈ l, y.2 = .cell → y.1 ≠ x) → (cellsFrom n l acc).lookup x = acc.lookup x
  | [], _, _, _ => rfl
  | (y, k) :: r, n, acc, h => by
    have hr : ∀ z ∈ r, z.2 = .cell → z.1 ≠ x := fun z hz => h z (List.mem_cons_of_mem _ hz)
    unfold cellsFrom
    split
    · rename_i hk
      rw [cellsFrom_out hr, List.lookup_cons]
      have : (x == y) = false := by
        have := h (y, k) List.mem_cons_self (by simpa using hk)
        exact beq_eq_false_iff_ne.mpr (fun z => this z.symm)
      rw [this]
    · exact cellsFrom_out hr
theorem cellsFrom_or {x : Str} {c : Addr} : ∀ {l : List (Str × NameKind)} {n : Nat} {acc : List (Str × Addr)}, (cellsFrom n l acc).lookup x = some c → acc.lookup x = some c ∨ (n ≤ c ∧ (x, NameKind.cell) ∈ l)
  | [], _, _, h => .inl h
  | (y, k) :: r, n, acc, h => by
    unfold cellsFrom at h
    split at h
    · rename_i hk
      have hk' : k = .cell := by simpa using hk
      rcases cellsFrom_or h with z | ⟨z1, z2⟩
      · rw [List.lookup_cons] at z
        cases hx : x == y with
        | true =>
          rw [hx] at z
          have e : n = c := Option.some.inj z
          have e2 : x = y := by simpa using hx
          subst e2; subst hk'
          exact .inr ⟨Nat.le_of_eq e, List.mem_cons_self⟩
        | false => rw [hx] at z; exact .inl z
      · exact .inr ⟨Nat.le_trans (Nat.le_succ _) z1, List.mem_cons_of_mem _ z2⟩
    · rcases cellsFrom_or h with z | ⟨z1, z2⟩
      · exact .inl z
      · exact .inr ⟨z1, List.mem_cons_of_mem _ z2⟩
theorem cellsFrom_inj : ∀ {l : List (Str × NameKind)} {n : Nat} {acc : List (Str × Addr)}, (∀ x y c, acc.lookup x = some c → acc.lookup y = some c → x = y) → (∀ z d, acc.lookup z = some d → d < n) → ∀ x y c, (cellsFrom n l acc).lookup x = some c → (cellsFrom n l acc).lookup y = some c → x = y
  | [], _, _, p, _ => p
  | (w, k) :: r, n, acc, p, lt => by
    unfold cellsFrom
    split
    · refine cellsFrom_inj (l := r) (n := n + 1) (acc := (w, n) :: acc) (fun x y c h1 h2 => ?_) (fun z d h => ?_)
      · rw [List.lookup_cons] at h1 h2
        cases hx : x == w with
        | true =>
          rw [hx] at h1
          have e1 : n = c := Option.some.inj h1
          cases hy : y == w with
          | true => exact (by simpa using hx : x = w).trans (by simpa using hy : y = w).symm
          | false =>
            rw [hy] at h2
            have := lt y c h2
            rw [← e1] at this
            exact absurd this (Nat.lt_irrefl _)
        | false =>
          rw [hx] at h1
          cases hy : y == w with
          | true =>
            rw [hy] at h2
            have e2 : n = c := Option.some.inj h2
            have := lt x c h1
            rw [← e2] at this
            exact absurd this (Nat.lt_irrefl _)
          | false => rw [hy] at h2; exact p x y c h1 h2
      · rw [List.lookup_cons] at h
        cases hz : z == w with
        | true =>
          rw [hz] at h
          have e : n = d := Option.some.inj h
          rw [← e]; exact Nat.lt_succ_self _
        | false =>
          rw [hz] at h
          exact Nat.lt_succ_of_lt (lt z d h)
    · exact cellsFrom_inj p lt
theorem cellsFrom_cell {x : Str} {c : Addr} : ∀ {l : List (Str × NameKind)} {h : Heap} {acc : List (Str × Addr)}, (∀ y d, acc.lookup y = some d → ∃ v, h.IsCell d v) → (cellsFrom h.objs.size l acc).lookup x = some c → ∃ v, (pushCells h l).IsCell c v
  | [], _, _, hA, e => hA x c e
  | (y, k) :: r, h, acc, hA, e => by
    unfold cellsFrom at e
    unfold pushCells
    split at e
    · rename_i hk
      rw [if_pos hk]
      have hs : (h.push { cls := .type "cell", data := .cell none } : Heap).objs.size = h.objs.size + 1 := Heap.size_push ..
      rw [← hs] at e
      refine cellsFrom_cell (fun z d hz => ?_) e
      rw [List.lookup_cons] at hz
      cases hzy : z == y with
      | true =>
        rw [hzy] at hz
        have e : h.objs.size = d := Option.some.inj hz
        subst e
        exact ⟨none, _, Heap.get?_push_size _ rfl, rfl⟩
      | false =>
        rw [hzy] at hz
        obtain ⟨v, o, ho, hd⟩ := hA z d hz
        exact ⟨v, o, Heap.get?_push_of_some _ ho, hd⟩
    · rename_i hk
      rw [if_neg hk]
      exact cellsFrom_cell hA e
theorem wpAny_newEnv_block {M : Model} {A : Around} {E : Value → Shared → Prop} {s : Shared} {scope : Scope} {globals : Addr} {cl : List (Str × Addr)} {qual : Str} {outer : Env} {Q : Env → Shared → Prop}
    (h : Q (newEnv scope s.heap.objs.size globals (cellsFrom (s.heap.objs.size + 1) scope.names cl) qual none .none (some outer) builtinsNs) { s with heap := pushCells (s.heap.push { cls := .type "dict", data := .dict #[] }) scope.names }) :
    wpAny M A (newFunctionEnv scope globals cl [] qual none .none (some outer)) Q E s := by
  simp only [newFunctionEnv, Option.isSome_some, if_true]
  refine wpAny_bind (wpAny_alloc ?_)
  refine wpAny_bind (wpAny_layCells _ (fun name kind cells => by cases hkc : kind == NameKind.cell <;> simp [hkc]) _ _ _ _ ?_)
  rw [show ({ s with heap := s.heap.push { cls := .type "dict", data := .dict #[] } } : Shared).heap.objs.size = s.heap.objs.size + 1 from Heap.size_push ..]
  rw [List.forIn_nil]
  exact wpAny_bind (wpAny_pure (wpAny_pure h))
theorem clOf_none {env : Env} {x : Str} : ∀ {l : List (Str × NameKind)} {cs : List (Str × Addr)}, (∀ y ∈ l, y.2 = .free → y.1 ≠ x) → (clOf env l cs).lookup x = cs.lookup x
  | [], _, _ => rfl
  | (n, k) :: r, cs, h => by
    have hr : ∀ z ∈ r, z.2 = .free → z.1 ≠ x := fun z hz => h z (List.mem_cons_of_mem _ hz)
    unfold clOf
    by_cases hk : (k == NameKind.free) = true
    · rw [if_pos hk]
      have nx : (x == n) = false := beq_eq_false_iff_ne.mpr fun z => h (n, k) List.mem_cons_self (by simpa using hk) z.symm
      cases q : env.cells.lookup n with
      | none => exact clOf_none hr
      | some d =>
        rw [show (clOf env r ((n, d) :: cs)).lookup x = ((n, d) :: cs).lookup x from clOf_none hr, List.lookup_cons, nx]
    · rw [if_neg hk]; exact clOf_none hr
def Cx.block (X : Cx) (scope : Scope) (C : Addr) (s₀ : Shared) (H₀ : Hp) (ex : List Addr) (N : List Str) : Cx where
  prog := X.prog
  w := X.w
  K := X.K
  mg := X.mg
  base := X.base
  A := X.A
  N := N
  s₀ := s₀
  H₀ := H₀
  env := compEnvC scope (cellsFrom (C + 1) scope.names (clOf X.env scope.names [])) C X.env
  outer := X.stack
  stack := X.stack
  ex := ex
  fn := fun x => scope.names.lookup x == some .cell
  calm := X.calm
  pn := []
  xe := fun _ _ => False
structure BlkSc (X : Cx) (scope : Scope) : Prop where
  kind : scope.kind = .function
  apart : ∀ y ∈ scope.names, ∀ z ∈ scope.names, y.2 = .cell → z.2 = .free → y.1 ≠ z.1
  owns : ∀ y ∈ scope.names, y.2 = .cell → scope.names.lookup y.1 = some .cell
  free : ∀ y ∈ scope.names, y.2 = .free → X.env.kindOf y.1 = some .cell ∨ X.env.kindOf y.1 = some .free
  locs : ∀ y ∈ scope.names, y.2 = .local → scope.names.lookup y.1 = some .local
theorem relabel_kind {scope : Scope} {env : Env} {x : Str} {k : NameKind} : ∀ {l : List (Str × NameKind)}, 
    (l.map fun (n, k) => if (k == NameKind.free && env.scope.kind == .function && env.kindOf n == some .cell) then (n, NameKind.cell) else (n, k)).lookup x = some k →
    k = .cell ∨ k = .free → ∃ k', (x, k') ∈ l ∧ (k' = .cell ∨ k' = .free)
  | [], h, _ => by simp at h
  | (n, j) :: r, h, hk => by
    have h : List.lookup x ((if (j == NameKind.free && env.scope.kind == .function && env.kindOf n == some .cell) = true then (n, NameKind.cell) else (n, j)) :: (r.map fun (n, k) => if (k == NameKind.free && env.scope.kind == .function && env.kindOf n == some .cell) then (n, NameKind.cell) else (n, k))) = some k := h
    by_cases hc : (j == NameKind.free && env.scope.kind == .function && env.kindOf n == some .cell) = true
    · rw [if_pos hc, List.lookup_cons] at h
      have hj : j = .free := by
        simp only [Bool.and_eq_true] at hc
        simpa using hc.1.1
      cases hx : x == n with
      | true =>
        have : x = n := by simpa using hx
        subst this
        exact ⟨j, List.mem_cons_self, .inr hj⟩
      | false =>
        rw [hx] at h
        obtain ⟨k', m, q⟩ := relabel_kind (scope := scope) h hk
        exact ⟨k', List.mem_cons_of_mem _ m, q⟩
    · rw [if_neg hc, List.lookup_cons] at h
      cases hx : x == n with
      | true =>
        rw [hx] at h
        have e : j = k := Option.some.inj h
        have : x = n := by simpa using hx
        subst this
        exact ⟨j, List.mem_cons_self, by rw [e]; exact hk⟩
      | false =>
        rw [hx] at h
        obtain ⟨k', m, q⟩ := relabel_kind (scope := scope) h hk
        exact ⟨k', List.mem_cons_of_mem _ m, q⟩
inductive Draws (X : Cx) (scope : Scope) : List Str → List (Option Nat) → Prop
  | nil : Draws X scope [] []
  | own {x : Str} {N : List Str} {ix : List (Option Nat)} : Draws X scope N ix → Draws X scope (x :: N) (Option.none :: ix)
  | tk {x : Str} {N : List Str} {ix : List (Option Nat)} {i : Nat} (hN : X.N[i]? = some x) (hv : Vis X.env.scope x) (hk : (relabel scope X.env).names.lookup x = some .cell ∨ (relabel scope X.env).names.lookup x = some .free) (hf : (x, NameKind.free) ∈ scope.names) :
      Draws X scope N ix → Draws X scope (x :: N) (some i :: ix)
def blkSt (σ : St) (ix : List (Option Nat)) : St := ix.map fun o => o.bind fun i => (σ[i]?).join
theorem Draws.len {X : Cx} {scope : Scope} {N : List Str} {ix : List (Option Nat)} (D : Draws X scope N ix) : ix.length = N.length := by
  induction D with
  | nil => rfl
  | own _ ih => simp [ih]
  | tk _ _ _ _ _ ih => simp [ih]
theorem Draws.get {X : Cx} {scope : Scope} {N : List Str} {ix : List (Option Nat)} {σ : St} (D : Draws X scope N ix) : ∀ (j : Nat) (x : Str) (v : V), N[j]? = some x → (blkSt σ ix)[j]? = some (some v) →
    ∃ (i : Nat), X.N[i]? = some x ∧ σ[i]? = some (some v) ∧ Vis X.env.scope x ∧ ((relabel scope X.env).names.lookup x = some .cell ∨ (relabel scope X.env).names.lookup x = some .free) ∧ (x, NameKind.free) ∈ scope.names := by
  induction D with
  | nil => intro j x v h; simp at h
  | own d ih =>
    intro j x v h1 h2
    cases j with
    | zero => simp [blkSt] at h2
    | succ j => exact ih j x v (by simpa using h1) (by simpa [blkSt] using h2)
  | @tk y N ix i hN hv hk hf d ih =>
    intro j x v h1 h2
    cases j with
    | zero =>
      have e : y = x := by simpa using h1
      subst e
      refine ⟨i, hN, ?_, hv, hk, hf⟩
      have h2 : ((σ[i]?).join) = some v := by simpa [blkSt] using h2
      cases q : σ[i]? with
      | none => rw [q] at h2; cases h2
      | some o => rw [q] at h2; exact congrArg some h2
    | succ j => exact ih j x v (by simpa using h1) (by simpa [blkSt] using h2)
section
variable {X : Cx} {pins : List (Addr × Obj)} {σ : St} {H : Hp} {s : Shared} {scope : Scope} {N : List Str} {ix : List (Option Nat)} {fp : List Addr}
theorem Inv.nostk (I : Inv X pins σ H s) {b : Addr} (h1 : b ≠ X.env.locals) (h2 : b ∉ X.fs) : b ∉ frs X.stack := fun z => (List.mem_cons.mp (I.stkSub b z)).elim h1 h2
theorem Inv.blockStart {h' : Heap} {tk : Nat} {m : Str → Option Value} (I : Inv X pins σ H s) (B : BlkSc X scope) (D : Draws X scope N ix) (hfp : ∀ b ∈ fp, FpOk X pins H b) (hfo : ∀ b ∈ fp, ∃ o, s.heap.get? b = some o)
    (hns : h'.Ns s.heap.objs.size m) (hk : ∀ b o, s.heap.get? b = some o → h'.get? b = some o) (hcl : ∀ x c, (cellsFrom (s.heap.objs.size + 1) scope.names (clOf X.env scope.names [])).lookup x = some c → ∃ v, h'.IsCell c v) :
    Inv (X.block scope s.heap.objs.size s H fp N) (X.pn ++ pins) (blkSt σ ix) H { s with heap := h', toks := tk } := by
  have sub : ∀ {x : Str} {c : Addr}, (clOf X.env scope.names []).lookup x = some c → X.env.cells.lookup x = some c := fun {x c} e => clOf_sub (fun y d z => by simp at z) e
  have old : ∀ {x : Str} {c : Addr}, (clOf X.env scope.names []).lookup x = some c → c < s.heap.objs.size := fun {x c} e => by
    obtain ⟨v, o, ho, _⟩ := I.cell x c (sub e)
    exact Heap.lt_size ho
  have two : ∀ {x : Str} {c : Addr}, (cellsFrom (s.heap.objs.size + 1) scope.names (clOf X.env scope.names [])).lookup x = some c → X.env.cells.lookup x = some c ∨ s.heap.objs.size < c := fun {x c} e => by
    rcases cellsFrom_or e with z | ⟨z, _⟩
    · exact .inl (sub z)
    · exact .inr z
  have own : ∀ {x : Str}, (x, NameKind.free) ∈ scope.names → (cellsFrom (s.heap.objs.size + 1) scope.names (clOf X.env scope.names [])).lookup x = (clOf X.env scope.names []).lookup x := fun {x} hx => cellsFrom_out fun y hy e => B.apart y hy _ hx e rfl
  have okB : (X.block scope s.heap.objs.size s H fp N).Ok := by
    refine ⟨I.ok.mod, B.kind, I.ok.glob, I.ok.blt, Nat.le_refl _, cellsFrom_inj (fun x y c h1 h2 => I.ok.inj x y c (sub h1) (sub h2)) (fun z d h => Nat.lt_succ_of_lt (old h)), fun x hx => ?_, (fun x c z e => ?_), I.ok.hd, I.ok.frames, .inl rfl, fun b hb => ⟨?_, fun x c e => ?_⟩,
      I.bs, Nat.le_trans I.ok.bsz I.sz, fun b o e hb => ?_, fun b hb => I.nostk (hfp b hb).2.1 (hfp b hb).2.2.1, I.stack, I.stkFree⟩
    · have hx' : (relabel scope X.env).names.lookup x = some .cell ∨ (relabel scope X.env).names.lookup x = some .free := hx
      have key : ∃ k', (x, k') ∈ scope.names ∧ (k' = .cell ∨ k' = .free) := by
        rcases hx' with e | e
        · exact relabel_kind (scope := scope) e (.inl rfl)
        · exact relabel_kind (scope := scope) e (.inr rfl)
      obtain ⟨k', m1, q⟩ := key
      rcases q with q | q
      · subst q
        exact Option.isSome_iff_exists.mp (PySem.W.cellsFrom_some _ _ _ (.inl (B.owns _ m1 rfl)))
      · subst q
        obtain ⟨c, hc⟩ := I.ok.has x (B.free _ m1 rfl)
        exact ⟨c, (own m1).trans (clOf_has hc m1)⟩
    · rcases cellsFrom_or e with q | ⟨q, _⟩
      · have z : scope.names.lookup x = some .cell := by
          have z : (scope.names.lookup x == some NameKind.cell) = true := z
          simpa using z
        have hm := PySem.mem_of_lookup z
        have : (x, NameKind.free) ∈ scope.names ∨ True := .inr trivial
        exact absurd q (by
          rw [clOf_none (fun y hy e1 e2 => B.apart _ hm y hy rfl e1 e2.symm)]
          intro h; cases h)
      · exact Nat.le_of_lt q
    · obtain ⟨o, e⟩ := hfo b hb
      exact Nat.ne_of_lt (Heap.lt_size e)
    · rcases two e with z | z
      · exact (hfp b hb).2.2.2.2.1 x c z
      · obtain ⟨o, e⟩ := hfo b hb
        exact Nat.ne_of_gt (Nat.lt_trans (Heap.lt_size e) z)
    · rcases (hfp b hb).2.2.2.1 with z | z
      · exact I.ok.noex b o e z
      · exact absurd (Nat.lt_of_lt_of_le (Heap.lt_size (I.ok.bs b o e).1) z) (Nat.lt_irrefl _)
  refine ⟨okB, rfl, I.bare, Un.kept hk, ⟨m, hns, fun j x v h1 h2 h3 => ?_⟩, fun x c e => ?_, I.hok.fresh (Nat.le_refl _), fun x c e => (two e).elim (fun z => I.freeC x c z) (fun z => I.hok.fresh (Nat.le_of_lt z)), fun p hp => ?_, I.hok.kept hk, ?_⟩
  · obtain ⟨i, e1, e2, vis, kd, fr⟩ := D.get j x v h1 h2
    obtain ⟨m0, hn0, hl⟩ := I.loc
    obtain ⟨u, r, l⟩ := hl i x v e1 e2 vis
    refine ⟨u, r, ?_⟩
    rcases l with ⟨k, _⟩ | ⟨_, c, hc, o, ho, hd⟩
    · rcases B.free _ fr rfl with z | z
      · have z : X.env.kindOf x = some .cell := z
        rw [k] at z; cases z
      · have z : X.env.kindOf x = some .free := z
        rw [k] at z; cases z
    · exact .inr ⟨kd, c, (own fr).trans (clOf_has hc fr), o, hk c o ho, hd⟩
  · exact hcl x c e
  · have hp' : p ∈ X.pn ++ pins := by simpa [Cx.block] using hp
    obtain ⟨e, n, ne, nf, d⟩ := I.pin p hp'
    exact ⟨hk _ _ e, n, Nat.ne_of_lt (Heap.lt_size e), I.nostk ne nf, d⟩
  · show (blkSt σ ix).length = N.length
    unfold blkSt
    rw [List.length_map]
    exact D.len
end
def PTs (X : Cx) (ifs : List Expr) (t : TT) : Prop :=
  ∀ (pins : List (Addr × Obj)) (s : Shared) (σ : St) (H : Hp) (Q : Bool → Hp → Prop), Inv X pins σ H s → t σ H Q →
    wpAny (model X.prog X.w) X.A (forIn ifs true fun c r => if r = true then do let ok ← isTrue c X.env (eval c X.env); pure (ForInStep.yield ok) else pure (ForInStep.yield r)) (TP X pins σ Q) X.xe s
def tTrue : TT := fun _ H Q => Q true H
theorem pts_nil {X : Cx} : PTs X [] tTrue := fun _ _ _ H _ I h => wpAny_tests_nil ⟨H, I, h⟩
theorem pts_one {X : Cx} {c : Expr} {t : TT} (h : PT X c t) : PTs X [c] t := fun pins s σ H Q I hw => wpAny_tests_one (h pins s σ H Q I hw)
theorem comp_loop {prog : Program} {w : World} {A : Around} {R : Result → Shared → Prop} {s : Shared} {elt target iter : Expr} {ifs : List Expr} {scope : Scope} {pos : Pos} {it acc : Value} {env : Env} (I : Nat → Shared → Prop)
    (turn : ∀ n s, I n s → wpAny (model prog w) A (pyNext it) (fun r s₁ => match r with
      | none => R (.ok .next) s₁
      | some v => wpAny (model prog w) A (letOwnedTupleGo target it v) (fun _ s₁' => wpAny (model prog w) A (assign target env v) (fun _ s₂ =>
          wpAny (model prog w) A (forIn ifs true fun c r => if r = true then do let ok ← isTrue c env (eval c env); pure (ForInStep.yield ok) else pure (ForInStep.yield r)) (fun ok s₃ =>
            if ok = true then wpAny (model prog w) A (eval elt env) (fun x s₄ =>
              wpAny (model prog w) A (call (.builtin "list.append") [acc, x]) (fun _ s₅ => ∃ m, m < n ∧ I m s₅) (fun _ _ => False) s₄) (fun _ _ => False) s₃
            else ∃ m, m < n ∧ I m s₃) (fun _ _ => False) s₂) (fun _ _ => False) s₁') (fun _ _ => False) s₁) (fun _ _ => False) s)
    (n : Nat) (h : I n s) :
    codeAny (model prog w) A (.compLoop (.ListComp elt [⟨target, iter, ifs, 0⟩] scope pos) 0 it acc env) R s := by
  refine codeAny_loop rfl I (fun n s hI => ?_) n h
  show wpAny _ A ((compTurn (.ListComp elt [⟨target, iter, ifs, 0⟩] scope pos) 0 it acc env).onRaise (fun x => do noteFrame x env; theTreesLotGoes x)) _ _ s
  refine wpAny_noted ?_
  rw [compTurn_list]
  refine wpAny_bind (wpAny_standAt (wpAny_bind (wpAny_mono (turn n s hI) (fun r s₁ h₁ => ?_) fun _ _ h' => h'.elim)))
  cases r with
  | none => exact wpAny_pure h₁
  | some v =>
    refine wpAny_bind (wpAny_mono h₁ (fun _ s₁' h₁' => ?_) fun _ _ h' => h'.elim)
    refine wpAny_bind (wpAny_mono h₁' (fun _ s₂ h₂ => wpAny_bind (wpAny_mono h₂ (fun ok s₃ h₃ => ?_) fun _ _ h' => h'.elim)) fun _ _ h' => h'.elim)
    cases ok with
    | false => exact wpAny_pure ⟨rfl, h₃⟩
    | true =>
      exact wpAny_bind (wpAny_bind (wpAny_mono h₃ (fun x s₄ h₄ => wpAny_bind (wpAny_mono h₄ (fun _ s₅ h₅ => wpAny_pure (wpAny_pure ⟨rfl, h₅⟩)) fun _ _ h' => h'.elim)) fun _ _ h' => h'.elim))
def tComp (wi : TI) (ix : List (Option Nat)) (g : TG) (tt : TT) (te : TE) : TE := fun σ H Q => wi σ H fun J H1 => ∀ D, H1 D = none → ∃ W : Nat → Nat → List V → St → Hp → Prop,
  (∃ m, W 0 m [] (blkSt σ ix) (upd H1 D (.lst []))) ∧ ∀ i m ys τ H2, W i m ys τ H2 →
    (J.stop i H2 ∧ Q (.ref D) H2) ∨ (J.go i H2 ∧ ∃ N : List V → St → Hp → Prop, (∀ ys' τ' H', N ys' τ' H' → ∃ m', m' < m ∧ W (i + 1) m' ys' τ' H') ∧ ∀ x H3, J.yld i H2 x H3 → g x τ H3 fun τ' H4 => tt τ' H4 fun b H5 =>
      if b = true then te τ' H5 fun v H6 => H6 D = some (.lst ys) ∧ ys.length < sizeLine ∧ N (ys ++ [v]) τ' (upd H6 D (.lst (ys ++ [v])))
      else N ys τ' H5)
theorem block_loop {Y : Cx} {tg elt iter : Expr} {ifs : List Expr} {scope : Scope} {pos : Pos} {g : TG} {tt : TT} {te : TE} {J : It} {fp : List Addr} {it D : Addr} {tn : Nat → Heap → Prop} {P : List (Addr × Obj)} {W : Nat → Nat → List V → St → Hp → Prop} {m0 : Nat}
    {R : Result → Shared → Prop} {QD : Hp → Prop} {s4 : Shared} {τ0 : St} {H4 : Hp}
    (hc : Y.calm = true) (hx : ∀ e s, Y.xe e s → False) (hg : PG Y tg g) (ht : PTs Y ifs tt) (he : PE Y elt te) (T : Turn Y.prog Y.w Y.K tg J fp it tn)
    (stat : ∀ {H' : Hp}, (∀ b ∈ fp, H' b = none) → ∀ b ∈ fp, FpOk Y P H' b)
    (turn : ∀ i m ys τ H2, W i m ys τ H2 → (J.stop i H2 ∧ QD H2) ∨ (J.go i H2 ∧ ∃ N : List V → St → Hp → Prop, (∀ ys' τ' H', N ys' τ' H' → ∃ m', m' < m ∧ W (i + 1) m' ys' τ' H') ∧ ∀ x H3, J.yld i H2 x H3 → g x τ H3 fun τ' H4 => tt τ' H4 fun b H5 =>
      if b = true then te τ' H5 fun v H6 => H6 D = some (.lst ys) ∧ ys.length < sizeLine ∧ N (ys ++ [v]) τ' (upd H6 D (.lst (ys ++ [v])))
      else N ys τ' H5))
    (fin : ∀ τ H' s', Inv Y P τ H' s' → QD H' → R (.ok .next) s')
    (I0 : Inv Y P τ0 H4 s4) (t0 : tn 0 s4.heap) (n0 : ∀ b ∈ fp, H4 b = none) (w0 : W 0 m0 [] τ0 H4) :
    codeAny (model Y.prog Y.w) Y.A (.compLoop (.ListComp elt [⟨tg, iter, ifs, 0⟩] scope pos) 0 (.ref it) (.ref D) Y.env) R s4 := by
  have nx : ∀ {α : Type} {t : Sem α} {Q : α → Shared → Prop} {s : Shared}, wpAny (model Y.prog Y.w) Y.A t Q Y.xe s → wpAny (model Y.prog Y.w) Y.A t Q (fun _ _ => False) s := fun h => wpAny_mono h (fun _ _ q => q) hx
  refine comp_loop (fun n s' => ∃ i ys τ H', Inv Y P τ H' s' ∧ tn i s'.heap ∧ (∀ b ∈ fp, H' b = none) ∧ W i n ys τ H') ?_ m0 ⟨0, [], τ0, H4, I0, t0, n0, w0⟩
  rintro n s5 ⟨i, ys, τ, H5, I5, st5, fr5, w5⟩
  rcases turn i n ys τ H5 w5 with ⟨stop, q⟩ | ⟨go, N, hN, step⟩
  · refine thn (T.done Y rfl rfl rfl hc i P s5 τ H5 _ I5 (stat fr5) st5 stop) fun r s6 ⟨hr, I6⟩ => ?_
    subst hr
    exact fin τ H5 s6 I6 q
  · refine thn (T.item Y rfl rfl rfl hc i P s5 τ H5 _ I5 (stat fr5) st5 go) fun r s6 ⟨u, hr, h6⟩ => ?_
    subst hr
    refine thn h6 fun _ s7 ⟨x, H7, I7, r7, y7, st7, fr7⟩ => ?_
    have I7' := I7.pinned (stat fr7) (T.obj _ _ st7)
    refine nx (thn (hg _ s7 τ H7 x u _ I7' r7 (step x H7 y7)) fun _ s8 ⟨τ8, H8, I8, q8⟩ => ?_)
    refine nx (thn (ht _ s8 τ8 H8 _ I8 q8) fun ok s9 ⟨H9, I9, q9⟩ => ?_)
    have again : ∀ {ys' : List V} {H' : Hp} {s' : Shared}, Inv Y (P ++ pinsAt fp s7.heap) τ8 H' s' → (∃ m', m' < n ∧ W (i + 1) m' ys' τ8 H') → ∃ m, m < n ∧ ∃ i ys τ H', Inv Y P τ H' s' ∧ tn i s'.heap ∧ (∀ b ∈ fp, H' b = none) ∧ W i m ys τ H' := fun {ys' H' s'} I' ⟨m', hm, w'⟩ => by
      refine ⟨m', hm, i + 1, ys', τ8, H', I'.unpinned, T.keep _ _ _ st7 fun b hb o e => (I'.pin (b, o) (List.mem_append_right _ (List.mem_append_right _ (mem_pinsAt hb e)))).1, fun b hb => ?_, w'⟩
      obtain ⟨o, e, d⟩ := T.obj _ _ st7 b hb
      exact (I'.pin (b, o) (List.mem_append_right _ (List.mem_append_right _ (mem_pinsAt hb e)))).2.1
    cases ok with
    | false =>
      rw [if_neg Bool.false_ne_true] at q9 ⊢
      exact again I9 (hN _ _ _ q9)
    | true =>
      rw [if_pos rfl] at q9 ⊢
      refine nx (thn (he _ s9 τ8 H9 _ I9 q9) fun y s10 ⟨v, H10, I10, r10, hD, hz, w10⟩ => ?_)
      refine nx (thn (mt_append (X := Y) _ s10 τ8 H10 (.ref D) [v] (.ref D) [y] (fun _ H' => H' = upd H10 D (.lst (ys ++ [v]))) I10 rfl (.cons r10 .nil) ⟨D, ys, v, rfl, rfl, hD, hz, rfl⟩) fun _ s11 ⟨z, H11, I11, _, e11⟩ => ?_)
      subst e11
      exact again I11 (hN _ _ _ w10)
theorem run_comp {X : Cx} {elt tg iter : Expr} {ifs : List Expr} {scope : Scope} {pos p1 : Pos} {N : List Str} {ix : List (Option Nat)} {wi : TI} {g : TG} {tt : TT} {te : TE} {pins : List (Addr × Obj)} {s : Shared} {σ : St} {H : Hp} {Q : VK} {use : Option (Value → Sem Unit)}
    {Z : Value → Shared → Prop}
    (hc : X.calm = true) (B : BlkSc X scope) (Dr : Draws X scope N ix) (hi : PI X tg iter wi)
    (hg : ∀ C s₀ H₀ ex, PG (X.block scope C s₀ H₀ ex N) tg g) (ht : ∀ C s₀ H₀ ex, PTs (X.block scope C s₀ H₀ ex N) ifs tt) (he : ∀ C s₀ H₀ ex, PE (X.block scope C s₀ H₀ ex N) elt te)
    (hs : ∀ x, foldedSetIterable iter X.env x = pure x)
    (I : Inv X pins σ H s) (h : tComp wi ix g tt te σ H Q)
    (fin : ∀ (D C : Addr) (H' : Hp) (s' : Shared) (m : Str → Option Value), Inv X pins σ H' s' → Q (.ref D) H' → s'.heap.Ns C m → (∀ h', Heap.SameBut C s'.heap h' → Inv X pins σ H' { s' with heap := h' }) → C ≠ X.env.locals → (∀ x c, X.env.cells.lookup x = some c → c ≠ C) → H' C = none →
      (∀ p ∈ X.pn ++ pins, p.1 ≠ C) → X.s₀.heap.objs.size ≤ C → compPost (model X.prog X.w) X.A X.xe use Z (.ref D) C (.ok .next) s') :
    wpAny (model X.prog X.w) X.A (comprehension (.ListComp elt [⟨tg, iter, ifs, 0⟩] scope pos) scope X.env p1 (newList []) false (eval iter X.env) use) Z X.xe s := by
  have hfree : ∀ x ∈ scope.names, x.2 = .free → ∃ c, X.env.cells.lookup x.1 = some c := fun x hx e => I.ok.has _ (B.free x hx e)
  refine wpAny_comprehension_free (use := use) rfl hs (closureFor_of hfree) B.kind B.locs ?_
  refine thn (hi pins s σ H _ I h) fun v s1 h1 => thn h1 fun itv s2 h2 => ?_
  obtain ⟨it, fp, tn, J, H2, e, I2, T, st2, f2, R⟩ := h2
  subst e
  have hDf : H2 s2.heap.objs.size = none := I2.hok.fresh (Nat.le_refl _)
  obtain ⟨W, ⟨m0, w0⟩, turn⟩ := R _ hDf
  refine wpAny_newObj_type ?_ (by show (0 : Nat) ≤ sizeLine; exact Nat.zero_le _)
  have I3 : Inv X pins σ (upd H2 s2.heap.objs.size (.lst [])) { s2 with heap := s2.heap.push { cls := .type "list", data := .seq ([] : List Value).toArray } } := I2.lnew (t' := s2.toks) (ys := []) (its := []) .nil (Nat.zero_le _)
  generalize hD : s2.heap.objs.size = D at *
  have fpo : ∀ b ∈ fp, ∃ o, s2.heap.get? b = some o := fun b hb => let ⟨o, q, _⟩ := T.obj _ _ st2 b hb; ⟨o, q⟩
  have fpD : ∀ b ∈ fp, b ≠ D := fun b hb => by
    obtain ⟨o, q⟩ := fpo b hb
    rw [← hD]; exact Nat.ne_of_lt (Heap.lt_size q)
  have f3 : ∀ b ∈ fp, FpOk X pins (upd H2 D (.lst [])) b := fun b hb => ⟨by rw [upd_ne (fpD b hb)]; exact (f2 b hb).1, (f2 b hb).2⟩
  generalize hs3 : ({ s2 with heap := s2.heap.push { cls := .type "list", data := .seq ([] : List Value).toArray } } : Shared) = s3 at I3 ⊢
  have k23 : ∀ b o, s2.heap.get? b = some o → s3.heap.get? b = some o := fun b o q => by rw [← hs3]; exact Heap.get?_push_of_some _ q
  have fpo3 : ∀ b ∈ fp, ∃ o, s3.heap.get? b = some o := fun b hb => let ⟨o, q⟩ := fpo b hb; ⟨o, k23 b o q⟩
  have st3 : tn 0 s3.heap := T.keep _ _ _ st2 fun b hb o q => k23 b o q
  refine wpAny_newEnv_block ?_
  have k34 : ∀ b o, s3.heap.get? b = some o → (pushCells (s3.heap.push { cls := .type "dict", data := .dict #[] }) scope.names).get? b = some o := fun b o q => pushCells_keeps _ _ b o (Heap.get?_push_of_some _ q)
  have hns4 : (pushCells (s3.heap.push { cls := .type "dict", data := .dict #[] }) scope.names).Ns s3.heap.objs.size (fun _ => none) := (Heap.Ns.new s3.heap (.type "dict")).keeps (pushCells_keeps _ _)
  have hcl4 : ∀ x c, (cellsFrom (s3.heap.objs.size + 1) scope.names (clOf X.env scope.names [])).lookup x = some c → ∃ v, (pushCells (s3.heap.push { cls := .type "dict", data := .dict #[] }) scope.names).IsCell c v := fun x c e => by
    refine cellsFrom_cell (h := s3.heap.push { cls := .type "dict", data := .dict #[] }) (acc := clOf X.env scope.names []) (fun y d hy => ?_) (by rw [Heap.size_push]; exact e)
    obtain ⟨v, o, ho, hd⟩ := I3.cell y d (clOf_sub (fun y d z => by simp at z) hy)
    exact ⟨v, o, Heap.get?_push_of_some _ ho, hd⟩
  have IB := I3.blockStart (tk := s3.toks) B Dr f3 fpo3 hns4 k34 hcl4
  generalize hh4 : pushCells (s3.heap.push { cls := .type "dict", data := .dict #[] }) scope.names = h4 at *
  generalize hC : s3.heap.objs.size = C at *
  have hCX : X.s₀.heap.objs.size ≤ C := by rw [← hC]; exact I3.sz
  have CL : C ≠ X.env.locals := by rw [← hC]; exact Nat.ne_of_gt I3.lt
  have Cc : ∀ x c, X.env.cells.lookup x = some c → c ≠ C := fun x c q => by
    obtain ⟨v, o, ho, _⟩ := I3.cell x c q
    rw [← hC]; exact Nat.ne_of_lt (Heap.lt_size ho)
  have Cp : ∀ p ∈ X.pn ++ pins, p.1 ≠ C := fun p hp => by
    rw [← hC]; exact Nat.ne_of_lt (Heap.lt_size (I3.pin p hp).1)
  have fpC : ∀ b ∈ fp, b ≠ C := fun b hb => by
    obtain ⟨o, q⟩ := fpo3 b hb
    rw [← hC]; exact Nat.ne_of_lt (Heap.lt_size q)
  have stat : ∀ {H' : Hp}, (∀ b ∈ fp, H' b = none) → ∀ b ∈ fp, FpOk (X.block scope C s3 (upd H2 D (.lst [])) fp N) (X.pn ++ pins) H' b := fun {H'} hn b hb => by
    obtain ⟨_, q1, q2, q3, q4, q5⟩ := f2 b hb
    exact ⟨hn b hb, fpC b hb, I3.nostk q1 q2, .inl hb, fun x c e => (cellsFrom_or e).elim (fun z => q4 x c (clOf_sub (fun y d z => by simp at z) z)) (fun z => by obtain ⟨o, q⟩ := fpo3 b hb; have := Heap.lt_size q; rw [hC] at this; exact Nat.ne_of_gt (Nat.lt_of_lt_of_le (Nat.lt_succ_of_lt this) z.1)), fun p hp => q5 p (by simpa [Cx.block] using hp)⟩
  have st4 : tn 0 h4 := T.keep _ _ _ st3 fun b hb o q => k34 b o q
  have n4 : ∀ b ∈ fp, (upd H2 D (.lst [])) b = none := fun b hb => (f3 b hb).1
  have loop := block_loop (Y := X.block scope C s3 (upd H2 D (.lst [])) fp N) (iter := iter) (pos := pos) (scope := scope) (D := D) (R := compPost (model X.prog X.w) X.A X.xe use Z (.ref D) C) hc (fun _ _ z => z) (hg C s3 _ fp) (ht C s3 _ fp) (he C s3 _ fp) T stat turn
    (fun τ H' s' I' q => by
      have I5 : Inv X pins σ H' s' := I3.call' (ch := fp) I'.os I'.base I'.hok I'.bare fun b hb => by
        obtain ⟨_, q1, q2, q3, q4, q5⟩ := f2 b hb
        exact ⟨q3, q1, q4, q5⟩
      obtain ⟨m, hn, _⟩ := I'.loc
      have hC0 : H' C = none := I'.free
      exact fin D C H' s' m I5 q hn (fun h'' hs'' => I5.turned (t' := s'.toks) (fun b o hb e => hs''.extBut b o hb e) hC0 CL (.inr hCX) Cc Cp) CL Cc hC0 Cp hCX) IB st4 n4 w0
  exact codeAny_compStart_list loop (T.self _ 0 _ _ _ st4 loop)
theorem pe_comp {X : Cx} {elt tg iter : Expr} {ifs : List Expr} {scope : Scope} {pos : Pos} {N : List Str} {ix : List (Option Nat)} {wi : TI} {g : TG} {tt : TT} {te : TE} (hc : X.calm = true) (B : BlkSc X scope) (Dr : Draws X scope N ix) (hi : PI X tg iter wi)
    (hg : ∀ C s₀ H₀ ex, PG (X.block scope C s₀ H₀ ex N) tg g) (ht : ∀ C s₀ H₀ ex, PTs (X.block scope C s₀ H₀ ex N) ifs tt) (he : ∀ C s₀ H₀ ex, PE (X.block scope C s₀ H₀ ex N) elt te)
    (hs : ∀ x, foldedSetIterable iter X.env x = pure x := by intro _; rfl) : PE X (.ListComp elt [⟨tg, iter, ifs, 0⟩] scope pos) (tComp wi ix g tt te) := by
  intro pins s σ H Q I h
  rw [eval_ListComp]
  exact run_comp (use := none) hc B Dr hi hg ht he hs I h fun D C H' s' m I' q hn k _ _ _ _ _ => ⟨m, hn, fun h' hs' => ⟨.ref D, H', k h' hs', rfl, q⟩⟩
theorem ps_comp {X : Cx} {elt tg iter : Expr} {ifs : List Expr} {scope : Scope} {pos spos py : Pos} {N : List Str} {ix : List (Option Nat)} {wi : TI} {g : TG} {tt : TT} {te : TE} {i : Nat} {y : Str} (hc : X.calm = true) (B : BlkSc X scope) (Dr : Draws X scope N ix) (hi : PI X tg iter wi)
    (hg : ∀ C s₀ H₀ ex, PG (X.block scope C s₀ H₀ ex N) tg g) (ht : ∀ C s₀ H₀ ex, PTs (X.block scope C s₀ H₀ ex N) ifs tt) (he : ∀ C s₀ H₀ ex, PE (X.block scope C s₀ H₀ ex N) elt te)
    (hN : X.N.Nodup) (hy : X.N[i]? = some y) (hl : X.env.scope.names.lookup y = some .local)
    (hsw : swapsWith (.ListComp elt [⟨tg, iter, ifs, 0⟩] scope pos) (some (.Name y py)) spos.line X.env = pure true := by rfl)
    (hs : ∀ x, foldedSetIterable iter X.env x = pure x := by intro _; rfl) : PS X (.Assign [.Name y py] (.ListComp elt [⟨tg, iter, ifs, 0⟩] scope pos) spos) (tAsg (tComp wi ix g tt te) (gName i)) := by
  intro pins s σ H Dn I h
  rw [exec_Assign_Name_used _ _ _ _ hsw]
  refine wpAny_bind (wpAny_standAt (wpAny_bind ?_))
  show wpAny _ X.A (do let _ ← comprehension (.ListComp elt [⟨tg, iter, ifs, 0⟩] scope pos) scope X.env _ (newList []) false (eval iter X.env) (some (assign (.Name y py) X.env))) _ _ s
  refine wpAny_bind (thn (run_comp (use := some (assign (.Name y py) X.env)) (Z := fun _ s' => SP X pins Dn .next s') hc B Dr hi hg ht he hs I h fun D C H' s' m I' q hn k CL Cc C0 Cp CX => ?_) fun _ s' hq => wpAny_pure (wpAny_pure hq))
  show wpAny _ _ (assign (.Name y py) X.env (.ref D)) _ _ s'
  refine wpAny_assign_Name (store_ok2 I' hN hy (.inl hl) (v := .ref D) rfl (fun s'' I'' ⟨a, sb, ha⟩ => ?_) (.inr hl))
  have aC : C ≠ a := by
    rcases ha with z | z
    · rw [z]; exact CL
    · exact (Cc _ _ z).symm
  exact ⟨m, hn.sameBut sb aC, fun h' hs' => ⟨_, H', I''.turned (t' := s''.toks) (fun b o hb e => hs'.extBut b o hb e) C0 CL (.inr CX) Cc Cp, q⟩⟩
theorem comp_by {J : It} {ix : List (Option Nat)} {g : TG} {tt : TT} {te : TE} {Q : VK} {σ : St} {H1 : Hp} {D : Addr} (xs : List V) (Pv : Nat → List V → St → Hp → Prop) (h0 : Pv 0 [] (blkSt σ ix) (upd H1 D (.lst [])))
    (hJ : ∀ i ys τ H, Pv i ys τ H → (∀ x, xs[i]? = some x → J.go i H ∧ ∀ y H', J.yld i H y H' → H' = H ∧ y = x) ∧ (i = xs.length → J.stop i H))
    (hs : ∀ i x ys τ H, xs[i]? = some x → Pv i ys τ H → g x τ H fun τ' H4 => tt τ' H4 fun b H5 => if b = true then te τ' H5 fun v H6 => H6 D = some (.lst ys) ∧ ys.length < sizeLine ∧ Pv (i + 1) (ys ++ [v]) τ' (upd H6 D (.lst (ys ++ [v]))) else Pv (i + 1) ys τ' H5)
    (hd : ∀ ys τ H, Pv xs.length ys τ H → Q (.ref D) H) :
    ∃ W : Nat → Nat → List V → St → Hp → Prop, (∃ m, W 0 m [] (blkSt σ ix) (upd H1 D (.lst []))) ∧ ∀ i m ys τ H2, W i m ys τ H2 →
      (J.stop i H2 ∧ Q (.ref D) H2) ∨ (J.go i H2 ∧ ∃ N : List V → St → Hp → Prop, (∀ ys' τ' H', N ys' τ' H' → ∃ m', m' < m ∧ W (i + 1) m' ys' τ' H') ∧ ∀ x H3, J.yld i H2 x H3 → g x τ H3 fun τ' H4 => tt τ' H4 fun b H5 =>
        if b = true then te τ' H5 fun v H6 => H6 D = some (.lst ys) ∧ ys.length < sizeLine ∧ N (ys ++ [v]) τ' (upd H6 D (.lst (ys ++ [v])))
        else N ys τ' H5) := by
  refine ⟨fun i m ys τ H => m = xs.length - i ∧ i ≤ xs.length ∧ Pv i ys τ H, ⟨xs.length, by simp, Nat.zero_le _, h0⟩, ?_⟩
  rintro i m ys τ H ⟨rfl, hi, p⟩
  obtain ⟨j1, j2⟩ := hJ i ys τ H p
  by_cases hlt : i < xs.length
  · have hx : xs[i]? = some xs[i] := by simp [hlt]
    obtain ⟨go, yl⟩ := j1 _ hx
    refine .inr ⟨go, Pv (i + 1), fun ys' τ' H' p' => ⟨xs.length - (i + 1), by omega, rfl, hlt, p'⟩, fun y H' yd => ?_⟩
    obtain ⟨e1, e2⟩ := yl y H' yd
    subst e1 e2
    exact hs i _ ys τ _ hx p
  · have e : i = xs.length := by omega
    subst e
    exact .inl ⟨j2 rfl, hd ys τ H p⟩
def blkOk (scope sc : Scope) : Bool := (scope.kind == .function) && (scope.names.all (fun y => scope.names.all fun z => y.2 != .cell || z.2 != .free || y.1 != z.1) && scope.names.all (fun y => y.2 != .cell || scope.names.lookup y.1 == some .cell)) && scope.names.all (fun y => y.2 != .free || sc.names.lookup y.1 == some .cell || sc.names.lookup y.1 == some .free) && scope.names.all (fun y => y.2 != .local || scope.names.lookup y.1 == some .local)
theorem blk_mk {X : Cx} {scope sc : Scope} (hsc : X.env.scope = sc) (h : blkOk scope sc = true) : BlkSc X scope := by
  unfold blkOk at h
  simp only [Bool.and_eq_true, List.all_eq_true, Bool.or_eq_true] at h
  obtain ⟨⟨⟨h1, h2, h5⟩, h3⟩, h4⟩ := h
  refine ⟨by simpa using h1, fun y hy z hz e1 e2 => ?_, fun y hy e => ?_, fun y hy e => ?_, fun y hy e => ?_⟩
  · rcases h2 y hy z hz with (q | q) | q
    · rw [e1] at q; simp at q
    · rw [e2] at q; simp at q
    · simpa using q
  · rcases h5 y hy with q | q
    · rw [e] at q; simp at q
    · simpa using q
  · have q := h3 y hy
    show X.env.scope.names.lookup y.1 = some .cell ∨ X.env.scope.names.lookup y.1 = some .free
    rw [hsc]
    rcases q with (q | q) | q
    · rw [e] at q; simp at q
    · exact .inl (by simpa using q)
    · exact .inr (by simpa using q)
  · have q := h4 y hy
    rcases q with q | q
    · rw [e] at q; simp at q
    · simpa using q
end L2
set_option Elab.async false
set_option linter.all false
set_option maxRecDepth 100000
set_option maxHeartbeats 4000000
namespace L2
open PySem PySem.Spec PyProof.Rows
def Its (z : Str) : It := ⟨fun i _ => i < z.cps.size, fun i H x H' => H' = H ∧ ∃ c, z.cps[i]? = some c ∧ x = .str ⟨#[c]⟩, fun i _ => z.cps.size ≤ i⟩
theorem turn_str {P : Program} {w : World} {K : PySem.W.Frag} {tg : Expr} (it : Addr) (z : Str) (t : Tok) (ty : String) (hty : ty = "str_ascii_iterator" ∨ ty = "str_iterator") : Turn P w K tg (Its z) [it] it (fun i h => h.IsStrIter it ty z t i) where
  mem := by simp
  obj := fun i h st b hb => by
    have e : b = it := by simpa using hb
    subst e
    obtain ⟨o, e, c, d⟩ := st
    exact ⟨o, e, fun v z => by rw [d] at z; cases z⟩
  keep := fun i h h' st k => by
    obtain ⟨o, e, c, d⟩ := st
    exact ⟨o, k it (by simp) o e, c, d⟩
  item := by
    intro X hP hw hK hc i pins s σ H E I hf st hg
    subst hP hw hK
    obtain ⟨f0, f1, f2, f3, f4, f5⟩ := hf it (by simp)
    have hlt : i < z.cps.size := hg
    have hx : z.cps[i]? = some z.cps[i] := by simp [hlt]
    have fin : ∀ h' : Heap, h'.IsStrIter it ty z t (i + 1) → Heap.SameBut it s.heap h' → ∃ u, some (Value.str ⟨#[z.cps[i]]⟩ s.toks) = some u ∧
        wpAny (model X.prog X.w) X.A (letOwnedTupleGo tg (.ref it) u) (fun _ s2 => ∃ x H', Inv X pins σ H' s2 ∧ RelV x u ∧ (Its z).yld i H x H' ∧ s2.heap.IsStrIter it ty z t (i + 1) ∧ ∀ b ∈ [it], H' b = none) E { s with heap := h', toks := s.toks + 1 } := fun h' st' sb => by
      have I1 : Inv X pins σ H { s with heap := h', toks := s.toks + 1 } := I.turned (t' := s.toks + 1) (fun b o hb e => (sb.2 b hb).trans e) f0 f1 f3 f4 f5
      obtain ⟨o, e, c, d⟩ := id st'
      exact ⟨_, rfl, go_of (s := { s with heap := h', toks := s.toks + 1 }) e c d (by rcases hty with rfl | rfl <;> decide) ⟨.str ⟨#[z.cps[i]]⟩, H, I1, ⟨_, rfl⟩, ⟨rfl, _, hx, rfl⟩, st', fun b hb => (hf b hb).1⟩⟩
    rcases hty with rfl | rfl
    · exact wpAny_pyNext_ascii_item st hx fin
    · exact wpAny_pyNext_wide_item st hx fin
  done := by
    intro X hP hw hK hc i pins s σ H E I hf st hg
    subst hP hw hK
    obtain ⟨f0, f1, f2, f3, f4, f5⟩ := hf it (by simp)
    have hle : z.cps.size ≤ i := hg
    have hx : z.cps[i]? = none := by simp [hle]
    have fin : ∀ h' : Heap, Heap.ExtBut it s.heap h' → (none : Option Value) = none ∧ Inv X pins σ H { s with heap := h' } := fun h' eb => ⟨rfl, I.turned (t' := s.toks) (fun b o hb e => eb b o hb e) f0 f1 f3 f4 f5⟩
    rcases hty with rfl | rfl
    · exact wpAny_pyNext_ascii_end (I.ok.hd hc) st hx fin
    · exact wpAny_pyNext_wide_end (I.ok.hd hc) st hx fin
  self := fun _ _ _ _ _ st h => by
    rcases hty with rfl | rfl
    · exact wpAny_pyIter_striter_ascii st h
    · exact wpAny_pyIter_striter_wide st h
def iStr (tl : TE) : TI := fun σ H R => tl σ H fun x H1 => ∃ z, x = .str z ∧ R (Its z) H1
theorem pi_str {X : Cx} {tg l : Expr} {tl : TE} (hl : PE X l tl) : PI X tg l (iStr tl) := by
  intro pins s σ H R I h
  refine thn (hl pins s σ H _ I h) fun v s1 ⟨x, H1, I1, r1, q1⟩ => ?_
  obtain ⟨z, e, q⟩ := q1
  subst e
  obtain ⟨t, rfl⟩ := r1
  have fin : ∀ (ty : String), (ty = "str_ascii_iterator" ∨ ty = "str_iterator") → PIE X pins σ tg R (.ref s1.heap.objs.size) { s1 with heap := s1.heap.push { cls := .type ty, data := .fields #[.str z t, .int 0 0] } } := fun ty hty =>
    ⟨s1.heap.objs.size, [s1.heap.objs.size], _, _, H1, rfl, I1.kept (t' := s1.toks) fun b o e => Heap.get?_push_of_some _ e, turn_str _ z t ty hty, ⟨_, Heap.get?_push_size _ rfl, rfl, rfl⟩, fun b hb => by
      have e : b = s1.heap.objs.size := by simpa using hb
      subst e
      exact I1.fpOk (Nat.le_refl _) (I1.hok.fresh (Nat.le_refl _)), q⟩
  cases ha : z.cps.all (· < 128)
  · exact wpAny_pyIter_wide ha (fin _ (.inr rfl))
  · exact wpAny_pyIter_ascii ha (fin _ (.inl rfl))
theorem bls_get {bs : List Bool} {its : List Value} (r : Vals (bs.map V.bl) its) {i : Nat} {v : Value} (h : its[i]? = some v) : v = .bool (bs.getD i false) ∧ i < bs.length := by
  have hl := r.length
  rw [List.length_map] at hl
  have hi : i < its.length := (List.getElem?_eq_some_iff.mp h).1
  have hb : i < bs.length := by omega
  have e : (bs.map V.bl)[i]? = some (V.bl bs[i]) := by simp [hb]
  obtain ⟨u, hu, ru⟩ := r.get e
  rw [h] at hu
  cases hu
  refine ⟨?_, hb⟩
  have : v = .bool bs[i] := ru
  rw [this, List.getD_eq_getElem?_getD]
  simp [hb]
theorem all_range (bs : List Bool) : (List.range bs.length).all (fun i => bs.getD i false) = bs.all id := by
  rw [Bool.eq_iff_iff]
  simp only [List.all_eq_true, List.mem_range]
  constructor
  · intro h x hx
    obtain ⟨i, hi, rfl⟩ := List.mem_iff_getElem.mp hx
    have := h i hi
    simpa [List.getD_eq_getElem?_getD, hi] using this
  · intro h i hi
    have := h bs[i] (List.getElem_mem hi)
    simpa [List.getD_eq_getElem?_getD, hi] using this
theorem call_all (X : Cx) (hc : X.calm = true) : CallR X (.builtin "all") (fun xs H Q => ∃ (p : Addr) (bs : List Bool), xs = [.ref p] ∧ SqL X.K H p (bs.map V.bl) ∧ Q (.bl (bs.all id)) H) := by
  intro pins s σ H xs us Q I rv h
  obtain ⟨p, bs, rfl, hq, q⟩ := h
  obtain ⟨u, rfl, ru⟩ := rv.one
  cases ru
  obtain ⟨its, r, pl, hz⟩ := I.list hq
  have hl := r.length
  rw [List.length_map] at hl
  refine call_all_walk (wpAny_pyIter_list pl.isList ?_)
  have hp : p < s.heap.objs.size := by obtain ⟨o, n, e, _⟩ := pl; exact Heap.lt_size e
  have I1 : Inv X pins σ H { s with heap := s.heap.push { cls := .type "list_iterator", data := .fields #[.ref p, .int 0 0] } } := I.kept (t' := s.toks) fun b o e => Heap.get?_push_of_some _ e
  refine ⟨s.heap.objs.size, _, _, _, _, _, fun i => bs.getD i false, rfl, Walks.list (A := X.A.in1) (show X.A.in1.handled = none from I.ok.hd hc) s.heap.objs.size p (Nat.ne_of_lt hp) its.toArray, ⟨⟨_, Heap.get?_push_size _ rfl, rfl, rfl⟩, pl.isList.at fun o e => Heap.get?_push_of_some _ e⟩, ?_, fun h' tk hk => ?_⟩
  · intro i v s' E' Q' hv hq'
    obtain ⟨rfl, _⟩ := bls_get r (by simpa using hv)
    exact wpAny_truthy_bool hq'
  · have e : (List.range its.toArray.size).all (fun i => bs.getD i false) = bs.all id := by
      rw [List.size_toArray, ← hl]; exact all_range bs
    refine ⟨.bl (bs.all id), H, ?_, by rw [e]; rfl, q⟩
    obtain ⟨f0, f1, f2, f3, f4, f5⟩ := I.fpOk (b := s.heap.objs.size) (Nat.le_refl _) (I.hok.fresh (Nat.le_refl _))
    exact I1.turned (t' := tk) (fun b o hb e => hk b o (by simpa using hb) e) f0 f1 f3 f4 f5
theorem call_isT {X : Cx} : CallR X (.builtin "isinstance") (fun xs H Q => ∃ x n t b, xs = [x, .ty n] ∧ TyOf X.K H x t ∧ PySem.W.kitOne X.K t (.type n) = some b ∧ Q (.bl b) H) := by
  intro pins s σ H xs us Q I rv h
  obtain ⟨x, n, t, b, rfl, ty, e, q⟩ := h
  obtain ⟨u, c, rfl, rx, rc⟩ := rv.two
  cases (show c = Value.type n from rc)
  exact isinst_ok I rx ty e fun tk => ⟨.bl b, H, I.tok tk, rfl, q⟩
theorem op_le_str {X : Cx} : OpR X (compareOp .LtE) (fun x y H Q => ∃ i j, x = .str i ∧ y = .str j ∧ Q (.bl (!(decide (j.cps.toList < i.cps.toList)))) H) := by
  intro pins s σ H x y v u Q I rx ry h
  obtain ⟨i, j, rfl, rfl, q⟩ := h
  obtain ⟨t, rfl⟩ := rx
  obtain ⟨t', rfl⟩ := ry
  exact PySem.P.le_str ⟨.bl _, H, I, rfl, q⟩
section
variable {X : Cx} {pins : List (Addr × Obj)} {σ : St} {H : Hp} {s : Shared}
end
section
variable {X : Cx}
end
end L2
set_option Elab.async false
set_option linter.all false
namespace SM
open PySem PySem.StrLaws PySem.Builtin PySem.Builtin.Str
end SM
set_option Elab.async false
set_option linter.all false
set_option maxRecDepth 100000
set_option maxHeartbeats 4000000
namespace L2
open PySem PySem.Spec PyProof.Rows
structure Cal (P : Program) (w : World) (K : PySem.W.Frag) (mg : Str → Option Value) (base : Heap) (x : Str) (k : Nat) (ps : List Str) (sp : Sp) : Prop where
  to : ∃ (f : Addr) (fd : FuncData), mg x = some (.ref f) ∧ PySem.W.keepIn K (.ref f) = true ∧ Binds K fd ps [] ∧ FnOk P w K mg base CX0 k f fd ps sp
theorem pe_callC {X : Cx} {x : Str} {k : Nat} {ps : List Str} {sp : Sp} {e : Expr} {es : List Expr} {p pos : Pos} {t : TA} (C : Cal X.prog X.w X.K X.mg X.base x k ps sp) (hr : Room k X.A) (hg : Gl X x) (ha : PA X (e :: es) t)
    (hdb : (x == ("__debug__" : Str)) = false := by decide) (he : starEach (e :: es) X.env = (false, eval e X.env) :: starEach es X.env := by rfl) (hpl : (backTo pos (starEach es X.env)).any (·.1) = false := by rfl) :
    PE X (.Call (.Name x p) (e :: es) [] pos) (tCall sp [] E0 t) := by
  obtain ⟨f, fd, h1, h2, h3, h4⟩ := C.to
  exact pe_call h4 hr hg h1 h2 h3 .nil pass0 ha hdb he hpl
theorem bo_max : bootBuiltins "max" = some (.builtin "max") := by decide +kernel
theorem bo_min : bootBuiltins "min" = some (.builtin "min") := by decide +kernel
theorem bo_all : bootBuiltins "all" = some (.builtin "all") := by decide +kernel
theorem bo_isinstance : bootBuiltins "isinstance" = some (.builtin "isinstance") := by decide +kernel
theorem bo_len : bootBuiltins "len" = some (.builtin "len") := by decide +kernel
theorem bo_int : bootBuiltins "int" = some (.type "int") := by decide +kernel
theorem bo_str : bootBuiltins "str" = some (.type "str") := by decide +kernel
theorem bo_list : bootBuiltins "list" = some (.type "list") := by decide +kernel
theorem bo_tuple : bootBuiltins "tuple" = some (.type "tuple") := by decide +kernel
theorem bo_dict : bootBuiltins "dict" = some (.type "dict") := by decide +kernel
theorem bo_bool : bootBuiltins "bool" = some (.type "bool") := by decide +kernel
def Fre (H : Hp) (l : Addr) : Prop := H l = none
def Kp (M : List Addr) (H H' : Hp) : Prop := ∀ b o, H b = some o → b ∉ M → H' b = some o
theorem Kp.refl {M : List Addr} {H : Hp} : Kp M H H := fun _ _ h _ => h
theorem Kp.trans {M : List Addr} {H H1 H2 : Hp} (a : Kp M H H1) (b : Kp M H1 H2) : Kp M H H2 := fun c o h n => b c o (a c o h n) n
theorem Kp.weak {M M' : List Addr} {H H' : Hp} (k : Kp M H H') (s : ∀ b, b ∈ M → b ∈ M') : Kp M' H H' := fun b o h n => k b o h fun z => n (s b z)
theorem Kp.new {M : List Addr} {H H' : Hp} {l : Addr} {o : HO} (k : Kp M H H') (f : Fre H l) : Kp M H (upd H' l o) := fun b u h n => by
  rw [upd_ne (ne_of_none h f)]; exact k b u h n
theorem Kp.put {M : List Addr} {H H' : Hp} {l : Addr} {o : HO} (k : Kp M H H') (f : l ∈ M) : Kp M H (upd H' l o) := fun b u h n => by
  rw [upd_ne (by intro e; subst e; exact n f)]; exact k b u h n
theorem Kp.at0 {H H' : Hp} (k : Kp [] H H') : Same H H' := fun b o h => k b o h (by simp)
theorem Kp.seq {K : PySem.W.Frag} {H H' : Hp} {a : Addr} {xs : List V} (e : Kp [] H H') (h : SqL K H a xs) : SqL K H' a xs := e.at0.seq h
theorem ne_fre {H : Hp} {a b : Addr} {o : HO} (f : Fre H b) (h : H a = some o) : a ≠ b := ne_of_none h f
theorem nm1 {a b : Addr} (h : a ≠ b) : a ∉ [b] := by simpa using h
theorem atI_at {α : Type} {xs : List α} {i : Int} {v : α} (h0 : 0 ≤ i) (h : xs[i.toNat]? = some v) : atI xs i = some v := by
  have hl : i.toNat < xs.length := (List.getElem?_eq_some_iff.mp h).1
  unfold atI ixN
  rw [if_pos h0, if_pos (by omega)]
  exact h
end L2
namespace L2
open PySem PySem.Spec PyProof.Rows
theorem kit_same {K : PySem.W.Frag} {t : Value} (h : (t == t) = true := by rfl) : PySem.W.kitOne K t t = some true := by
  unfold PySem.W.kitOne; rw [if_pos h]
end L2
namespace L2
open PySem PySem.Spec PyProof.Rows
theorem seq_mid {t u : TS} {D : Ends} {σ : St} {H : Hp} (Mid : St → Hp → Prop) (h1 : ∀ N : St → Hp → Prop, (∀ σ H, Mid σ H → N σ H) → t { D with nx := N } σ H) (h2 : ∀ σ H, Mid σ H → u D σ H) : tSeq t u D σ H := h1 (u D) h2
theorem if_mid {tb : TS} {D : Ends} {σ : St} {H : Hp} {b : Bool} (Mid : St → Hp → Prop) (h1 : ∀ N : St → Hp → Prop, (∀ σ H, Mid σ H → N σ H) → if b = true then tb { D with nx := N } σ H else N σ H) (h2 : ∀ σ H, Mid σ H → D.nx σ H) :
    if b = true then tb D σ H else tNext D σ H := h1 D.nx h2
end L2
namespace L2
open PySem PySem.Spec PyProof.Rows
theorem comp_list {K : PySem.W.Frag} {a : Addr} {ix : List (Option Nat)} {g : TG} {tt : TT} {te : TE} {QD : Hp → Prop} {σ : St} {H1 : Hp} {D : Addr} (xs : List V) (Pv : Nat → List V → St → Hp → Prop) (h0 : Pv 0 [] (blkSt σ ix) (upd H1 D (.lst [])))
    (hl : ∀ i ys τ H, Pv i ys τ H → SqL K H a xs)
    (hs : ∀ i x ys τ H, xs[i]? = some x → Pv i ys τ H → g x τ H fun τ' H4 => tt τ' H4 fun b H5 => if b = true then te τ' H5 fun v H6 => H6 D = some (.lst ys) ∧ ys.length < sizeLine ∧ Pv (i + 1) (ys ++ [v]) τ' (upd H6 D (.lst (ys ++ [v]))) else Pv (i + 1) ys τ' H5)
    (hd : ∀ ys τ H, Pv xs.length ys τ H → QD H) :
    ∃ W : Nat → Nat → List V → St → Hp → Prop, (∃ m, W 0 m [] (blkSt σ ix) (upd H1 D (.lst []))) ∧ ∀ i m ys τ H2, W i m ys τ H2 →
      ((Itl K a).stop i H2 ∧ QD H2) ∨ ((Itl K a).go i H2 ∧ ∃ N : List V → St → Hp → Prop, (∀ ys' τ' H', N ys' τ' H' → ∃ m', m' < m ∧ W (i + 1) m' ys' τ' H') ∧ ∀ x H3, (Itl K a).yld i H2 x H3 → g x τ H3 fun τ' H4 => tt τ' H4 fun b H5 =>
        if b = true then te τ' H5 fun v H6 => H6 D = some (.lst ys) ∧ ys.length < sizeLine ∧ N (ys ++ [v]) τ' (upd H6 D (.lst (ys ++ [v])))
        else N ys τ' H5) := by
  refine comp_by (Q := fun _ H => QD H) xs Pv h0 (fun i ys τ H p => ⟨fun x hx => ⟨⟨xs, x, hl i ys τ H p, hx⟩, fun y H' yl => ?_⟩, fun e => ⟨xs, hl i ys τ H p, by omega⟩⟩) hs hd
  obtain ⟨e, z⟩ := yl
  subst e
  have := z xs (hl i ys τ _ p)
  rw [hx] at this
  exact ⟨rfl, (Option.some.inj this).symm⟩
theorem comp_tup {K : PySem.W.Frag} {a : Addr} {ix : List (Option Nat)} {g : TG} {tt : TT} {te : TE} {QD : Hp → Prop} {σ : St} {H1 : Hp} {D : Addr} (xs : List V) (Pv : Nat → List V → St → Hp → Prop) (h0 : Pv 0 [] (blkSt σ ix) (upd H1 D (.lst [])))
    (hl : ∀ i ys τ H, Pv i ys τ H → SqT K H a xs)
    (hs : ∀ i x ys τ H, xs[i]? = some x → Pv i ys τ H → g x τ H fun τ' H4 => tt τ' H4 fun b H5 => if b = true then te τ' H5 fun v H6 => H6 D = some (.lst ys) ∧ ys.length < sizeLine ∧ Pv (i + 1) (ys ++ [v]) τ' (upd H6 D (.lst (ys ++ [v]))) else Pv (i + 1) ys τ' H5)
    (hd : ∀ ys τ H, Pv xs.length ys τ H → QD H) :
    ∃ W : Nat → Nat → List V → St → Hp → Prop, (∃ m, W 0 m [] (blkSt σ ix) (upd H1 D (.lst []))) ∧ ∀ i m ys τ H2, W i m ys τ H2 →
      ((Itt K a).stop i H2 ∧ QD H2) ∨ ((Itt K a).go i H2 ∧ ∃ N : List V → St → Hp → Prop, (∀ ys' τ' H', N ys' τ' H' → ∃ m', m' < m ∧ W (i + 1) m' ys' τ' H') ∧ ∀ x H3, (Itt K a).yld i H2 x H3 → g x τ H3 fun τ' H4 => tt τ' H4 fun b H5 =>
        if b = true then te τ' H5 fun v H6 => H6 D = some (.lst ys) ∧ ys.length < sizeLine ∧ N (ys ++ [v]) τ' (upd H6 D (.lst (ys ++ [v])))
        else N ys τ' H5) := by
  refine comp_by (Q := fun _ H => QD H) xs Pv h0 (fun i ys τ H p => ⟨fun x hx => ⟨⟨xs, x, hl i ys τ H p, hx⟩, fun y H' yl => ?_⟩, fun e => ⟨xs, hl i ys τ H p, by omega⟩⟩) hs hd
  obtain ⟨e, z⟩ := yl
  subst e
  have := z xs (hl i ys τ _ p)
  rw [hx] at this
  exact ⟨rfl, (Option.some.inj this).symm⟩
theorem comp_str {z : Str} {ix : List (Option Nat)} {g : TG} {tt : TT} {te : TE} {QD : Hp → Prop} {σ : St} {H1 : Hp} {D : Addr} (Pv : Nat → List V → St → Hp → Prop) (h0 : Pv 0 [] (blkSt σ ix) (upd H1 D (.lst [])))
    (hs : ∀ i c ys τ H, z.cps.toList[i]? = some c → Pv i ys τ H → g (.str ⟨#[c]⟩) τ H fun τ' H4 => tt τ' H4 fun b H5 => if b = true then te τ' H5 fun v H6 => H6 D = some (.lst ys) ∧ ys.length < sizeLine ∧ Pv (i + 1) (ys ++ [v]) τ' (upd H6 D (.lst (ys ++ [v]))) else Pv (i + 1) ys τ' H5)
    (hd : ∀ ys τ H, Pv z.length ys τ H → QD H) :
    ∃ W : Nat → Nat → List V → St → Hp → Prop, (∃ m, W 0 m [] (blkSt σ ix) (upd H1 D (.lst []))) ∧ ∀ i m ys τ H2, W i m ys τ H2 →
      ((Its z).stop i H2 ∧ QD H2) ∨ ((Its z).go i H2 ∧ ∃ N : List V → St → Hp → Prop, (∀ ys' τ' H', N ys' τ' H' → ∃ m', m' < m ∧ W (i + 1) m' ys' τ' H') ∧ ∀ x H3, (Its z).yld i H2 x H3 → g x τ H3 fun τ' H4 => tt τ' H4 fun b H5 =>
        if b = true then te τ' H5 fun v H6 => H6 D = some (.lst ys) ∧ ys.length < sizeLine ∧ N (ys ++ [v]) τ' (upd H6 D (.lst (ys ++ [v])))
        else N ys τ' H5) := by
  refine ⟨fun i m ys τ H => m = z.length - i ∧ i ≤ z.length ∧ Pv i ys τ H, ⟨z.length, by simp, Nat.zero_le _, h0⟩, ?_⟩
  rintro i m ys τ H ⟨rfl, hi, p⟩
  by_cases hlt : i < z.length
  · refine .inr ⟨hlt, Pv (i + 1), fun ys' τ' H' p' => ⟨z.length - (i + 1), by omega, rfl, hlt, p'⟩, fun y H' yd => ?_⟩
    obtain ⟨e1, c, e2, e3⟩ := yd
    subst e1 e3
    exact hs i c ys τ _ (by simpa using e2) p
  · have e : i = z.length := by omega
    subst e
    exact .inl ⟨Nat.le_refl _, hd ys τ H p⟩
theorem comp_list0 {K : PySem.W.Frag} {a : Addr} {ix : List (Option Nat)} {g : TG} {te : TE} {QD : Hp → Prop} {σ : St} {H1 : Hp} {D : Addr} (xs : List V) (Pv : Nat → List V → St → Hp → Prop) (h0 : Pv 0 [] (blkSt σ ix) (upd H1 D (.lst [])))
    (hl : ∀ i ys τ H, Pv i ys τ H → SqL K H a xs)
    (hs : ∀ i x ys τ H, xs[i]? = some x → Pv i ys τ H → g x τ H fun τ' H4 => te τ' H4 fun v H6 => H6 D = some (.lst ys) ∧ ys.length < sizeLine ∧ Pv (i + 1) (ys ++ [v]) τ' (upd H6 D (.lst (ys ++ [v]))))
    (hd : ∀ ys τ H, Pv xs.length ys τ H → QD H) :
    ∃ W : Nat → Nat → List V → St → Hp → Prop, (∃ m, W 0 m [] (blkSt σ ix) (upd H1 D (.lst []))) ∧ ∀ i m ys τ H2, W i m ys τ H2 →
      ((Itl K a).stop i H2 ∧ QD H2) ∨ ((Itl K a).go i H2 ∧ ∃ N : List V → St → Hp → Prop, (∀ ys' τ' H', N ys' τ' H' → ∃ m', m' < m ∧ W (i + 1) m' ys' τ' H') ∧ ∀ x H3, (Itl K a).yld i H2 x H3 → g x τ H3 fun τ' H4 => tTrue τ' H4 fun b H5 =>
        if b = true then te τ' H5 fun v H6 => H6 D = some (.lst ys) ∧ ys.length < sizeLine ∧ N (ys ++ [v]) τ' (upd H6 D (.lst (ys ++ [v])))
        else N ys τ' H5) := comp_list (tt := tTrue) xs Pv h0 hl hs hd
theorem comp_str0 {z : Str} {ix : List (Option Nat)} {g : TG} {te : TE} {QD : Hp → Prop} {σ : St} {H1 : Hp} {D : Addr} (Pv : Nat → List V → St → Hp → Prop) (h0 : Pv 0 [] (blkSt σ ix) (upd H1 D (.lst [])))
    (hs : ∀ i c ys τ H, z.cps.toList[i]? = some c → Pv i ys τ H → g (.str ⟨#[c]⟩) τ H fun τ' H4 => te τ' H4 fun v H6 => H6 D = some (.lst ys) ∧ ys.length < sizeLine ∧ Pv (i + 1) (ys ++ [v]) τ' (upd H6 D (.lst (ys ++ [v]))))
    (hd : ∀ ys τ H, Pv z.length ys τ H → QD H) :
    ∃ W : Nat → Nat → List V → St → Hp → Prop, (∃ m, W 0 m [] (blkSt σ ix) (upd H1 D (.lst []))) ∧ ∀ i m ys τ H2, W i m ys τ H2 →
      ((Its z).stop i H2 ∧ QD H2) ∨ ((Its z).go i H2 ∧ ∃ N : List V → St → Hp → Prop, (∀ ys' τ' H', N ys' τ' H' → ∃ m', m' < m ∧ W (i + 1) m' ys' τ' H') ∧ ∀ x H3, (Its z).yld i H2 x H3 → g x τ H3 fun τ' H4 => tTrue τ' H4 fun b H5 =>
        if b = true then te τ' H5 fun v H6 => H6 D = some (.lst ys) ∧ ys.length < sizeLine ∧ N (ys ++ [v]) τ' (upd H6 D (.lst (ys ++ [v])))
        else N ys τ' H5) := comp_str (tt := tTrue) Pv h0 hs hd
end L2
namespace L2
open PySem PySem.Spec PyProof.Rows
section
variable {X : Cx} {K : PySem.W.Frag}
theorem ix_tupK (hK : X.K = K := by rfl) : IxR X (rIxT K) := by subst hK; exact ix_tup
theorem op_notIn_seqK (hK : X.K = K := by rfl) : OpR X (compareOp .NotIn) (rIn K true) := by subst hK; exact op_notIn_seq
end
end L2
namespace L2
open PySem PySem.Spec PyProof.Rows
end L2
set_option Elab.async false
set_option linter.all false
set_option maxRecDepth 100000
set_option maxHeartbeats 4000000
namespace Tim
open PySem PyProof.Rows
def gal : Bool → Keyed → Array Keyed → Nat → Nat → Nat → StateT SortSt Sem (Option Nat) := sortPriv% PySem.Builtin.gallop
def mLo : Array Keyed → Array Keyed → StateT SortSt Sem (Array Keyed) := sortPriv% PySem.Builtin.mergeLo
def mHi : Array Keyed → Array Keyed → StateT SortSt Sem (Array Keyed) := sortPriv% PySem.Builtin.mergeHi
def kk (κ : KeyKind) (p : Keyed) : κ.α := (κ.keyOf p.1).getD κ.dflt
def Has (κ : KeyKind) (p : Keyed) : Prop := ∃ a, κ.keyOf p.1 = some a
theorem Has.key {κ : KeyKind} {p : Keyed} (h : Has κ p) : κ.keyOf p.1 = some (kk κ p) := by
  obtain ⟨a, e⟩ := h
  unfold kk; rw [e]; rfl
theorem KK_at {κ : KeyKind} {xs : Array Keyed} {i : Nat} {p : Keyed} (h : xs[i]? = some p) : KK κ xs i = kk κ p := by
  unfold KK kk; rw [h]
def CmpOk (prog : Program) (w : World) (A : Around) (s : Shared) (kd : SortKind) (κ : KeyKind) : Prop :=
  ∀ (E : Value → Shared → Prop) (x y : Value) (a b : κ.α) (Q : Bool → Shared → Prop), κ.keyOf x = some a → κ.keyOf y = some b → Q (κ.blt a b) s → wpAny (model prog w) A (keyLt' kd x y) Q E s
section
variable {prog : Program} {w : World} {A : Around} {E : Value → Shared → Prop} {s : Shared} {kd : SortKind} {κ : KeyKind}
theorem w_lt {st : SortSt} {x y : Keyed} {Q : Option Bool → SortSt → Prop} (C : CmpOk prog w A s kd κ) (hk : kindOf st = kd) (hx : Has κ x) (hy : Has κ y) (h : Q (some (κ.blt (kk κ x) (kk κ y))) st) : wpS (model prog w) A E s (lt' x y) Q st := by
  rw [lt'_eq]
  refine wpS_bind (wpS_get ?_)
  rw [hk]
  exact wpS_bind (wpS_lift (wpAny_attempt (C _ x.1 y.1 _ _ _ hx.key hy.key ⟨rfl, wpS_pure h⟩)))
theorem w_elem {st : SortSt} {arr : Array Keyed} {i : Nat} {p : Keyed} {Q : Keyed → SortSt → Prop} (e : arr[i]? = some p) (h : Q p st) : wpS (model prog w) A E s (elem' arr i) Q st := by
  rw [elem'_eq, e]; exact wpS_pure h
theorem w_ltAt {st : SortSt} {i j : Nat} {Q : Option Bool → SortSt → Prop} (C : CmpOk prog w A s kd κ) (hk : kindOf st = kd) (hi : ∃ p, (arrOf st)[i]? = some p ∧ Has κ p) (hj : ∃ p, (arrOf st)[j]? = some p ∧ Has κ p)
    (h : Q (some (κ.blt (KK κ (arrOf st) i) (KK κ (arrOf st) j))) st) : wpS (model prog w) A E s (ltAt' i j) Q st := by
  obtain ⟨p, e1, h1⟩ := hi
  obtain ⟨q, e2, h2⟩ := hj
  rw [KK_at e1, KK_at e2] at h
  rw [ltAt'_eq]
  exact wpS_bind (wpS_get (wpS_bind (w_elem e1 (wpS_bind (w_elem e2 (w_lt C hk h1 h2 h))))))
def byd (left : Bool) (key : Keyed) (arr : Array Keyed) (base i : Nat) : StateT SortSt Sem (Option Bool) := do
  let x ← elem' arr (base + i)
  if left = true then lt' x key else (do let r ← lt' key x; pure (r.map fun b => !b))
theorem w_byd {st : SortSt} {left : Bool} {key : Keyed} {arr : Array Keyed} {base i : Nat} {Q : Option Bool → SortSt → Prop} (C : CmpOk prog w A s kd κ) (hk : kindOf st = kd) (hkey : Has κ key) (hi : ∃ p, arr[base + i]? = some p ∧ Has κ p)
    (h : Q (some (if left = true then κ.blt (KK κ arr (base + i)) (kk κ key) else !κ.blt (kk κ key) (KK κ arr (base + i)))) st) : wpS (model prog w) A E s (byd left key arr base i) Q st := by
  obtain ⟨p, e, hp⟩ := hi
  rw [KK_at e] at h
  refine wpS_bind (w_elem e ?_)
  cases left with
  | true => exact w_lt C hk hp hkey h
  | false => exact wpS_bind (w_lt C hk hkey hp (wpS_pure h))
structure Gal (n : Nat) (p : Nat → Bool) (k : Nat) : Prop where
  le : k ≤ n
  lo : ∀ i, i < k → p i = true
  hi : ∀ i, k ≤ i → i < n → p i = false
theorem w_gal {st : SortSt} {left : Bool} {key : Keyed} {arr : Array Keyed} {base n hint : Nat} {Q : Option Nat → SortSt → Prop} (p : Nat → Bool) (C : CmpOk prog w A s kd κ) (hk : kindOf st = kd) (hkey : Has κ key)
    (hin : ∀ i, i < n → ∃ q, arr[base + i]? = some q ∧ Has κ q) (hp : ∀ i, i < n → (if left = true then κ.blt (KK κ arr (base + i)) (kk κ key) else !κ.blt (kk κ key) (KK κ arr (base + i))) = p i)
    (mono : ∀ i j, i ≤ j → j < n → p j = true → p i = true) (hh : hint < n) (h : ∀ k, Gal n p k → Q (some k) st) : wpS (model prog w) A E s (gal left key arr base n hint) Q st := by
  have ask : ∀ (i : Nat) {R : Option Bool → SortSt → Prop}, i < n → R (some (p i)) st → wpS (model prog w) A E s (byd left key arr base i) R st := fun i R hi hR =>
    w_byd C hk hkey (hin i hi) (by rw [hp i hi]; exact hR)
  have bin : ∀ (l r : Nat), l ≤ r → r ≤ n → (∀ i, i < l → p i = true) → (∀ i, r ≤ i → i < n → p i = false) → ∀ (F : Nat → Option (Option Nat) × Nat × Nat → StateT SortSt Sem (ForInStep (Option (Option Nat) × Nat × Nat))),
      (∀ x l r, F x (none, l, r) = (if l ≥ r then pure (ForInStep.done (none, l, r)) else do
        let c ← byd left key arr base (l + (r - l) / 2)
        match c with
        | some more => if more = true then pure (ForInStep.yield (none, l + (r - l) / 2 + 1, r)) else pure (ForInStep.yield (none, l, l + (r - l) / 2))
        | _ => pure (ForInStep.done (some none, l, r)))) → ∀ G : Option (Option Nat) × Nat × Nat → StateT SortSt Sem (Option Nat), (∀ l r, G (none, l, r) = pure (some r)) →
      wpS (model prog w) A E s (forIn [:n] ((none, l, r) : Option (Option Nat) × Nat × Nat) F >>= G) Q st := by
    intro l r hlr hrn hl hr F hF G hG
    refine wpS_bind (wpS_mono (wpS_forRange (I := fun x c st' => st' = st ∧ ∃ l r, c = (none, l, r) ∧ l ≤ r ∧ r ≤ n ∧ r - l ≤ n - x ∧ (∀ i, i < l → p i = true) ∧ (∀ i, r ≤ i → i < n → p i = false))
      (Q := fun c st' => st' = st ∧ ∃ r, c = (none, r, r) ∧ r ≤ n ∧ (∀ i, i < r → p i = true) ∧ (∀ i, r ≤ i → i < n → p i = false)) ?step ?fin ⟨rfl, l, r, rfl, hlr, hrn, by omega, hl, hr⟩) ?post)
    case fin =>
      rintro c st' ⟨rfl, l, r, rfl, h1, h2, h3, h4, h5⟩
      have : l = r := by omega
      subst this
      exact ⟨rfl, l, rfl, h2, h4, h5⟩
    case post =>
      rintro c st' ⟨rfl, r, rfl, h1, h2, h3⟩
      rw [hG]
      exact wpS_pure (h r ⟨h1, h2, h3⟩)
    case step =>
      rintro x c st' _ hx ⟨rfl, l, r, rfl, h1, h2, h3, h4, h5⟩
      rw [hF x l r]
      by_cases hge : l ≥ r
      · rw [if_pos hge]
        have : l = r := by omega
        subst this
        exact wpS_pure ⟨rfl, l, rfl, h2, h4, h5⟩
      · rw [if_neg hge]
        have hm : l + (r - l) / 2 < n := by omega
        refine wpS_bind (ask _ hm ?_)
        cases e : p (l + (r - l) / 2) with
        | true =>
          show wpS _ _ _ _ (if true = true then _ else _) _ _
          rw [if_pos rfl]
          exact wpS_pure ⟨rfl, _, _, rfl, by omega, h2, by omega, fun i hi => mono i _ (by omega) hm e, h5⟩
        | false =>
          show wpS _ _ _ _ (if false = true then _ else _) _ _
          rw [if_neg (by decide)]
          refine wpS_pure ⟨rfl, _, _, rfl, by omega, by omega, by omega, h4, fun i h6 h7 => ?_⟩
          cases z : p i with
          | false => rfl
          | true => rw [mono _ i h6 h7 z] at e; cases e
  refine wpS_bind (ask hint hh ?_)
  cases e0 : p hint with
  | true =>
    show wpS _ _ _ _ (if true = true then _ else _) _ _
    rw [if_pos rfl]
    refine wpS_bind (wpS_mono (wpS_forRange (I := fun x c st' => st' = st ∧ ∃ l o, c = (none, l, o) ∧ l < o ∧ hint + l < n ∧ p (hint + l) = true ∧ x + 1 ≤ o)
      (Q := fun c st' => st' = st ∧ ∃ l o, c = (none, l, o) ∧ l < o ∧ hint + l < n ∧ p (hint + l) = true ∧ (n - hint ≤ o ∨ p (hint + o) = false)) ?step ?fin ⟨rfl, 0, 1, rfl, by omega, by omega, e0, by omega⟩) ?post)
    case fin =>
      rintro c st' ⟨rfl, l, o, rfl, h1, h2, h3, h4⟩
      exact ⟨rfl, l, o, rfl, h1, h2, h3, .inl (by omega)⟩
    case step =>
      rintro x c st' _ hx ⟨rfl, l, o, rfl, h1, h2, h3, h4⟩
      dsimp only
      by_cases ho : o ≥ n - hint
      · rw [if_pos ho]
        exact wpS_pure ⟨rfl, l, o, rfl, h1, h2, h3, .inl ho⟩
      · rw [if_neg ho]
        refine wpS_bind (ask (hint + o) (by omega) ?_)
        cases e : p (hint + o) with
        | true =>
          show wpS _ _ _ _ (if false = true then _ else _) _ _
          rw [if_neg (by decide)]
          exact wpS_pure ⟨rfl, o, 2 * o + 1, rfl, by omega, by omega, e, by omega⟩
        | false =>
          show wpS _ _ _ _ (if true = true then _ else _) _ _
          rw [if_pos rfl]
          exact wpS_pure ⟨rfl, l, o, rfl, h1, h2, h3, .inr e⟩
    case post =>
      rintro c st' ⟨rfl, l, o, rfl, h1, h2, h3, h4⟩
      refine bin (hint + l + 1) (hint + min o (n - hint)) ?_ ?_ ?_ ?_ _ (fun x l r => rfl) _ (fun l r => rfl)
      · rcases h4 with z | z
        · omega
        · by_cases ho : o < n - hint
          · omega
          · omega
      · omega
      · intro i hi
        exact mono i (hint + l) (by omega) h2 h3
      · intro i h5 h6
        rcases h4 with z | z
        · omega
        · cases q : p i with
          | false => rfl
          | true =>
            by_cases ho : o < n - hint
            · rw [mono (hint + o) i (by omega) h6 q] at z; cases z
            · omega
  | false =>
    show wpS _ _ _ _ (if false = true then _ else _) _ _
    rw [if_neg (by decide)]
    refine wpS_bind (wpS_mono (wpS_forRange (I := fun x c st' => st' = st ∧ ∃ l o, c = (none, l, o) ∧ l < o ∧ l ≤ hint ∧ p (hint - l) = false ∧ x + 1 ≤ o)
      (Q := fun c st' => st' = st ∧ ∃ l o, c = (none, l, o) ∧ l < o ∧ l ≤ hint ∧ p (hint - l) = false ∧ (hint + 1 ≤ o ∨ (o ≤ hint ∧ p (hint - o) = true))) ?step ?fin ⟨rfl, 0, 1, rfl, by omega, by omega, e0, by omega⟩) ?post)
    case fin =>
      rintro c st' ⟨rfl, l, o, rfl, h1, h2, h3, h4⟩
      exact ⟨rfl, l, o, rfl, h1, h2, h3, .inl (by omega)⟩
    case step =>
      rintro x c st' _ hx ⟨rfl, l, o, rfl, h1, h2, h3, h4⟩
      dsimp only
      by_cases ho : o ≥ hint + 1
      · rw [if_pos ho]
        exact wpS_pure ⟨rfl, l, o, rfl, h1, h2, h3, .inl ho⟩
      · rw [if_neg ho]
        refine wpS_bind (ask (hint - o) (by omega) ?_)
        cases e : p (hint - o) with
        | true =>
          show wpS _ _ _ _ (if true = true then _ else _) _ _
          rw [if_pos rfl]
          exact wpS_pure ⟨rfl, l, o, rfl, h1, h2, h3, .inr ⟨by omega, e⟩⟩
        | false =>
          show wpS _ _ _ _ (if false = true then _ else _) _ _
          rw [if_neg (by decide)]
          exact wpS_pure ⟨rfl, o, 2 * o + 1, rfl, by omega, by omega, e, by omega⟩
    case post =>
      rintro c st' ⟨rfl, l, o, rfl, h1, h2, h3, h4⟩
      refine bin (hint + 1 - min o (hint + 1)) (hint - l) ?_ ?_ ?_ ?_ _ (fun x l r => rfl) _ (fun l r => rfl)
      · omega
      · omega
      · intro i hi
        rcases h4 with z | ⟨z1, z2⟩
        · omega
        · exact mono i (hint - o) (by omega) (by omega) z2
      · intro i h5 h6
        cases q : p i with
        | false => rfl
        | true => rw [mono (hint - l) i h5 h6 q] at h3; cases h3
end
end Tim
set_option Elab.async false
set_option linter.all false
set_option maxRecDepth 100000
set_option maxHeartbeats 4000000
namespace Tim
open PySem PyProof.Rows
section
variable {κ : KeyKind}
def le (κ : KeyKind) (x y : Keyed) : Prop := κ.kle (kk κ x) (kk κ y)
theorem le.trans {x y z : Keyed} (a : le κ x y) (b : le κ y z) : le κ x z := KeyOrd.kle_trans a b
theorem le.refl (x : Keyed) : le κ x x := KeyOrd.kle_refl _
theorem le_of_lt {x y : Keyed} (h : κ.blt (kk κ x) (kk κ y) = true) : le κ x y := KeyOrd.kle_of_klt h
theorem le_of_not {x y : Keyed} (h : κ.blt (kk κ x) (kk κ y) = false) : le κ y x := h
abbrev Srt (κ : KeyKind) (l : List Keyed) : Prop := l.Pairwise (le κ)
theorem drop_at {a : Array Keyed} {i : Nat} {x : Keyed} (e : a[i]? = some x) : a.toList.drop i = x :: a.toList.drop (i + 1) := by
  have e' : a.toList[i]? = some x := by simpa using e
  have hi : i < a.toList.length := (List.getElem?_eq_some_iff.mp e').1
  have hx : a.toList[i] = x := (List.getElem?_eq_some_iff.mp e').2
  rw [← hx, List.getElem_cons_drop]
theorem srt_drop {a : Array Keyed} (h : Srt κ a.toList) (i : Nat) : Srt κ (a.toList.drop i) := h.sublist (List.drop_sublist i _)
theorem srt_head {a : Array Keyed} {i : Nat} {x : Keyed} (h : Srt κ a.toList) (e : a[i]? = some x) : ∀ y ∈ a.toList.drop i, le κ x y := fun y hy => by
  have s := srt_drop h i
  rw [drop_at e] at s hy
  rcases List.mem_cons.mp hy with z | z
  · rw [z]; exact le.refl _
  · exact (List.pairwise_cons.mp s).1 y z
theorem ext_more {a : Array Keyed} {i k : Nat} {x : Keyed} (e : a[i + k]? = some x) : a.extract i (i + (k + 1)) = (a.extract i (i + k)).push x := by
  have hk : i + k < a.size := (Array.getElem?_eq_some_iff.mp e).1
  apply Array.toList_inj.mp
  rw [Array.toList_push, Array.toList_extract, Array.toList_extract, List.extract_eq_drop_take, List.extract_eq_drop_take]
  have e1 : i + (k + 1) - i = k + 1 := by omega
  have e2 : i + k - i = k := by omega
  rw [e1, e2, List.take_succ]
  congr 1
  rw [List.getElem?_drop]
  have : a.toList[i + k]? = some x := by simpa using e
  rw [this]; rfl
structure MI (κ : KeyKind) (a b out : Array Keyed) (ia ib : Nat) : Prop where
  la : ia ≤ a.size
  lb : ib ≤ b.size
  perm : (out.toList ++ (a.toList.drop ia ++ b.toList.drop ib)).Perm (a.toList ++ b.toList)
  srt : Srt κ out.toList
  low : ∀ x ∈ out.toList, ∀ y ∈ a.toList.drop ia ++ b.toList.drop ib, le κ x y
structure Fn (κ : KeyKind) (a b r : Array Keyed) : Prop where
  perm : r.toList.Perm (a.toList ++ b.toList)
  srt : Srt κ r.toList
section
variable {a b out : Array Keyed} {ia ib : Nat}
theorem MI.tB (M : MI κ a b out ia ib) {y : Keyed} (e : b[ib]? = some y) (sb : Srt κ b.toList) (h : ∀ x ∈ a.toList.drop ia, le κ y x) : MI κ a b (out.push y) ia (ib + 1) := by
  have hb : ib < b.size := (Array.getElem?_eq_some_iff.mp e).1
  have d := drop_at e
  have hy : y ∈ b.toList.drop ib := by rw [d]; exact List.mem_cons_self
  refine ⟨M.la, hb, ?_, ?_, ?_⟩
  · refine List.Perm.trans ?_ M.perm
    rw [Array.toList_push, d, List.append_assoc]
    refine List.Perm.append_left _ ?_
    show (y :: (a.toList.drop ia ++ b.toList.drop (ib + 1))).Perm _
    exact (List.perm_middle).symm
  · rw [Array.toList_push]
    refine List.pairwise_append.mpr ⟨M.srt, List.pairwise_singleton _ _, fun x hx z hz => ?_⟩
    have : z = y := by simpa using hz
    subst this
    exact M.low x hx z (List.mem_append_right _ hy)
  · intro x hx z hz
    rw [Array.toList_push] at hx
    have hz' : z ∈ a.toList.drop ia ++ b.toList.drop ib := by
      rcases List.mem_append.mp hz with q | q
      · exact List.mem_append_left _ q
      · exact List.mem_append_right _ (by rw [d]; exact List.mem_cons_of_mem _ q)
    rcases List.mem_append.mp hx with q | q
    · exact M.low x q z hz'
    · have : x = y := by simpa using q
      subst this
      rcases List.mem_append.mp hz' with q | q
      · exact h z q
      · exact srt_head sb e z q
theorem MI.tA (M : MI κ a b out ia ib) {x : Keyed} (e : a[ia]? = some x) (sa : Srt κ a.toList) (h : ∀ y ∈ b.toList.drop ib, le κ x y) : MI κ a b (out.push x) (ia + 1) ib := by
  have ha : ia < a.size := (Array.getElem?_eq_some_iff.mp e).1
  have d := drop_at e
  have hx : x ∈ a.toList.drop ia := by rw [d]; exact List.mem_cons_self
  refine ⟨ha, M.lb, ?_, ?_, ?_⟩
  · refine List.Perm.trans ?_ M.perm
    rw [Array.toList_push, d, List.append_assoc]
    exact List.Perm.refl _
  · rw [Array.toList_push]
    refine List.pairwise_append.mpr ⟨M.srt, List.pairwise_singleton _ _, fun y hy z hz => ?_⟩
    have : z = x := by simpa using hz
    subst this
    exact M.low y hy z (List.mem_append_left _ hx)
  · intro y hy z hz
    rw [Array.toList_push] at hy
    have hz' : z ∈ a.toList.drop ia ++ b.toList.drop ib := by
      rcases List.mem_append.mp hz with q | q
      · exact List.mem_append_left _ (by rw [d]; exact List.mem_cons_of_mem _ q)
      · exact List.mem_append_right _ q
    rcases List.mem_append.mp hy with q | q
    · exact M.low y q z hz'
    · have : y = x := by simpa using q
      subst this
      rcases List.mem_append.mp hz' with q | q
      · exact srt_head sa e z q
      · exact h z q
theorem MI.tAs (M : MI κ a b out ia ib) (sa : Srt κ a.toList) : ∀ k, ia + k ≤ a.size → (∀ i x, i < k → a[ia + i]? = some x → ∀ y ∈ b.toList.drop ib, le κ x y) → MI κ a b (out ++ a.extract ia (ia + k)) (ia + k) ib
  | 0, _, _ => by
    have : a.extract ia (ia + 0) = #[] := by simp; omega
    rw [this]; simpa using M
  | k + 1, hk, h => by
    have ih := MI.tAs M sa k (by omega) fun i x hi => h i x (by omega)
    have e : a[ia + k]? = some (a[ia + k]'(by omega)) := by simp
    rw [ext_more e, Array.append_push]
    exact ih.tA e sa (h k _ (by omega) e)
theorem MI.tBs (M : MI κ a b out ia ib) (sb : Srt κ b.toList) : ∀ k, ib + k ≤ b.size → (∀ i y, i < k → b[ib + i]? = some y → ∀ x ∈ a.toList.drop ia, le κ y x) → MI κ a b (out ++ b.extract ib (ib + k)) ia (ib + k)
  | 0, _, _ => by
    have : b.extract ib (ib + 0) = #[] := by simp; omega
    rw [this]; simpa using M
  | k + 1, hk, h => by
    have ih := MI.tBs M sb k (by omega) fun i x hi => h i x (by omega)
    have e : b[ib + k]? = some (b[ib + k]'(by omega)) := by simp
    rw [ext_more e, Array.append_push]
    exact ih.tB e sb (h k _ (by omega) e)
theorem ext_all (a : Array Keyed) (i : Nat) : (a.extract i a.size).toList = a.toList.drop i := by
  rw [Array.toList_extract, List.extract_eq_drop_take]
  exact List.take_of_length_le (by simp)
theorem MI.doneB (M : MI κ a b out ia ib) (sa : Srt κ a.toList) (h : ib = b.size) : Fn κ a b (out ++ a.extract ia a.size ++ b.extract ib b.size) := by
  have e : b.toList.drop ib = [] := List.drop_eq_nil_of_le (by simp [h])
  have p := M.perm
  have l := M.low
  rw [e, List.append_nil] at p l
  refine ⟨?_, ?_⟩
  · rw [Array.toList_append, Array.toList_append, ext_all, ext_all, e, List.append_nil]; exact p
  · rw [Array.toList_append, Array.toList_append, ext_all, ext_all, e, List.append_nil]
    exact List.pairwise_append.mpr ⟨M.srt, srt_drop sa ia, l⟩
theorem MI.doneA (M : MI κ a b out ia ib) (sb : Srt κ b.toList) (h : ia = a.size) : Fn κ a b (out ++ a.extract ia a.size ++ b.extract ib b.size) := by
  have e : a.toList.drop ia = [] := List.drop_eq_nil_of_le (by simp [h])
  have p := M.perm
  have l := M.low
  rw [e, List.nil_append] at p l
  refine ⟨?_, ?_⟩
  · rw [Array.toList_append, Array.toList_append, ext_all, ext_all, e, List.append_nil]; exact p
  · rw [Array.toList_append, Array.toList_append, ext_all, ext_all, e, List.append_nil]
    exact List.pairwise_append.mpr ⟨M.srt, srt_drop sb ib, l⟩
theorem MI.last (M : MI κ a b out ia ib) (sb : Srt κ b.toList) (h : ia + 1 = a.size) (hl : ∀ z, a[a.size - 1]? = some z → ∀ y ∈ b.toList, le κ y z) : Fn κ a b (out ++ b.extract ib b.size ++ a.extract ia a.size) := by
  have ei : a[ia]? = some (a[ia]'(by omega)) := by simp
  have e : a.toList.drop ia = [a[ia]'(by omega)] := by
    rw [drop_at ei, List.drop_eq_nil_of_le (by simp; omega)]
  have hz := hl (a[ia]'(by omega)) (by rw [show a.size - 1 = ia by omega]; exact ei)
  refine ⟨?_, ?_⟩
  · rw [Array.toList_append, Array.toList_append, ext_all, ext_all, List.append_assoc]
    exact (List.Perm.append_left _ List.perm_append_comm).trans M.perm
  · rw [Array.toList_append, Array.toList_append, ext_all, ext_all, List.append_assoc]
    refine List.pairwise_append.mpr ⟨M.srt, List.pairwise_append.mpr ⟨srt_drop sb ib, srt_drop_one e, fun y hy x hx => ?_⟩, fun x hx y hy => M.low x hx y (List.mem_append.mpr (List.mem_append.mp hy).symm)⟩
    rw [e] at hx
    have : x = a[ia]'(by omega) := by simpa using hx
    subst this
    exact hz y (List.mem_of_mem_drop hy)
where srt_drop_one {l : List Keyed} {x : Keyed} (e : l = [x]) : Srt κ l := by rw [e]; exact List.pairwise_singleton _ _
end
end
structure Like (st st' : SortSt) : Prop where
  kd : kindOf st' = kindOf st
  ar : arrOf st' = arrOf st
  pn : pendingOf st' = pendingOf st
  fl : failedOf st' = failedOf st
theorem Like.refl (st : SortSt) : Like st st := ⟨rfl, rfl, rfl, rfl⟩
theorem Like.trans {a b c : SortSt} (h : Like a b) (k : Like b c) : Like a c := ⟨k.kd.trans h.kd, k.ar.trans h.ar, k.pn.trans h.pn, k.fl.trans h.fl⟩
section
variable {prog : Program} {w : World} {A : Around} {E : Value → Shared → Prop} {s : Shared} {kd : SortKind} {κ : KeyKind} {a b : Array Keyed}
theorem has_at {a : Array Keyed} (ha : ∀ x ∈ a.toList, Has κ x) {i : Nat} (hi : i < a.size) : ∃ p, a[i]? = some p ∧ Has κ p :=
  ⟨a[i], by simp, ha _ (by simp)⟩
theorem w_galA {st : SortSt} {i : Nat} {y : Keyed} {hint : Nat} {Q : Option Nat → SortSt → Prop} (C : CmpOk prog w A s kd κ) (hk : kindOf st = kd) (ha : ∀ x ∈ a.toList, Has κ x) (sa : Srt κ a.toList) (hy : Has κ y) (n : Nat) (hn : i + n ≤ a.size) (hh : hint < n)
    (h : ∀ k, k ≤ n → (∀ j x, j < k → a[i + j]? = some x → le κ x y) → (∀ j x, k ≤ j → j < n → a[i + j]? = some x → κ.blt (kk κ y) (kk κ x) = true) → Q (some k) st) : wpS (model prog w) A E s (gal false y a i n hint) Q st := by
  refine w_gal (κ := κ) (fun j => !κ.blt (kk κ y) (KK κ a (i + j))) C hk hy (fun j hj => has_at ha (by omega)) (fun j hj => rfl) (fun u v huv hv e => ?_) hh fun k G => h k G.le (fun j x hj e => ?_) (fun j x h1 h2 e => ?_)
  · obtain ⟨p, ep, _⟩ := has_at ha (show i + u < a.size by omega)
    obtain ⟨q, eq, _⟩ := has_at ha (show i + v < a.size by omega)
    rw [KK_at eq] at e
    rw [KK_at ep]
    have e : κ.blt (kk κ y) (kk κ q) = false := by simpa using e
    have hpq : le κ p q := srt_head sa ep q (by
      have : a.toList[i + v]? = some q := by simpa using eq
      refine List.mem_of_getElem? (i := v - u) ?_
      rw [List.getElem?_drop, show i + u + (v - u) = i + v by omega]; exact this)
    have : κ.blt (kk κ y) (kk κ p) = false := hpq.trans (le_of_not e)
    simp [this]
  · have := G.lo j hj
    rw [KK_at e] at this
    exact le_of_not (by simpa using this)
  · have := G.hi j h1 h2
    rw [KK_at e] at this
    simpa using this
theorem w_galB {st : SortSt} {i : Nat} {x : Keyed} {hint : Nat} {Q : Option Nat → SortSt → Prop} (C : CmpOk prog w A s kd κ) (hk : kindOf st = kd) (hb : ∀ x ∈ b.toList, Has κ x) (sb : Srt κ b.toList) (hx : Has κ x) (n : Nat) (hn : i + n ≤ b.size) (hh : hint < n)
    (h : ∀ k, k ≤ n → (∀ j y, j < k → b[i + j]? = some y → κ.blt (kk κ y) (kk κ x) = true) → (∀ j y, k ≤ j → j < n → b[i + j]? = some y → le κ x y) → Q (some k) st) : wpS (model prog w) A E s (gal true x b i n hint) Q st := by
  refine w_gal (κ := κ) (fun j => κ.blt (KK κ b (i + j)) (kk κ x)) C hk hx (fun j hj => has_at hb (by omega)) (fun j hj => rfl) (fun u v huv hv e => ?_) hh fun k G => h k G.le (fun j y hj e => ?_) (fun j y h1 h2 e => ?_)
  · obtain ⟨p, ep, _⟩ := has_at hb (show i + u < b.size by omega)
    obtain ⟨q, eq, _⟩ := has_at hb (show i + v < b.size by omega)
    rw [KK_at eq] at e
    rw [KK_at ep]
    have hpq : le κ p q := srt_head sb ep q (by
      have : b.toList[i + v]? = some q := by simpa using eq
      refine List.mem_of_getElem? (i := v - u) ?_
      rw [List.getElem?_drop, show i + u + (v - u) = i + v by omega]; exact this)
    exact KeyOrd.klt_of_kle_of_klt hpq e
  · have := G.lo j hj
    rw [KK_at e] at this; exact this
  · have := G.hi j h1 h2
    rw [KK_at e] at this
    exact le_of_not this
abbrev Cell := Option (Array Keyed) × Array Keyed × Nat × Nat × Nat × Nat × Nat
def tA (a b o : Array Keyed) (i j g p q : Nat) : StateT SortSt Sem (ForInStep Cell) := do
  let x ← elem' a i
  if (i + 1 + 1 == a.size) = true then pure (.done (some (o.push x ++ b.extract j b.size ++ a.extract (i + 1) a.size), o.push x, i + 1, j, g, p, q))
  else if (decide (p < 7) && decide (q < 7)) = true then pure (.done (none, o.push x, i + 1, j, g, p, q))
  else pure (.yield (none, o.push x, i + 1, j, g, p, q))
def tB (a b o : Array Keyed) (i j g p q : Nat) : StateT SortSt Sem (ForInStep Cell) := do
  let y ← elem' b j
  if (j + 1 == b.size) = true then pure (.done (some (o.push y ++ a.extract i a.size ++ b.extract (j + 1) b.size), o.push y, i, j + 1, g, p, q))
  else do
    let x ← elem' a i
    let r ← gal true x b (j + 1) (b.size - (j + 1)) 0
    match r with
    | some k =>
      if k > 0 then
        if (j + 1 + k == b.size) = true then pure (.done (some (o.push y ++ b.extract (j + 1) (j + 1 + k) ++ a.extract i a.size ++ b.extract (j + 1 + k) b.size), o.push y ++ b.extract (j + 1) (j + 1 + k), i, j + 1 + k, g, p, k))
        else tA a b (o.push y ++ b.extract (j + 1) (j + 1 + k)) i (j + 1 + k) g p k
      else tA a b (o.push y) i (j + 1) g p k
    | _ => pure (.done (some (o.push y ++ a.extract i a.size ++ b.extract (j + 1) b.size), o.push y, i, j + 1, g, p, q))
def tT (a b o : Array Keyed) (i j g p q : Nat) : StateT SortSt Sem (ForInStep Cell) := do
  let y ← elem' b j
  let r ← gal false y a i (a.size - i) 0
  match r with
  | some k =>
    if k > 0 then
      if (i + k + 1 == a.size) = true then pure (.done (some (o ++ a.extract i (i + k) ++ b.extract j b.size ++ a.extract (i + k) a.size), o ++ a.extract i (i + k), i + k, j, g, k, q))
      else if (i + k == a.size) = true then pure (.done (some (o ++ a.extract i (i + k) ++ a.extract (i + k) a.size ++ b.extract j b.size), o ++ a.extract i (i + k), i + k, j, g, k, q))
      else tB a b (o ++ a.extract i (i + k)) (i + k) j g k q
    else tB a b o i j g k q
  | _ => pure (.done (some (o ++ a.extract i a.size ++ b.extract j b.size), o, i, j, g, p, q))
def TO (κ : KeyKind) (a b : Array Keyed) (m : Nat) (st3 : SortSt) (R : ForInStep Cell → SortSt → Prop) : Prop :=
  (∀ r o i j g p q, Fn κ a b r → R (.done (some r, o, i, j, g, p, q)) st3) ∧ (∀ o i j g p q, MI κ a b o i j → i + 1 < a.size → j < b.size → m ≤ i + j → R (.done (none, o, i, j, g, p, q)) st3 ∧ R (.yield (none, o, i, j, g, p, q)) st3)
theorem w_tA {st3 : SortSt} {o : Array Keyed} {i j g p q m : Nat} {R : ForInStep Cell → SortSt → Prop} (ha : ∀ x ∈ a.toList, Has κ x) (sa : Srt κ a.toList) (sb : Srt κ b.toList) (hl : ∀ z, a[a.size - 1]? = some z → ∀ y ∈ b.toList, le κ y z)
    (M : MI κ a b o i j) (hi : i + 1 < a.size) (hj : j < b.size) (hm : m ≤ i + j) (hx : ∀ x, a[i]? = some x → ∀ y ∈ b.toList.drop j, le κ x y) (hR : TO κ a b m st3 R) : wpS (model prog w) A E s (tA a b o i j g p q) R st3 := by
  obtain ⟨x, ex, _⟩ := has_at ha (show i < a.size by omega)
  have M2 := M.tA ex sa (hx x ex)
  refine wpS_bind (w_elem ex ?_)
  by_cases d1 : (i + 1 + 1 == a.size) = true
  · rw [if_pos d1]
    exact wpS_pure (hR.1 _ _ _ _ _ _ _ (M2.last sb (by simpa using d1) hl))
  · have d1' : i + 1 + 1 < a.size := by
      have : ¬ i + 1 + 1 = a.size := by simpa using d1
      omega
    rw [if_neg d1]
    have q := hR.2 _ _ _ g p q M2 d1' hj (by omega)
    split
    · exact wpS_pure q.1
    · exact wpS_pure q.2
theorem w_tB {st3 : SortSt} {o : Array Keyed} {i j g p q m : Nat} {R : ForInStep Cell → SortSt → Prop} (C : CmpOk prog w A s kd κ) (hk : kindOf st3 = kd) (ha : ∀ x ∈ a.toList, Has κ x) (hb : ∀ x ∈ b.toList, Has κ x) (sa : Srt κ a.toList) (sb : Srt κ b.toList)
    (hl : ∀ z, a[a.size - 1]? = some z → ∀ y ∈ b.toList, le κ y z) (M : MI κ a b o i j) (hi : i + 1 < a.size) (hj : j < b.size) (hm : m ≤ i + j) (hy : ∀ x y, a[i]? = some x → b[j]? = some y → le κ y x) (hR : TO κ a b m st3 R) :
    wpS (model prog w) A E s (tB a b o i j g p q) R st3 := by
  obtain ⟨y, ey, hyy⟩ := has_at hb hj
  obtain ⟨x, ex, hxx⟩ := has_at ha (show i < a.size by omega)
  have M2 := M.tB ey sb fun z hz => (hy x y ex ey).trans (srt_head sa ex z hz)
  refine wpS_bind (w_elem ey ?_)
  by_cases d1 : (j + 1 == b.size) = true
  · rw [if_pos d1]
    exact wpS_pure (hR.1 _ _ _ _ _ _ _ (M2.doneB sa (by simpa using d1)))
  · have d1' : j + 1 < b.size := by
      have : ¬ j + 1 = b.size := by simpa using d1
      omega
    rw [if_neg d1]
    refine wpS_bind (w_elem ex (wpS_bind (w_galB C hk hb sb hxx (b.size - (j + 1)) (by omega) (by omega) fun k k1 k2 k3 => ?_)))
    have M3 := M2.tBs sb k (by omega) fun t z ht ez u hu => (le_of_lt (k2 t z ht ez)).trans (srt_head sa ex u hu)
    show wpS _ _ _ _ (if k > 0 then _ else _) _ _
    by_cases hk0 : k > 0
    · rw [if_pos hk0]
      by_cases d2 : (j + 1 + k == b.size) = true
      · rw [if_pos d2]
        exact wpS_pure (hR.1 _ _ _ _ _ _ _ (M3.doneB sa (by simpa using d2)))
      · rw [if_neg d2]
        have d2' : j + 1 + k < b.size := by
          have : ¬ j + 1 + k = b.size := by simpa using d2
          omega
        refine w_tA ha sa sb hl M3 hi d2' (by omega) (fun x' ex' u hu => ?_) hR
        rw [ex] at ex'
        cases ex'
        obtain ⟨v, ev, _⟩ := has_at hb d2'
        exact (k3 k v (Nat.le_refl _) (by omega) ev).trans (srt_head sb ev u hu)
    · rw [if_neg hk0]
      refine w_tA ha sa sb hl M2 hi d1' (by omega) (fun x' ex' u hu => ?_) hR
      rw [ex] at ex'
      cases ex'
      obtain ⟨v, ev, _⟩ := has_at hb d1'
      exact (k3 0 v (by omega) (by omega) ev).trans (srt_head sb ev u hu)
theorem w_tT {st3 : SortSt} {o : Array Keyed} {i j g p q m : Nat} {R : ForInStep Cell → SortSt → Prop} (C : CmpOk prog w A s kd κ) (hk : kindOf st3 = kd) (ha : ∀ x ∈ a.toList, Has κ x) (hb : ∀ x ∈ b.toList, Has κ x) (sa : Srt κ a.toList) (sb : Srt κ b.toList)
    (hl : ∀ z, a[a.size - 1]? = some z → ∀ y ∈ b.toList, le κ y z) (M : MI κ a b o i j) (hi : i + 1 < a.size) (hj : j < b.size) (hm : m ≤ i + j) (hR : TO κ a b m st3 R) : wpS (model prog w) A E s (tT a b o i j g p q) R st3 := by
  obtain ⟨y, ey, hyy⟩ := has_at hb hj
  refine wpS_bind (w_elem ey (wpS_bind (w_galA C hk ha sa hyy (a.size - i) (by omega) (by omega) fun k k1 k2 k3 => ?_)))
  have M3 := M.tAs sa k (by omega) fun t z ht ez u hu => (k2 t z ht ez).trans (srt_head sb ey u hu)
  show wpS _ _ _ _ (if k > 0 then _ else _) _ _
  by_cases hk0 : k > 0
  · rw [if_pos hk0]
    by_cases d1 : (i + k + 1 == a.size) = true
    · rw [if_pos d1]
      exact wpS_pure (hR.1 _ _ _ _ _ _ _ (M3.last sb (by simpa using d1) hl))
    · rw [if_neg d1]
      by_cases d2 : (i + k == a.size) = true
      · rw [if_pos d2]
        exact wpS_pure (hR.1 _ _ _ _ _ _ _ (M3.doneA sb (by simpa using d2)))
      · rw [if_neg d2]
        have d1' : ¬ i + k + 1 = a.size := by simpa using d1
        have d2' : ¬ i + k = a.size := by simpa using d2
        refine w_tB C hk ha hb sa sb hl M3 (by omega) hj (by omega) (fun x y' ex ey' => ?_) hR
        rw [ey] at ey'
        cases ey'
        exact le_of_lt (k3 k x (Nat.le_refl _) (by omega) ex)
  · rw [if_neg hk0]
    refine w_tB C hk ha hb sa sb hl M hi hj hm (fun x y' ex ey' => ?_) hR
    rw [ey] at ey'
    cases ey'
    exact le_of_lt (k3 0 x (by omega) (by omega) (by simpa using ex))
theorem w_mLo {st : SortSt} {Q : Array Keyed → SortSt → Prop} (C : CmpOk prog w A s kd κ) (hk : kindOf st = kd) (ha : ∀ x ∈ a.toList, Has κ x) (hb : ∀ x ∈ b.toList, Has κ x) (sa : Srt κ a.toList) (sb : Srt κ b.toList) (na : 1 ≤ a.size) (nb : 1 ≤ b.size)
    (h0 : ∀ x y, a[0]? = some x → b[0]? = some y → le κ y x) (hl : ∀ z, a[a.size - 1]? = some z → ∀ y ∈ b.toList, le κ y z)
    (h : ∀ r st', Like st st' → Fn κ a b r → Q r st') : wpS (model prog w) A E s (mLo a b) Q st := by
  refine wpS_bind (wpS_lift (wpAny_rule ⟨rfl, ?_⟩))
  obtain ⟨y0, ey, hy⟩ := has_at hb (show 0 < b.size by omega)
  obtain ⟨x0, ex, hx⟩ := has_at ha (show 0 < a.size by omega)
  refine wpS_bind (w_elem ey ?_)
  have M0 : MI κ a b #[] 0 0 := ⟨by omega, by omega, by simp, by simp, by simp⟩
  have M1 : MI κ a b #[y0] 0 1 := by
    have := M0.tB ey sb fun x hx => (h0 x0 y0 ex ey).trans (srt_head sa ex x hx)
    simpa using this
  show wpS _ _ _ _ (if (1 == b.size) = true then _ else _) _ _
  by_cases c1 : (1 == b.size) = true
  · rw [if_pos c1]
    exact wpS_pure (h _ _ (Like.refl _) (M1.doneB sa (by simpa using c1)))
  rw [if_neg c1]
  show wpS _ _ _ _ (if (0 + 1 == a.size) = true then _ else _) _ _
  by_cases c2 : (0 + 1 == a.size) = true
  · rw [if_pos c2]
    exact wpS_pure (h _ _ (Like.refl _) (M1.last sb (by simpa using c2) hl))
  rw [if_neg c2]
  have c1' : 1 < b.size := by
    have : ¬ 1 = b.size := by simpa using c1
    omega
  have c2' : 0 + 1 < a.size := by
    have : ¬ 0 + 1 = a.size := by simpa using c2
    omega
  refine wpS_bind (wpS_get ?_)
  refine wpS_bind (wpS_mono (wpS_forRange (I := fun x c st' => Like st st' ∧ ∃ out ia ib g, c = (none, out, ia, ib, g) ∧ MI κ a b out ia ib ∧ ia + 1 < a.size ∧ ib < b.size ∧ x + 1 ≤ ia + ib)
    (Q := fun c st' => Like st st' ∧ ∃ r out ia ib g, c = (some r, out, ia, ib, g) ∧ Fn κ a b r) ?step ?fin ⟨Like.refl _, _, _, _, _, rfl, M1, c2', c1', by omega⟩) ?post)
  case fin =>
    rintro c st' ⟨_, out, ia, ib, g, rfl, M, h1, h2, h3⟩
    omega
  case post =>
    rintro c st' ⟨L, r, out, ia, ib, g, rfl, F⟩
    exact wpS_pure (h r st' L F)
  case step =>
    rintro x c st1 _ hx1 ⟨L1, out0, ia0, ib0, g0, rfl, M, u1, u2, u3⟩
    have hk1 : kindOf st1 = kd := L1.kd.trans hk
    dsimp only
    refine wpS_bind (wpS_mono (wpS_forRange (I := fun x c st' => st' = st1 ∧ ∃ out ia ib p q, c = (none, out, ia, ib, p, q) ∧ MI κ a b out ia ib ∧ ia + 1 < a.size ∧ ib < b.size ∧ ia0 + ib0 + x ≤ ia + ib)
      (Q := fun c st' => st' = st1 ∧ ((∃ r out ia ib p q, c = (some r, out, ia, ib, p, q) ∧ Fn κ a b r) ∨ ∃ out ia ib p q, c = (none, out, ia, ib, p, q) ∧ MI κ a b out ia ib ∧ ia + 1 < a.size ∧ ib < b.size ∧ ia0 + ib0 + 1 ≤ ia + ib)) ?step1 ?fin1
      ⟨rfl, _, _, _, _, _, rfl, M, u1, u2, by omega⟩) ?post1)
    case fin1 =>
      rintro c st' ⟨rfl, out, ia, ib, p, q, rfl, M', v1, v2, v3⟩
      exact ⟨rfl, .inr ⟨out, ia, ib, p, q, rfl, M', v1, v2, by omega⟩⟩
    case step1 =>
      rintro x2 c st' _ hx2 ⟨rfl, out, ia, ib, p, q, rfl, M', v1, v2, v3⟩
      obtain ⟨yb, eb, hyb⟩ := has_at hb v2
      obtain ⟨xa, ea, hxa⟩ := has_at ha (show ia < a.size by omega)
      dsimp only
      refine wpS_bind (w_elem eb (wpS_bind (w_elem ea (wpS_bind (w_lt C hk1 hyb hxa ?_)))))
      cases e : κ.blt (kk κ yb) (kk κ xa) with
      | true =>
        show wpS _ _ _ _ (if true = true then _ else _) _ _
        rw [if_pos rfl]
        refine wpS_bind (w_elem eb ?_)
        have M2 := M'.tB eb sb fun x hx => (le_of_lt e).trans (srt_head sa ea x hx)
        by_cases d1 : (ib + 1 == b.size) = true
        · rw [if_pos d1]
          exact wpS_pure ⟨rfl, .inl ⟨_, _, _, _, _, _, rfl, M2.doneB sa (by simpa using d1)⟩⟩
        · have d1' : ib + 1 < b.size := by
            have : ¬ ib + 1 = b.size := by simpa using d1
            omega
          rw [if_neg d1]
          by_cases d2 : q + 1 ≥ g0
          · rw [if_pos d2]
            exact wpS_pure ⟨rfl, .inr ⟨_, _, _, _, _, rfl, M2, v1, d1', by omega⟩⟩
          · rw [if_neg d2]
            exact wpS_pure ⟨rfl, _, _, _, _, _, rfl, M2, v1, d1', by omega⟩
      | false =>
        show wpS _ _ _ _ (if false = true then _ else _) _ _
        rw [if_neg (by decide)]
        refine wpS_bind (w_elem ea ?_)
        have M2 := M'.tA ea sa fun y hy => (le_of_not e).trans (srt_head sb eb y hy)
        by_cases d1 : (ia + 1 + 1 == a.size) = true
        · rw [if_pos d1]
          exact wpS_pure ⟨rfl, .inl ⟨_, _, _, _, _, _, rfl, M2.last sb (by simpa using d1) hl⟩⟩
        · have d1' : ia + 1 + 1 < a.size := by
            have : ¬ ia + 1 + 1 = a.size := by simpa using d1
            omega
          rw [if_neg d1]
          by_cases d2 : p + 1 ≥ g0
          · rw [if_pos d2]
            exact wpS_pure ⟨rfl, .inr ⟨_, _, _, _, _, rfl, M2, d1', v2, by omega⟩⟩
          · rw [if_neg d2]
            exact wpS_pure ⟨rfl, _, _, _, _, _, rfl, M2, d1', v2, by omega⟩
    case post1 =>
      rintro c st' ⟨rfl, ⟨r, out, ia, ib, p, q, rfl, F⟩ | ⟨out, ia, ib, p, q, rfl, M', v1, v2, v3⟩⟩
      · exact wpS_pure ⟨L1, _, _, _, _, _, rfl, F⟩
      · dsimp only
        refine wpS_bind (wpS_lift (wpAny_rule ⟨rfl, ?_⟩))
        refine wpS_bind (wpS_mono (wpS_forRange (I := fun x c st' => Like st st' ∧ ∃ out ia ib g p q, c = (none, out, ia, ib, g, p, q) ∧ MI κ a b out ia ib ∧ ia + 1 < a.size ∧ ib < b.size ∧ ia0 + ib0 + 1 ≤ ia + ib)
          (Q := fun c st' => Like st st' ∧ ((∃ r out ia ib g p q, c = (some r, out, ia, ib, g, p, q) ∧ Fn κ a b r) ∨ ∃ out ia ib g p q, c = (none, out, ia, ib, g, p, q) ∧ MI κ a b out ia ib ∧ ia + 1 < a.size ∧ ib < b.size ∧ ia0 + ib0 + 1 ≤ ia + ib)) ?step2 ?fin2
          ⟨L1, _, _, _, _, _, _, rfl, M', v1, v2, v3⟩) ?post2)
        case fin2 =>
          rintro c st' ⟨L, out, ia, ib, g, p, q, rfl, M', v⟩
          exact ⟨L, .inr ⟨_, _, _, _, _, _, rfl, M', v⟩⟩
        case post2 =>
          rintro c st' ⟨L, ⟨r, out, ia, ib, g, p, q, rfl, F⟩ | ⟨out, ia, ib, g, p, q, rfl, M', v1, v2, v3⟩⟩
          · exact wpS_pure ⟨L, _, _, _, _, _, rfl, F⟩
          · dsimp only
            refine wpS_bind (wpS_modify (wpS_pure ⟨L.trans ⟨rfl, rfl, rfl, rfl⟩, _, _, _, _, rfl, M', v1, v2, by omega⟩))
        case step2 =>
          rintro x3 c st2 _ hx3 ⟨L2, out, ia, ib, g, p, q, rfl, M2, w1, w2, w3⟩
          dsimp only
          have run : ∀ g' : Nat, wpS (model prog w) A E s (tT a b out ia ib g' p q) (fun r st' => match r with
              | .done c' => Like st st' ∧ ((∃ r out ia ib g p q, c' = (some r, out, ia, ib, g, p, q) ∧ Fn κ a b r) ∨ ∃ out ia ib g p q, c' = (none, out, ia, ib, g, p, q) ∧ MI κ a b out ia ib ∧ ia + 1 < a.size ∧ ib < b.size ∧ ia0 + ib0 + 1 ≤ ia + ib)
              | .yield c' => Like st st' ∧ ∃ out ia ib g p q, c' = (none, out, ia, ib, g, p, q) ∧ MI κ a b out ia ib ∧ ia + 1 < a.size ∧ ib < b.size ∧ ia0 + ib0 + 1 ≤ ia + ib) (SortSt.mk' (kindOf st2) (arrOf st2) (pendingOf st2) g' (failedOf st2)) := fun g' => by
            have L3 : Like st (SortSt.mk' (kindOf st2) (arrOf st2) (pendingOf st2) g' (failedOf st2)) := L2.trans ⟨rfl, rfl, rfl, rfl⟩
            refine w_tT C (L3.kd.trans hk) ha hb sa sb hl M2 w1 w2 w3 ⟨fun r o i j g p q F => ⟨L3, .inl ⟨_, _, _, _, _, _, _, rfl, F⟩⟩, fun o i j g p q M' h1 h2 h3 => ⟨⟨L3, .inr ⟨_, _, _, _, _, _, rfl, M', h1, h2, h3⟩⟩, ⟨L3, _, _, _, _, _, _, rfl, M', h1, h2, h3⟩⟩⟩
          by_cases d0 : g > 1
          · rw [if_pos d0]
            refine wpS_bind (wpS_modify ?_)
            refine wpS_mono (m := tT a b out ia ib (g - 1) p q) (run (g - 1)) fun r st' hr => ?_
            cases r <;> exact hr
          · rw [if_neg d0]
            refine wpS_bind (wpS_modify ?_)
            refine wpS_mono (m := tT a b out ia ib (g) p q) (run (g)) fun r st' hr => ?_
            cases r <;> exact hr
end
end Tim
set_option Elab.async false
set_option linter.all false
set_option maxRecDepth 100000
set_option maxHeartbeats 4000000
namespace Tim
open PySem PyProof.Rows
section
variable {κ : KeyKind}
theorem take_at {a : Array Keyed} {n : Nat} {x : Keyed} (e : a[n]? = some x) : a.toList.take (n + 1) = a.toList.take n ++ [x] := by
  have e' : a.toList[n]? = some x := by simpa using e
  rw [List.take_succ, e']; rfl
theorem srt_take {a : Array Keyed} (h : Srt κ a.toList) (i : Nat) : Srt κ (a.toList.take i) := h.sublist (List.take_sublist i _)
theorem srt_last {a : Array Keyed} {n : Nat} {x : Keyed} (h : Srt κ a.toList) (e : a[n]? = some x) : ∀ y ∈ a.toList.take (n + 1), le κ y x := fun y hy => by
  have s := srt_take h (n + 1)
  rw [take_at e] at s hy
  rcases List.mem_append.mp hy with z | z
  · exact (List.pairwise_append.mp s).2.2 y z x (by simp)
  · have : y = x := by simpa using z
    rw [this]; exact le.refl _
structure MH (κ : KeyKind) (a b out : Array Keyed) (na nb : Nat) : Prop where
  la : na ≤ a.size
  lb : nb ≤ b.size
  perm : ((a.toList.take na ++ b.toList.take nb) ++ out.toList.reverse).Perm (a.toList ++ b.toList)
  srt : Srt κ out.toList.reverse
  low : ∀ x ∈ a.toList.take na ++ b.toList.take nb, ∀ y ∈ out.toList.reverse, le κ x y
section
variable {a b out : Array Keyed} {na nb : Nat}
theorem MH.tA (M : MH κ a b out (na + 1) nb) {x : Keyed} (e : a[na]? = some x) (sa : Srt κ a.toList) (h : ∀ y ∈ b.toList.take nb, le κ y x) : MH κ a b (out.push x) na nb := by
  have d := take_at e
  have hx : x ∈ a.toList.take (na + 1) := by rw [d]; simp
  have er : (out.push x).toList.reverse = x :: out.toList.reverse := by simp
  refine ⟨Nat.le_of_succ_le M.la, M.lb, ?_, ?_, ?_⟩
  · refine List.Perm.trans ?_ M.perm
    rw [er, d, List.append_assoc, List.append_assoc, List.append_assoc]
    refine List.Perm.append_left _ ?_
    show (b.toList.take nb ++ x :: out.toList.reverse).Perm (x :: (b.toList.take nb ++ out.toList.reverse))
    exact List.perm_middle
  · rw [er]
    exact List.pairwise_cons.mpr ⟨fun y hy => M.low x (List.mem_append_left _ hx) y hy, M.srt⟩
  · intro z hz y hy
    rw [er] at hy
    have hz' : z ∈ a.toList.take (na + 1) ++ b.toList.take nb := by
      rcases List.mem_append.mp hz with q | q
      · exact List.mem_append_left _ (by rw [d]; exact List.mem_append_left _ q)
      · exact List.mem_append_right _ q
    rcases List.mem_cons.mp hy with q | q
    · rw [q]
      rcases List.mem_append.mp hz' with q | q
      · exact srt_last sa e z q
      · exact h z q
    · exact M.low z hz' y q
theorem MH.tB (M : MH κ a b out na (nb + 1)) {x : Keyed} (e : b[nb]? = some x) (sb : Srt κ b.toList) (h : ∀ y ∈ a.toList.take na, le κ y x) : MH κ a b (out.push x) na nb := by
  have d := take_at e
  have hx : x ∈ b.toList.take (nb + 1) := by rw [d]; simp
  have er : (out.push x).toList.reverse = x :: out.toList.reverse := by simp
  refine ⟨M.la, Nat.le_of_succ_le M.lb, ?_, ?_, ?_⟩
  · refine List.Perm.trans ?_ M.perm
    rw [er, d, List.append_assoc, List.append_assoc, List.append_assoc]
    exact List.Perm.refl _
  · rw [er]
    exact List.pairwise_cons.mpr ⟨fun y hy => M.low x (List.mem_append_right _ hx) y hy, M.srt⟩
  · intro z hz y hy
    rw [er] at hy
    have hz' : z ∈ a.toList.take na ++ b.toList.take (nb + 1) := by
      rcases List.mem_append.mp hz with q | q
      · exact List.mem_append_left _ q
      · exact List.mem_append_right _ (by rw [d]; exact List.mem_append_left _ q)
    rcases List.mem_cons.mp hy with q | q
    · rw [q]
      rcases List.mem_append.mp hz' with q | q
      · exact h z q
      · exact srt_last sb e z q
    · exact M.low z hz' y q
theorem ext_rev {a : Array Keyed} {k n : Nat} {x : Keyed} (e : a[n]? = some x) (hk : k ≤ n) (o : Array Keyed) : o ++ (a.extract k (n + 1)).reverse = o.push x ++ (a.extract k n).reverse := by
  obtain ⟨d, rfl⟩ : ∃ d, n = k + d := ⟨n - k, by omega⟩
  rw [show k + d + 1 = k + (d + 1) by omega, ext_more e]
  apply Array.toList_inj.mp
  simp
theorem MH.tAs (sa : Srt κ a.toList) (k : Nat) : ∀ (n : Nat) (out : Array Keyed), k ≤ n → MH κ a b out n nb → (∀ j x, k ≤ j → j < n → a[j]? = some x → ∀ y ∈ b.toList.take nb, le κ y x) → MH κ a b (out ++ (a.extract k n).reverse) k nb
  | 0, out, hk, M, _ => by
    have : k = 0 := by omega
    subst this
    have e : a.extract 0 0 = #[] := by simp
    rw [e]; simpa using M
  | n + 1, out, hk, M, h => by
    by_cases hkn : k = n + 1
    · subst hkn
      have e : a.extract (n + 1) (n + 1) = #[] := by simp; omega
      rw [e]; simpa using M
    · have e : a[n]? = some (a[n]'(by have := M.la; omega)) := by simp
      rw [ext_rev e (by omega)]
      exact MH.tAs sa k n _ (by omega) (M.tA e sa (h n _ (by omega) (by omega) e)) fun j x h1 h2 => h j x h1 (by omega)
theorem MH.tBs (sb : Srt κ b.toList) (k : Nat) : ∀ (n : Nat) (out : Array Keyed), k ≤ n → MH κ a b out na n → (∀ j x, k ≤ j → j < n → b[j]? = some x → ∀ y ∈ a.toList.take na, le κ y x) → MH κ a b (out ++ (b.extract k n).reverse) na k
  | 0, out, hk, M, _ => by
    have : k = 0 := by omega
    subst this
    have e : b.extract 0 0 = #[] := by simp
    rw [e]; simpa using M
  | n + 1, out, hk, M, h => by
    by_cases hkn : k = n + 1
    · subst hkn
      have e : b.extract (n + 1) (n + 1) = #[] := by simp; omega
      rw [e]; simpa using M
    · have e : b[n]? = some (b[n]'(by have := M.lb; omega)) := by simp
      rw [ext_rev e (by omega)]
      exact MH.tBs sb k n _ (by omega) (M.tB e sb (h n _ (by omega) (by omega) e)) fun j x h1 h2 => h j x h1 (by omega)
theorem ext_take (a : Array Keyed) (n : Nat) : (a.extract 0 n).toList = a.toList.take n := by
  rw [Array.toList_extract, List.extract_eq_drop_take]; simp
theorem MH.doneA (M : MH κ a b out na nb) (sb : Srt κ b.toList) (h : na = 0) : Fn κ a b (a.extract 0 na ++ b.extract 0 nb ++ out.reverse) := by
  subst h
  have p := M.perm
  have l := M.low
  rw [List.take_zero, List.nil_append] at p l
  refine ⟨?_, ?_⟩
  · rw [Array.toList_append, Array.toList_append, ext_take, ext_take, List.take_zero, List.nil_append, Array.toList_reverse]; exact p
  · rw [Array.toList_append, Array.toList_append, ext_take, ext_take, List.take_zero, List.nil_append, Array.toList_reverse]
    exact List.pairwise_append.mpr ⟨srt_take sb nb, M.srt, l⟩
theorem MH.doneB (M : MH κ a b out na nb) (sa : Srt κ a.toList) (h : nb = 0) : Fn κ a b (a.extract 0 na ++ b.extract 0 nb ++ out.reverse) := by
  subst h
  have p := M.perm
  have l := M.low
  rw [List.take_zero, List.append_nil] at p l
  refine ⟨?_, ?_⟩
  · rw [Array.toList_append, Array.toList_append, ext_take, ext_take, List.take_zero, List.append_nil, Array.toList_reverse]; exact p
  · rw [Array.toList_append, Array.toList_append, ext_take, ext_take, List.take_zero, List.append_nil, Array.toList_reverse]
    exact List.pairwise_append.mpr ⟨srt_take sa na, M.srt, l⟩
theorem MH.first (M : MH κ a b out na nb) (sa : Srt κ a.toList) (h : nb = 1) (hf : ∀ z, b[0]? = some z → ∀ x ∈ a.toList, le κ z x) : Fn κ a b (b.extract 0 nb ++ a.extract 0 na ++ out.reverse) := by
  subst h
  have hb := M.lb
  have ei : b[0]? = some (b[0]'(by omega)) := by simp
  have e : b.toList.take 1 = [b[0]'(by omega)] := by
    have := take_at ei
    simpa using this
  refine ⟨?_, ?_⟩
  · rw [Array.toList_append, Array.toList_append, ext_take, ext_take, Array.toList_reverse]
    exact (List.Perm.append_right _ List.perm_append_comm).trans M.perm
  · rw [Array.toList_append, Array.toList_append, ext_take, ext_take, Array.toList_reverse]
    refine List.pairwise_append.mpr ⟨List.pairwise_append.mpr ⟨by rw [e]; exact List.pairwise_singleton _ _, srt_take sa na, fun y hy x hx => ?_⟩, M.srt, fun x hx y hy => M.low x (List.mem_append.mpr (List.mem_append.mp hx).symm) y hy⟩
    rw [e] at hy
    have : y = b[0]'(by omega) := by simpa using hy
    subst this
    exact hf _ ei x (List.mem_of_mem_take hx)
end
end
section
variable {prog : Program} {w : World} {A : Around} {E : Value → Shared → Prop} {s : Shared} {kd : SortKind} {κ : KeyKind} {a b : Array Keyed}
abbrev CellH := Option (Array Keyed) × Nat × Nat × Array Keyed × Nat × Nat × Nat
def uA (a b o : Array Keyed) (i j g p q : Nat) : StateT SortSt Sem (ForInStep CellH) := do
  let x ← elem' a (i - 1)
  if (i - 1 == 0) = true then pure (.done (some (a.extract 0 (i - 1) ++ b.extract 0 j ++ (o.push x).reverse), i - 1, j, o.push x, g, p, q))
  else if (decide (p < 7) && decide (q < 7)) = true then pure (.done (none, i - 1, j, o.push x, g, p, q))
  else pure (.yield (none, i - 1, j, o.push x, g, p, q))
def uB (a b o : Array Keyed) (i j g p q : Nat) : StateT SortSt Sem (ForInStep CellH) := do
  let y ← elem' b (j - 1)
  if (j - 1 == 1) = true then pure (.done (some (b.extract 0 (j - 1) ++ a.extract 0 i ++ (o.push y).reverse), i, j - 1, o.push y, g, p, q))
  else do
    let x ← elem' a (i - 1)
    let r ← gal true x b 0 (j - 1) (j - 1 - 1)
    match r with
    | some k =>
      if j - 1 - k > 0 then
        if (k == 1) = true then pure (.done (some (b.extract 0 k ++ a.extract 0 i ++ (o.push y ++ (b.extract k (j - 1)).reverse).reverse), i, k, o.push y ++ (b.extract k (j - 1)).reverse, g, p, j - 1 - k))
        else if (k == 0) = true then pure (.done (some (a.extract 0 i ++ b.extract 0 k ++ (o.push y ++ (b.extract k (j - 1)).reverse).reverse), i, k, o.push y ++ (b.extract k (j - 1)).reverse, g, p, j - 1 - k))
        else uA a b (o.push y ++ (b.extract k (j - 1)).reverse) i k g p (j - 1 - k)
      else uA a b (o.push y) i (j - 1) g p (j - 1 - k)
    | _ => pure (.done (some (a.extract 0 i ++ b.extract 0 (j - 1) ++ (o.push y).reverse), i, j - 1, o.push y, g, p, q))
def uT (a b o : Array Keyed) (i j g p q : Nat) : StateT SortSt Sem (ForInStep CellH) := do
  let y ← elem' b (j - 1)
  let r ← gal false y a 0 i (i - 1)
  match r with
  | some k =>
    if i - k > 0 then
      if (k == 0) = true then pure (.done (some (a.extract 0 k ++ b.extract 0 j ++ (o ++ (a.extract k i).reverse).reverse), k, j, o ++ (a.extract k i).reverse, g, i - k, q))
      else uB a b (o ++ (a.extract k i).reverse) k j g (i - k) q
    else uB a b o i j g (i - k) q
  | _ => pure (.done (some (a.extract 0 i ++ b.extract 0 j ++ o.reverse), i, j, o, g, p, q))
def TH (κ : KeyKind) (a b : Array Keyed) (m : Nat) (st3 : SortSt) (R : ForInStep CellH → SortSt → Prop) : Prop :=
  (∀ r o i j g p q, Fn κ a b r → R (.done (some r, i, j, o, g, p, q)) st3) ∧ (∀ o i j g p q, MH κ a b o i j → 1 ≤ i → 1 < j → i + j ≤ m → R (.done (none, i, j, o, g, p, q)) st3 ∧ R (.yield (none, i, j, o, g, p, q)) st3)
theorem mem_take {a : Array Keyed} {n : Nat} {y : Keyed} (h : y ∈ a.toList.take n) : ∃ j, j < n ∧ a[j]? = some y := by
  obtain ⟨j, hj, rfl⟩ := List.mem_iff_getElem.mp h
  rw [List.length_take] at hj
  refine ⟨j, by omega, ?_⟩
  have : j < a.size := by simp at hj; omega
  simp [this]
theorem w_uA {st3 : SortSt} {o : Array Keyed} {i j g p q m : Nat} {R : ForInStep CellH → SortSt → Prop} (ha : ∀ x ∈ a.toList, Has κ x) (sa : Srt κ a.toList) (sb : Srt κ b.toList)
    (M : MH κ a b o i j) (hi : 1 ≤ i) (hj : 1 < j) (hm : i + j ≤ m + 1) (hx : ∀ x, a[i - 1]? = some x → ∀ y ∈ b.toList.take j, le κ y x) (hR : TH κ a b m st3 R) : wpS (model prog w) A E s (uA a b o i j g p q) R st3 := by
  have hla := M.la
  obtain ⟨n, rfl⟩ : ∃ n, i = n + 1 := ⟨i - 1, by omega⟩
  obtain ⟨x, ex, _⟩ := has_at ha (show n < a.size by omega)
  have M2 := M.tA ex sa (hx x ex)
  refine wpS_bind (w_elem ex ?_)
  show wpS _ _ _ _ (if (n == 0) = true then _ else _) _ _
  by_cases d1 : (n == 0) = true
  · rw [if_pos d1]
    exact wpS_pure (hR.1 _ _ _ _ _ _ _ (M2.doneA sb (by simpa using d1)))
  · have d1' : ¬ n = 0 := by simpa using d1
    rw [if_neg d1]
    have q := hR.2 _ _ _ g p q M2 (by omega) hj (by omega)
    split
    · exact wpS_pure q.1
    · exact wpS_pure q.2
theorem w_uB {st3 : SortSt} {o : Array Keyed} {i j g p q m : Nat} {R : ForInStep CellH → SortSt → Prop} (C : CmpOk prog w A s kd κ) (hk : kindOf st3 = kd) (ha : ∀ x ∈ a.toList, Has κ x) (hb : ∀ x ∈ b.toList, Has κ x) (sa : Srt κ a.toList) (sb : Srt κ b.toList)
    (hf : ∀ z, b[0]? = some z → ∀ x ∈ a.toList, le κ z x) (M : MH κ a b o i j) (hi : 1 ≤ i) (hj : 1 < j) (hm : i + j ≤ m + 1) (hy : ∀ y, b[j - 1]? = some y → ∀ x ∈ a.toList.take i, le κ x y) (hR : TH κ a b m st3 R) :
    wpS (model prog w) A E s (uB a b o i j g p q) R st3 := by
  have hla := M.la
  have hlb := M.lb
  obtain ⟨n, rfl⟩ : ∃ n, j = n + 1 := ⟨j - 1, by omega⟩
  obtain ⟨y, ey, hyy⟩ := has_at hb (show n < b.size by omega)
  obtain ⟨x, ex, hxx⟩ := has_at ha (show i - 1 < a.size by omega)
  have M2 := M.tB ey sb (hy y ey)
  refine wpS_bind (w_elem ey ?_)
  show wpS _ _ _ _ (if (n == 1) = true then _ else _) _ _
  by_cases d1 : (n == 1) = true
  · rw [if_pos d1]
    exact wpS_pure (hR.1 _ _ _ _ _ _ _ (M2.first sa (by simpa using d1) hf))
  · have d1' : ¬ n = 1 := by simpa using d1
    rw [if_neg d1]
    refine wpS_bind (w_elem ex (wpS_bind (w_galB (i := 0) C hk hb sb hxx n (by omega) (show n - 1 < n by omega) fun k k1 k2 k3 => ?_)))
    have hxa : ∀ z ∈ a.toList.take i, le κ z x := by
      obtain ⟨u, rfl⟩ : ∃ u, i = u + 1 := ⟨i - 1, by omega⟩
      exact srt_last sa ex
    have M3 := MH.tBs sb k n _ k1 M2 fun t z h1 h2 ez u hu => (hxa u hu).trans (k3 t z h1 h2 (by rw [Nat.zero_add]; exact ez))
    have low : ∀ v, v ∈ b.toList.take k → le κ v x := fun v hv => by
      obtain ⟨t, ht, et⟩ := mem_take hv
      exact le_of_lt (k2 t v ht (by rw [Nat.zero_add]; exact et))
    show wpS _ _ _ _ (if n - k > 0 then _ else _) _ _
    by_cases hk0 : n - k > 0
    · rw [if_pos hk0]
      by_cases d2 : (k == 1) = true
      · rw [if_pos d2]
        exact wpS_pure (hR.1 _ _ _ _ _ _ _ (M3.first sa (by simpa using d2) hf))
      · rw [if_neg d2]
        by_cases d3 : (k == 0) = true
        · rw [if_pos d3]
          exact wpS_pure (hR.1 _ _ _ _ _ _ _ (M3.doneB sa (by simpa using d3)))
        · rw [if_neg d3]
          have d2' : ¬ k = 1 := by simpa using d2
          have d3' : ¬ k = 0 := by simpa using d3
          refine w_uA ha sa sb M3 hi (by omega) (by omega) (fun x' ex' u hu => ?_) hR
          rw [ex] at ex'
          cases ex'
          exact low u hu
    · rw [if_neg hk0]
      have : k = n := by omega
      subst this
      refine w_uA ha sa sb M2 hi (by omega) (by omega) (fun x' ex' u hu => ?_) hR
      rw [ex] at ex'
      cases ex'
      exact low u hu
theorem w_uT {st3 : SortSt} {o : Array Keyed} {i j g p q m : Nat} {R : ForInStep CellH → SortSt → Prop} (C : CmpOk prog w A s kd κ) (hk : kindOf st3 = kd) (ha : ∀ x ∈ a.toList, Has κ x) (hb : ∀ x ∈ b.toList, Has κ x) (sa : Srt κ a.toList) (sb : Srt κ b.toList)
    (hf : ∀ z, b[0]? = some z → ∀ x ∈ a.toList, le κ z x) (M : MH κ a b o i j) (hi : 1 ≤ i) (hj : 1 < j) (hm : i + j ≤ m + 1) (hR : TH κ a b m st3 R) : wpS (model prog w) A E s (uT a b o i j g p q) R st3 := by
  have hla := M.la
  have hlb := M.lb
  obtain ⟨y, ey, hyy⟩ := has_at hb (show j - 1 < b.size by omega)
  have hyb : ∀ z ∈ b.toList.take j, le κ z y := by
    obtain ⟨u, rfl⟩ : ∃ u, j = u + 1 := ⟨j - 1, by omega⟩
    exact srt_last sb ey
  refine wpS_bind (w_elem ey (wpS_bind (w_galA (i := 0) C hk ha sa hyy i (by omega) (show i - 1 < i by omega) fun k k1 k2 k3 => ?_)))
  have M3 := MH.tAs sa k i _ k1 M fun t z h1 h2 ez u hu => (hyb u hu).trans (le_of_lt (k3 t z h1 h2 (by rw [Nat.zero_add]; exact ez)))
  have low : ∀ v, v ∈ a.toList.take k → le κ v y := fun v hv => by
    obtain ⟨t, ht, et⟩ := mem_take hv
    exact k2 t v ht (by rw [Nat.zero_add]; exact et)
  show wpS _ _ _ _ (if i - k > 0 then _ else _) _ _
  by_cases hk0 : i - k > 0
  · rw [if_pos hk0]
    by_cases d1 : (k == 0) = true
    · rw [if_pos d1]
      exact wpS_pure (hR.1 _ _ _ _ _ _ _ (M3.doneA sb (by simpa using d1)))
    · rw [if_neg d1]
      have d1' : ¬ k = 0 := by simpa using d1
      refine w_uB C hk ha hb sa sb hf M3 (by omega) hj (by omega) (fun y' ey' => ?_) hR
      rw [ey] at ey'
      cases ey'
      exact low
  · rw [if_neg hk0]
    have : k = i := by omega
    subst this
    refine w_uB C hk ha hb sa sb hf M hi hj hm (fun y' ey' => ?_) hR
    rw [ey] at ey'
    cases ey'
    exact low
theorem w_mHi {st : SortSt} {Q : Array Keyed → SortSt → Prop} (C : CmpOk prog w A s kd κ) (hk : kindOf st = kd) (ha : ∀ x ∈ a.toList, Has κ x) (hb : ∀ x ∈ b.toList, Has κ x) (sa : Srt κ a.toList) (sb : Srt κ b.toList) (na : 1 ≤ a.size) (nb : 1 ≤ b.size)
    (hf : ∀ z, b[0]? = some z → ∀ x ∈ a.toList, le κ z x) (hl : ∀ z, a[a.size - 1]? = some z → ∀ y ∈ b.toList, le κ y z)
    (h : ∀ r st', Like st st' → Fn κ a b r → Q r st') : wpS (model prog w) A E s (mHi a b) Q st := by
  refine wpS_bind (wpS_lift (wpAny_rule ⟨rfl, ?_⟩))
  obtain ⟨n, hn⟩ : ∃ n, a.size = n + 1 := ⟨a.size - 1, by omega⟩
  obtain ⟨x0, ex, hx⟩ := has_at ha (show n < a.size by omega)
  have en : a.size - 1 = n := by omega
  refine wpS_bind (w_elem (p := x0) (by rw [en]; exact ex) ?_)
  have M0 : MH κ a b #[] (n + 1) b.size := ⟨by omega, by omega, by rw [← hn, List.take_of_length_le (show a.toList.length ≤ a.size by simp), List.take_of_length_le (show b.toList.length ≤ b.size by simp)]; simp, by simp, by simp⟩
  have M1 : MH κ a b #[x0] n b.size := by
    have := M0.tA ex sa fun y hy => hl x0 (by rw [en]; exact ex) y (List.mem_of_mem_take hy)
    simpa using this
  rw [← en] at M1
  show wpS _ _ _ _ (if (a.size - 1 == 0) = true then _ else _) _ _
  by_cases c1 : (a.size - 1 == 0) = true
  · rw [if_pos c1]
    exact wpS_pure (h _ _ (Like.refl _) (M1.doneA sb (by simpa using c1)))
  rw [if_neg c1]
  by_cases c2 : (b.size == 1) = true
  · rw [if_pos c2]
    exact wpS_pure (h _ _ (Like.refl _) (M1.first sa (by simpa using c2) hf))
  rw [if_neg c2]
  have c1' : ¬ a.size - 1 = 0 := by simpa using c1
  have c2' : ¬ b.size = 1 := by simpa using c2
  refine wpS_bind (wpS_get ?_)
  refine wpS_bind (wpS_mono (wpS_forRange (I := fun x c st' => Like st st' ∧ ∃ out i j g, c = (none, i, j, out, g) ∧ MH κ a b out i j ∧ 1 ≤ i ∧ 1 < j ∧ i + j + x ≤ a.size + b.size)
    (Q := fun c st' => Like st st' ∧ ∃ r out i j g, c = (some r, i, j, out, g) ∧ Fn κ a b r) ?step ?fin ⟨Like.refl _, _, _, _, _, rfl, M1, by omega, by omega, by omega⟩) ?post)
  case fin =>
    rintro c st' ⟨_, out, i, j, g, rfl, M, h1, h2, h3⟩
    omega
  case post =>
    rintro c st' ⟨L, r, out, i, j, g, rfl, F⟩
    exact wpS_pure (h r st' L F)
  case step =>
    rintro x c st1 _ hx1 ⟨L1, out0, i0, j0, g0, rfl, M, u1, u2, u3⟩
    have hk1 : kindOf st1 = kd := L1.kd.trans hk
    dsimp only
    refine wpS_bind (wpS_mono (wpS_forRange (I := fun x c st' => st' = st1 ∧ ∃ out i j p q, c = (none, i, j, out, p, q) ∧ MH κ a b out i j ∧ 1 ≤ i ∧ 1 < j ∧ i + j + x ≤ i0 + j0)
      (Q := fun c st' => st' = st1 ∧ ((∃ r out i j p q, c = (some r, i, j, out, p, q) ∧ Fn κ a b r) ∨ ∃ out i j p q, c = (none, i, j, out, p, q) ∧ MH κ a b out i j ∧ 1 ≤ i ∧ 1 < j ∧ i + j + 1 ≤ i0 + j0)) ?step1 ?fin1
      ⟨rfl, _, _, _, _, _, rfl, M, u1, u2, by omega⟩) ?post1)
    case fin1 =>
      rintro c st' ⟨rfl, out, i, j, p, q, rfl, M', v1, v2, v3⟩
      exact ⟨rfl, .inr ⟨out, i, j, p, q, rfl, M', v1, v2, by omega⟩⟩
    case step1 =>
      rintro x2 c st' _ hx2 ⟨rfl, out, i, j, p, q, rfl, M', v1, v2, v3⟩
      have hla := M'.la
      have hlb := M'.lb
      obtain ⟨n, rfl⟩ : ∃ n, i = n + 1 := ⟨i - 1, by omega⟩
      obtain ⟨m, rfl⟩ : ∃ m, j = m + 1 := ⟨j - 1, by omega⟩
      obtain ⟨yb, eb, hyb⟩ := has_at hb (show m < b.size by omega)
      obtain ⟨xa, ea, hxa⟩ := has_at ha (show n < a.size by omega)
      dsimp only
      refine wpS_bind (w_elem eb (wpS_bind (w_elem ea (wpS_bind (w_lt C hk1 hyb hxa ?_)))))
      cases e : κ.blt (kk κ yb) (kk κ xa) with
      | true =>
        show wpS _ _ _ _ (if true = true then _ else _) _ _
        rw [if_pos rfl]
        refine wpS_bind (w_elem ea ?_)
        have M2 := M'.tA ea sa fun y hy => (srt_last sb eb y hy).trans (le_of_lt e)
        show wpS _ _ _ _ (if (n == 0) = true then _ else _) _ _
        by_cases d1 : (n == 0) = true
        · rw [if_pos d1]
          exact wpS_pure ⟨rfl, .inl ⟨_, _, _, _, _, _, rfl, M2.doneA sb (by simpa using d1)⟩⟩
        · have d1' : ¬ n = 0 := by simpa using d1
          rw [if_neg d1]
          by_cases d2 : p + 1 ≥ g0
          · rw [if_pos d2]
            exact wpS_pure ⟨rfl, .inr ⟨_, _, _, _, _, rfl, M2, by omega, v2, by omega⟩⟩
          · rw [if_neg d2]
            exact wpS_pure ⟨rfl, _, _, _, _, _, rfl, M2, by omega, v2, by omega⟩
      | false =>
        show wpS _ _ _ _ (if false = true then _ else _) _ _
        rw [if_neg (by decide)]
        refine wpS_bind (w_elem eb ?_)
        have M2 := M'.tB eb sb fun y hy => (srt_last sa ea y hy).trans (le_of_not e)
        show wpS _ _ _ _ (if (m == 1) = true then _ else _) _ _
        by_cases d1 : (m == 1) = true
        · rw [if_pos d1]
          exact wpS_pure ⟨rfl, .inl ⟨_, _, _, _, _, _, rfl, M2.first sa (by simpa using d1) hf⟩⟩
        · have d1' : ¬ m = 1 := by simpa using d1
          rw [if_neg d1]
          by_cases d2 : q + 1 ≥ g0
          · rw [if_pos d2]
            exact wpS_pure ⟨rfl, .inr ⟨_, _, _, _, _, rfl, M2, v1, by omega, by omega⟩⟩
          · rw [if_neg d2]
            exact wpS_pure ⟨rfl, _, _, _, _, _, rfl, M2, v1, by omega, by omega⟩
    case post1 =>
      rintro c st' ⟨rfl, ⟨r, out, i, j, p, q, rfl, F⟩ | ⟨out, i, j, p, q, rfl, M', v1, v2, v3⟩⟩
      · exact wpS_pure ⟨L1, _, _, _, _, _, rfl, F⟩
      · dsimp only
        refine wpS_bind (wpS_lift (wpAny_rule ⟨rfl, ?_⟩))
        refine wpS_bind (wpS_mono (wpS_forRange (I := fun x c st' => Like st st' ∧ ∃ out i j g p q, c = (none, i, j, out, g, p, q) ∧ MH κ a b out i j ∧ 1 ≤ i ∧ 1 < j ∧ i + j + 1 ≤ i0 + j0)
          (Q := fun c st' => Like st st' ∧ ((∃ r out i j g p q, c = (some r, i, j, out, g, p, q) ∧ Fn κ a b r) ∨ ∃ out i j g p q, c = (none, i, j, out, g, p, q) ∧ MH κ a b out i j ∧ 1 ≤ i ∧ 1 < j ∧ i + j + 1 ≤ i0 + j0)) ?step2 ?fin2
          ⟨L1, _, _, _, _, _, _, rfl, M', v1, v2, v3⟩) ?post2)
        case fin2 =>
          rintro c st' ⟨L, out, i, j, g, p, q, rfl, M', v⟩
          exact ⟨L, .inr ⟨_, _, _, _, _, _, rfl, M', v⟩⟩
        case post2 =>
          rintro c st' ⟨L, ⟨r, out, i, j, g, p, q, rfl, F⟩ | ⟨out, i, j, g, p, q, rfl, M', v1, v2, v3⟩⟩
          · exact wpS_pure ⟨L, _, _, _, _, _, rfl, F⟩
          · dsimp only
            refine wpS_bind (wpS_modify (wpS_pure ⟨L.trans ⟨rfl, rfl, rfl, rfl⟩, _, _, _, _, rfl, M', v1, v2, by omega⟩))
        case step2 =>
          rintro x3 c st2 _ hx3 ⟨L2, out, i, j, g, p, q, rfl, M2, w1, w2, w3⟩
          dsimp only
          have run : ∀ g' : Nat, wpS (model prog w) A E s (uT a b out i j g' p q) (fun r st' => match r with
              | .done c' => Like st st' ∧ ((∃ r out i j g p q, c' = (some r, i, j, out, g, p, q) ∧ Fn κ a b r) ∨ ∃ out i j g p q, c' = (none, i, j, out, g, p, q) ∧ MH κ a b out i j ∧ 1 ≤ i ∧ 1 < j ∧ i + j + 1 ≤ i0 + j0)
              | .yield c' => Like st st' ∧ ∃ out i j g p q, c' = (none, i, j, out, g, p, q) ∧ MH κ a b out i j ∧ 1 ≤ i ∧ 1 < j ∧ i + j + 1 ≤ i0 + j0) (SortSt.mk' (kindOf st2) (arrOf st2) (pendingOf st2) g' (failedOf st2)) := fun g' => by
            have L3 : Like st (SortSt.mk' (kindOf st2) (arrOf st2) (pendingOf st2) g' (failedOf st2)) := L2.trans ⟨rfl, rfl, rfl, rfl⟩
            refine w_uT (m := i0 + j0 - 1) C (L3.kd.trans hk) ha hb sa sb hf M2 w1 w2 (by omega) ⟨fun r o i j g p q F => ⟨L3, .inl ⟨_, _, _, _, _, _, _, rfl, F⟩⟩, fun o i j g p q M' h1 h2 h3 => ⟨⟨L3, .inr ⟨_, _, _, _, _, _, rfl, M', h1, h2, by omega⟩⟩, ⟨L3, _, _, _, _, _, _, rfl, M', h1, h2, by omega⟩⟩⟩
          by_cases d0 : g > 1
          · rw [if_pos d0]
            refine wpS_bind (wpS_modify ?_)
            refine wpS_mono (m := uT a b out i j (g - 1) p q) (run (g - 1)) fun r st' hr => ?_
            cases r <;> exact hr
          · rw [if_neg d0]
            refine wpS_bind (wpS_modify ?_)
            refine wpS_mono (m := uT a b out i j g p q) (run g) fun r st' hr => ?_
            cases r <;> exact hr
end
end Tim
set_option Elab.async false
set_option linter.all false
set_option maxRecDepth 100000
set_option maxHeartbeats 4000000
namespace Tim
open PySem PyProof.Rows
section
variable {prog : Program} {w : World} {A : Around} {E : Value → Shared → Prop} {s : Shared} {kd : SortKind} {κ : KeyKind}
structure Fr (lo : Nat) (st st' : SortSt) : Prop where
  kd : kindOf st' = kindOf st
  pn : pendingOf st' = pendingOf st
  fl : failedOf st' = failedOf st
  perm : (arrOf st').Perm (arrOf st)
  low : ∀ k, k < lo → (arrOf st')[k]? = (arrOf st)[k]?
theorem Fr.refl (lo : Nat) (st : SortSt) : Fr lo st st := ⟨rfl, rfl, rfl, Array.Perm.refl _, fun _ _ => rfl⟩
theorem Fr.trans {lo : Nat} {a b c : SortSt} (h : Fr lo a b) (k : Fr lo b c) : Fr lo a c := ⟨k.kd.trans h.kd, k.pn.trans h.pn, k.fl.trans h.fl, k.perm.trans h.perm, fun i hi => (k.low i hi).trans (h.low i hi)⟩
theorem Fr.size {lo : Nat} {a b : SortSt} (h : Fr lo a b) : (arrOf b).size = (arrOf a).size := h.perm.size_eq
theorem Fr.rev {lo : Nat} (st : SortSt) (i j : Nat) (hi : lo ≤ i) (hj : j ≤ (arrOf st).size) : Fr lo st (setArr st (mirror (arrOf st) i j ((j - i) / 2))) :=
  ⟨rfl, rfl, rfl, mirror_perm _ _ _ _, fun k hk => by
    show (mirror (arrOf st) i j ((j - i) / 2))[k]? = _
    rw [getElem?_mirror_all hj, if_neg (by omega)]⟩
def All (κ : KeyKind) (st : SortSt) : Prop := ∀ x ∈ (arrOf st).toList, Has κ x
theorem All.fr {lo : Nat} {a b : SortSt} (h : All κ a) (f : Fr lo a b) : All κ b := fun x hx => h x ((Array.perm_iff_toList_perm.mp f.perm).mem_iff.mp hx)
theorem All.at {st : SortSt} (h : All κ st) {i : Nat} (hi : i < (arrOf st).size) : ∃ p, (arrOf st)[i]? = some p ∧ Has κ p := has_at h hi
def Up (κ : KeyKind) (st : SortSt) (lo n : Nat) : Prop := ∀ i j, i ≤ j → j < n → κ.kle (KK κ (arrOf st) (lo + i)) (KK κ (arrOf st) (lo + j))
def Dn (κ : KeyKind) (st : SortSt) (lo n : Nat) : Prop := ∀ i j, i ≤ j → j < n → κ.kle (KK κ (arrOf st) (lo + j)) (KK κ (arrOf st) (lo + i))
theorem Up.one (st : SortSt) (lo : Nat) : Up κ st lo 1 := fun i j h1 h2 => by
  have e : i = j := by omega
  rw [e]; exact KeyOrd.kle_refl _
theorem Up.more {st : SortSt} {lo n : Nat} (h : Up κ st lo n) (h1 : 1 ≤ n) (e : κ.kle (KK κ (arrOf st) (lo + n - 1)) (KK κ (arrOf st) (lo + n))) : Up κ st lo (n + 1) := fun i j hij hj => by
  by_cases c : j < n
  · exact h i j hij c
  · have ej : j = n := by omega
    by_cases ci : i = n
    · rw [ej, ci]; exact KeyOrd.kle_refl _
    · rw [ej]
      have q := h i (n - 1) (by omega) (by omega)
      rw [show lo + (n - 1) = lo + n - 1 by omega] at q
      exact KeyOrd.kle_trans q e
theorem Dn.more {st : SortSt} {lo n : Nat} (h : Dn κ st lo n) (h1 : 1 ≤ n) (e : κ.kle (KK κ (arrOf st) (lo + n)) (KK κ (arrOf st) (lo + n - 1))) : Dn κ st lo (n + 1) := fun i j hij hj => by
  by_cases c : j < n
  · exact h i j hij c
  · have ej : j = n := by omega
    by_cases ci : i = n
    · rw [ej, ci]; exact KeyOrd.kle_refl _
    · rw [ej]
      have q := h i (n - 1) (by omega) (by omega)
      rw [show lo + (n - 1) = lo + n - 1 by omega] at q
      exact KeyOrd.kle_trans e q
theorem w_asc {st : SortSt} {lo nrem n0 : Nat} {α : Type} {Q : α → SortSt → Prop} (C : CmpOk prog w A s kd κ) (hk : kindOf st = kd) (al : All κ st) (hn : lo + nrem ≤ (arrOf st).size) (h1 : 1 ≤ n0) (h2 : n0 ≤ nrem) (up : Up κ st lo n0)
    (F : Nat → Option (Option Nat) × Nat → StateT SortSt Sem (ForInStep (Option (Option Nat) × Nat))) (hF : ∀ x n, F x (none, n) = (do
      let c ← ltAt' (lo + n) (lo + n - 1)
      match c with
      | some c => if c = true then pure (ForInStep.done (none, n)) else pure (ForInStep.yield (none, n + 1))
      | _ => pure (ForInStep.done (some none, n)))) (G : Option (Option Nat) × Nat → StateT SortSt Sem α)
    (hG : ∀ n, n0 ≤ n → n ≤ nrem → Up κ st lo n → (n = nrem ∨ κ.klt (KK κ (arrOf st) (lo + n)) (KK κ (arrOf st) (lo + n - 1))) → wpS (model prog w) A E s (G (none, n)) Q st) :
    wpS (model prog w) A E s (forIn [n0:nrem] ((none, n0) : Option (Option Nat) × Nat) F >>= G) Q st := by
  refine wpS_bind (wpS_forRange (I := fun x c st' => st' = st ∧ c = (none, x) ∧ x ≤ nrem ∧ Up κ st lo x) ?step ?fin ⟨rfl, rfl, h2, up⟩)
  case fin =>
    rintro c st' ⟨rfl, rfl, h3, h4⟩
    rw [show max n0 nrem = nrem by omega] at h4 ⊢
    exact hG nrem h2 (Nat.le_refl _) h4 (.inl rfl)
  case step =>
    rintro x c st' hx1 hx2 ⟨rfl, rfl, h3, h4⟩
    rw [hF]
    refine wpS_bind (w_ltAt C hk (al.at (by omega)) (al.at (by omega)) ?_)
    cases e : κ.blt (KK κ (arrOf st') (lo + x)) (KK κ (arrOf st') (lo + x - 1)) with
    | true =>
      show wpS _ _ _ _ (if true = true then _ else _) _ _
      rw [if_pos rfl]
      exact wpS_pure (hG x hx1 h3 h4 (.inr e))
    | false =>
      show wpS _ _ _ _ (if false = true then _ else _) _ _
      rw [if_neg (by decide)]
      exact wpS_pure ⟨rfl, rfl, by omega, h4.more (by omega) e⟩
theorem rev_up {st : SortSt} {lo n : Nat} (h : Dn κ st lo n) (hn : lo + n ≤ (arrOf st).size) : Up κ (setArr st (mirror (arrOf st) lo (lo + n) ((lo + n - lo) / 2))) lo n := fun i j hij hj => by
  show κ.kle (KK κ (mirror (arrOf st) lo (lo + n) _) (lo + i)) (KK κ (mirror (arrOf st) lo (lo + n) _) (lo + j))
  rw [KK_mirror hn, KK_mirror hn, if_pos (by omega), if_pos (by omega)]
  have q := h (n - 1 - j) (n - 1 - i) (by omega) (by omega)
  rw [show lo + (lo + n) - 1 - (lo + i) = lo + (n - 1 - i) by omega, show lo + (lo + n) - 1 - (lo + j) = lo + (n - 1 - j) by omega]
  exact q
theorem w_tail {st : SortSt} {lo nrem n : Nat} {Q : Option Nat → SortSt → Prop} (C : CmpOk prog w A s kd κ) (hk : kindOf st = kd) (al : All κ st) (hn : lo + nrem ≤ (arrOf st).size) (h1 : 1 ≤ n) (h2 : n ≤ nrem) (dn : Dn κ st lo n)
    (F : Nat → Option (Option Nat) × Nat → StateT SortSt Sem (ForInStep (Option (Option Nat) × Nat))) (hF : ∀ x n, F x (none, n) = (do
      let c ← ltAt' (lo + n) (lo + n - 1)
      match c with
      | some c => if c = true then pure (ForInStep.done (none, n)) else pure (ForInStep.yield (none, n + 1))
      | _ => pure (ForInStep.done (some none, n)))) (G : Option (Option Nat) × Nat → StateT SortSt Sem (Option Nat)) (hG : ∀ n, G (none, n) = pure (some n))
    (h : ∀ m st', Fr lo st st' → 1 ≤ m → m ≤ nrem → Up κ st' lo m → Q (some m) st') :
    wpS (model prog w) A E s (reverseSlice' lo (lo + n) >>= fun _ => forIn [n:nrem] ((none, n) : Option (Option Nat) × Nat) F >>= G) Q st := by
  have f := Fr.rev (lo := lo) st lo (lo + n) (Nat.le_refl _) (by omega)
  refine wpS_bind (wpS_reverse ?_)
  refine w_asc C (f.kd.trans hk) (al.fr f) (by rw [f.size]; exact hn) h1 h2 (rev_up dn (by omega)) F hF G fun m m1 m2 m3 _ => ?_
  rw [hG]
  exact wpS_pure (h m _ f (by omega) m2 m3)
theorem eq_rev {st : SortSt} {i j : Nat} (hj : j ≤ (arrOf st).size) (he : ∀ k, i ≤ k → k < j → KK κ (arrOf st) k = KK κ (arrOf st) (j - 1)) (k : Nat) :
    KK κ (arrOf (setArr st (mirror (arrOf st) i j ((j - i) / 2)))) k = KK κ (arrOf st) k := KK_mirror_equal hj he k
theorem Dn.same {st st' : SortSt} {lo n : Nat} (h : Dn κ st lo n) (e : ∀ k, KK κ (arrOf st') k = KK κ (arrOf st) k) : Dn κ st' lo n := fun i j h1 h2 => by rw [e, e]; exact h i j h1 h2
theorem w_desc {st : SortSt} {lo nrem n0 : Nat} {α : Type} {Q : α → SortSt → Prop} (C : CmpOk prog w A s kd κ) (hk : kindOf st = kd) (al : All κ st) (hn : lo + nrem ≤ (arrOf st).size) (h1 : 1 ≤ n0) (h2 : n0 ≤ nrem) (dn : Dn κ st lo n0)
    (F : Nat → Option (Option Nat) × Nat × Nat → StateT SortSt Sem (ForInStep (Option (Option Nat) × Nat × Nat))) (hF : ∀ x n q, F x (none, n, q) = (ltAt' (lo + n) (lo + n - 1) >>= fun c => match c with
      | some c => (if c = true then (if q > 0 then (reverseSlice' (lo + n - (q + 1)) (lo + n) >>= fun _ => pure (ForInStep.yield (none, n + 1, 0))) else pure (ForInStep.yield (none, n + 1, 0)))
        else (ltAt' (lo + n - 1) (lo + n) >>= fun d => match d with
          | some d => (if d = true then pure (ForInStep.done (none, n, q)) else pure (ForInStep.yield (none, n + 1, q + 1)))
          | _ => pure (ForInStep.done (some none, n, q))))
      | _ => pure (ForInStep.done (some none, n, q)))) (G : Option (Option Nat) × Nat × Nat → StateT SortSt Sem α)
    (hG : ∀ n q st', Fr lo st st' → n0 ≤ n → n ≤ nrem → Dn κ st' lo n → q + 1 ≤ n → (∀ k, lo + n - (q + 1) ≤ k → k < lo + n → KK κ (arrOf st') k = KK κ (arrOf st') (lo + n - 1)) → wpS (model prog w) A E s (G (none, n, q)) Q st') :
    wpS (model prog w) A E s (forIn [n0:nrem] ((none, n0, 0) : Option (Option Nat) × Nat × Nat) F >>= G) Q st := by
  refine wpS_bind (wpS_forRange (I := fun x c st' => Fr lo st st' ∧ ∃ q, c = (none, x, q) ∧ x ≤ nrem ∧ Dn κ st' lo x ∧ q + 1 ≤ x ∧ ∀ k, lo + x - (q + 1) ≤ k → k < lo + x → KK κ (arrOf st') k = KK κ (arrOf st') (lo + x - 1)) ?step ?fin
    ⟨Fr.refl _ _, 0, rfl, h2, dn, by omega, fun k k1 k2 => by rw [show k = lo + n0 - 1 by omega]⟩)
  case fin =>
    rintro c st' ⟨f, q, rfl, h3, h4, h5, h6⟩
    have e : max n0 nrem = nrem := by omega
    rw [e] at h4 h5 h6 ⊢
    exact hG nrem q st' f h2 (Nat.le_refl _) h4 h5 h6
  case step =>
    rintro x c st' hx1 hx2 ⟨f, q, rfl, h3, h4, h5, h6⟩
    have hz : (arrOf st').size = (arrOf st).size := f.size
    have al' := al.fr f
    have hk' := f.kd.trans hk
    rw [hF]
    refine wpS_bind (w_ltAt C hk' (al'.at (by omega)) (al'.at (by omega)) ?_)
    cases e : κ.blt (KK κ (arrOf st') (lo + x)) (KK κ (arrOf st') (lo + x - 1)) with
    | true =>
      show wpS _ _ _ _ (if true = true then _ else _) _ _
      rw [if_pos rfl]
      have d2 : Dn κ st' lo (x + 1) := h4.more (by omega) (KeyOrd.kle_of_klt e)
      by_cases hq : q > 0
      · rw [if_pos hq]
        have f2 := Fr.rev (lo := lo) st' (lo + x - (q + 1)) (lo + x) (by omega) (by omega)
        exact wpS_bind (wpS_reverse (wpS_pure ⟨f.trans f2, 0, rfl, by omega, d2.same (eq_rev (by omega) h6), by omega, fun k k1 k2 => by rw [show k = lo + (x + 1) - 1 by omega]⟩))
      · rw [if_neg hq]
        exact wpS_pure ⟨f, 0, rfl, by omega, d2, by omega, fun k k1 k2 => by rw [show k = lo + (x + 1) - 1 by omega]⟩
    | false =>
      show wpS _ _ _ _ (if false = true then _ else _) _ _
      rw [if_neg (by decide)]
      refine wpS_bind (w_ltAt C hk' (al'.at (by omega)) (al'.at (by omega)) ?_)
      cases e2 : κ.blt (KK κ (arrOf st') (lo + x - 1)) (KK κ (arrOf st') (lo + x)) with
      | true =>
        show wpS _ _ _ _ (if true = true then _ else _) _ _
        rw [if_pos rfl]
        exact wpS_pure (hG x q st' f hx1 h3 h4 h5 h6)
      | false =>
        show wpS _ _ _ _ (if false = true then _ else _) _ _
        rw [if_neg (by decide)]
        have eq : KK κ (arrOf st') (lo + x) = KK κ (arrOf st') (lo + x - 1) := KeyOrd.kle_antisymm e2 e
        refine wpS_pure ⟨f, q + 1, rfl, by omega, h4.more (by omega) e2, by omega, fun k k1 k2 => ?_⟩
        rw [show lo + (x + 1) - 1 = lo + x by omega]
        by_cases ck : k = lo + x
        · rw [ck]
        · rw [eq]; exact h6 k (by omega) (by omega)
theorem w_count {st : SortSt} {lo nrem : Nat} {Q : Option Nat → SortSt → Prop} (C : CmpOk prog w A s kd κ) (hk : kindOf st = kd) (al : All κ st) (hn : lo + nrem ≤ (arrOf st).size) (h1 : 1 ≤ nrem)
    (h : ∀ m st', Fr lo st st' → 1 ≤ m → m ≤ nrem → Up κ st' lo m → Q (some m) st') : wpS (model prog w) A E s (countRun' lo nrem) Q st := by
  refine w_asc C hk al hn (Nat.le_refl 1) h1 (Up.one _ _) _ (fun x n => rfl) _ fun n n1 n2 up ho => ?_
  show wpS _ _ _ _ (if (n == nrem) = true then _ else _) _ _
  by_cases c : (n == nrem) = true
  · rw [if_pos c]
    exact wpS_pure (h n st (Fr.refl _ _) n1 n2 up)
  rw [if_neg c]
  have c' : ¬ n = nrem := by simpa using c
  have hlt := ho.resolve_left c'
  show wpS _ _ _ _ (if n > 1 then _ else _) _ _
  by_cases g : n > 1
  · rw [if_pos g]
    refine wpS_bind (w_ltAt C hk (al.at (by omega)) (al.at (by omega)) ?_)
    cases e : κ.blt (KK κ (arrOf st) lo) (KK κ (arrOf st) (lo + n - 1)) with
    | true =>
      show wpS _ _ _ _ (if true = true then _ else _) _ _
      rw [if_pos rfl]
      exact wpS_pure (h n st (Fr.refl _ _) n1 n2 up)
    | false =>
      show wpS _ _ _ _ (if false = true then _ else _) _ _
      rw [if_neg (by decide)]
      have hall : ∀ k, lo ≤ k → k < lo + n → KK κ (arrOf st) k = KK κ (arrOf st) (lo + n - 1) := fun k k1 k2 => by
        have a1 := up 0 (k - lo) (by omega) (by omega)
        have a2 := up (k - lo) (n - 1) (by omega) (by omega)
        rw [show lo + (k - lo) = k by omega] at a1 a2
        rw [show lo + (n - 1) = lo + n - 1 by omega] at a2
        exact KeyOrd.kle_antisymm a2 (KeyOrd.kle_trans e a1)
      have f1 := Fr.rev (lo := lo) st lo (lo + n) (Nat.le_refl _) (by omega)
      refine wpS_bind (wpS_reverse ?_)
      have same := eq_rev (κ := κ) (st := st) (i := lo) (j := lo + n) (by omega) hall
      have dn : Dn κ (setArr st (mirror (arrOf st) lo (lo + n) ((lo + n - lo) / 2))) lo (n + 1) := by
        have d0 : Dn κ st lo n := fun i j i1 i2 => by
          rw [hall (lo + i) (by omega) (by omega), hall (lo + j) (by omega) (by omega)]; exact KeyOrd.kle_refl _
        exact (d0.more n1 (KeyOrd.kle_of_klt hlt)).same same
      refine wpS_bind (wpS_lift (wpAny_rule ⟨rfl, ?_⟩))
      refine w_desc C (f1.kd.trans hk) (al.fr f1) (by rw [f1.size]; exact hn) (by omega) (by omega) dn _ (fun x n q => rfl) _ fun m q st2 f2 m1 m2 dm q1 q2 => ?_
      have hz : (arrOf st2).size = (arrOf st).size := (f1.trans f2).size
      show wpS _ _ _ _ (if q > 0 then _ else _) _ _
      by_cases hq : q > 0
      · rw [if_pos hq]
        have f3 := Fr.rev (lo := lo) st2 (lo + m - (q + 1)) (lo + m) (by omega) (by omega)
        refine wpS_bind (wpS_reverse ?_)
        refine w_tail C (f3.kd.trans ((f1.trans f2).kd.trans hk)) ((al.fr (f1.trans f2)).fr f3) (by rw [f3.size, hz]; exact hn) (by omega) m2 (dm.same (eq_rev (by omega) q2)) _ (fun x n => rfl) _ (fun n => rfl) fun m' st' f' => h m' st' (((f1.trans f2).trans f3).trans f')
      · rw [if_neg hq]
        refine w_tail C ((f1.trans f2).kd.trans hk) (al.fr (f1.trans f2)) (by rw [hz]; exact hn) (by omega) m2 dm _ (fun x n => rfl) _ (fun n => rfl) fun m' st' f' => h m' st' ((f1.trans f2).trans f')
  · rw [if_neg g]
    have en : n = 1 := by omega
    subst en
    have dn : Dn κ st lo (1 + 1) := Dn.more (fun i j i1 i2 => by
      have e : i = j := by omega
      rw [e]; exact KeyOrd.kle_refl _) (Nat.le_refl _) (KeyOrd.kle_of_klt hlt)
    refine wpS_bind (wpS_lift (wpAny_rule ⟨rfl, ?_⟩))
    refine w_desc C hk al hn (by omega) (by omega) dn _ (fun x n q => rfl) _ fun m q st2 f2 m1 m2 dm q1 q2 => ?_
    have hz : (arrOf st2).size = (arrOf st).size := f2.size
    show wpS _ _ _ _ (if q > 0 then _ else _) _ _
    by_cases hq : q > 0
    · rw [if_pos hq]
      have f3 := Fr.rev (lo := lo) st2 (lo + m - (q + 1)) (lo + m) (by omega) (by omega)
      refine wpS_bind (wpS_reverse ?_)
      refine w_tail C (f3.kd.trans (f2.kd.trans hk)) ((al.fr f2).fr f3) (by rw [f3.size, hz]; exact hn) (by omega) m2 (dm.same (eq_rev (by omega) q2)) _ (fun x n => rfl) _ (fun n => rfl) fun m' st' f' => h m' st' ((f2.trans f3).trans f')
    · rw [if_neg hq]
      refine w_tail C (f2.kd.trans hk) (al.fr f2) (by rw [hz]; exact hn) (by omega) m2 dm _ (fun x n => rfl) _ (fun n => rfl) fun m' st' f' => h m' st' (f2.trans f')
theorem w_ins {st : SortSt} {lo n ok : Nat} {Q : Bool → SortSt → Prop} (C : CmpOk prog w A s kd κ) (hk : kindOf st = kd) (al : All κ st) (hn : lo + n ≤ (arrOf st).size) (ho : ok ≤ n) (h1 : 1 ≤ ok) (up : Up κ st lo ok)
    (h : ∀ st', Fr lo st st' → Up κ st' lo n → Q true st') : wpS (model prog w) A E s (binarySort' lo n ok) Q st := by
  refine wpS_bind (wpS_mono (wpS_forRange (I := fun k c st' => c = (none, ()) ∧ Fr lo st st' ∧ k ≤ n ∧ Up κ st' lo k) (Q := fun c st' => c = (none, ()) ∧ Fr lo st st' ∧ Up κ st' lo n) ?step ?fin ⟨rfl, Fr.refl _ _, by omega, by rw [show max ok 1 = ok by omega]; exact up⟩) ?post)
  case post =>
    rintro c st' ⟨rfl, f, u⟩
    exact wpS_pure (h st' f u)
  case fin =>
    rintro c st' ⟨hc, f, _, u⟩
    rw [show max (max ok 1) n = n by omega] at u
    exact ⟨hc, f, u⟩
  case step =>
    rintro k c st' hk1 hk2 ⟨rfl, f, _, u⟩
    have hz : (arrOf st').size = (arrOf st).size := f.size
    have al' := al.fr f
    have hkd := f.kd.trans hk
    refine wpS_bind (wpS_mono (wpS_forRange (I := fun x c st2 => st2 = st' ∧ ∃ l r, c = (none, l, r) ∧ l ≤ r ∧ r ≤ k ∧ r - l ≤ k - x ∧ (∀ i, i < l → κ.kle (KK κ (arrOf st') (lo + i)) (KK κ (arrOf st') (lo + k))) ∧ (∀ i, r ≤ i → i < k → κ.klt (KK κ (arrOf st') (lo + k)) (KK κ (arrOf st') (lo + i))))
      (Q := fun c st2 => st2 = st' ∧ ∃ l r, c = (none, l, r) ∧ l ≤ k ∧ (∀ i, i < l → κ.kle (KK κ (arrOf st') (lo + i)) (KK κ (arrOf st') (lo + k))) ∧ (∀ i, l ≤ i → i < k → κ.klt (KK κ (arrOf st') (lo + k)) (KK κ (arrOf st') (lo + i)))) ?s2 ?f2
      ⟨rfl, 0, k, rfl, by omega, by omega, by omega, fun i hi => by omega, fun i i1 i2 => by omega⟩) ?p2)
    case f2 =>
      rintro c st2 ⟨rfl, l, r, rfl, a1, a2, a3, a4, a5⟩
      have e : l = r := by omega
      subst e
      exact ⟨rfl, l, l, rfl, a2, a4, a5⟩
    case s2 =>
      rintro x c st2 _ hx ⟨rfl, l, r, rfl, a1, a2, a3, a4, a5⟩
      dsimp only
      by_cases g : l ≥ r
      · rw [if_pos g]
        have e : l = r := by omega
        subst e
        exact wpS_pure ⟨rfl, l, l, rfl, a2, a4, a5⟩
      · rw [if_neg g]
        refine wpS_bind (w_ltAt C hkd (al'.at (by omega)) (al'.at (by omega)) ?_)
        cases e : κ.blt (KK κ (arrOf st2) (lo + k)) (KK κ (arrOf st2) (lo + (l + r) / 2)) with
        | true =>
          show wpS _ _ _ _ (if true = true then _ else _) _ _
          rw [if_pos rfl]
          exact wpS_pure ⟨rfl, l, (l + r) / 2, rfl, by omega, by omega, by omega, a4, fun i i1 i2 => KeyOrd.klt_of_klt_of_kle e (u _ _ i1 i2)⟩
        | false =>
          show wpS _ _ _ _ (if false = true then _ else _) _ _
          rw [if_neg (by decide)]
          exact wpS_pure ⟨rfl, (l + r) / 2 + 1, r, rfl, by omega, by omega, by omega, fun i i1 => KeyOrd.kle_trans (u i ((l + r) / 2) (by omega) (by omega)) (show κ.kle _ _ from e), a5⟩
    case p2 =>
      rintro c st2 ⟨rfl, l, r, rfl, a1, a2, a3⟩
      show wpS _ _ _ _ (moveDown' (lo + k) (lo + l) >>= fun _ => pure (ForInStep.yield (none, ()))) _ _
      rw [moveDown'_eq]
      have hs : lo + k < (arrOf st2).size := by omega
      refine wpS_bind (wpS_modify (wpS_pure ⟨rfl, f.trans ⟨rfl, rfl, rfl, bubble_perm _ _ _, fun i hi => ?_⟩, by omega, fun i j i1 i2 => ?_⟩))
      · show (bubble (arrOf st2) (lo + k) (lo + k - (lo + l)))[i]? = _
        rw [getElem?_bubble hs _ (by omega), if_neg (by omega), if_neg (by omega)]
      · show κ.kle (KK κ (bubble (arrOf st2) (lo + k) (lo + k - (lo + l))) (lo + i)) (KK κ (bubble (arrOf st2) (lo + k) (lo + k - (lo + l))) (lo + j))
        rw [KK_bubble hs (by omega), KK_bubble hs (by omega), show lo + k - (lo + k - (lo + l)) = lo + l by omega]
        by_cases c1 : lo + i = lo + l
        · rw [if_pos c1]
          by_cases c2 : lo + j = lo + l
          · rw [if_pos c2]; exact KeyOrd.kle_refl _
          · rw [if_neg c2, if_pos (by omega)]
            have q := a3 (j - 1) (by omega) (by omega)
            rw [show lo + (j - 1) = lo + j - 1 by omega] at q
            exact KeyOrd.kle_of_klt q
        · rw [if_neg c1]
          by_cases c2 : lo + j = lo + l
          · rw [if_pos c2, if_neg (by omega)]
            exact a2 i (by omega)
          · rw [if_neg c2]
            by_cases c3 : lo + l < lo + i ∧ lo + i ≤ lo + k
            · rw [if_pos c3, if_pos (by omega)]
              have q := u (i - 1) (j - 1) (by omega) (by omega)
              rw [show lo + (i - 1) = lo + i - 1 by omega, show lo + (j - 1) = lo + j - 1 by omega] at q
              exact q
            · rw [if_neg c3]
              by_cases c4 : lo + l < lo + j ∧ lo + j ≤ lo + k
              · rw [if_pos c4]
                have q := u i (j - 1) (by omega) (by omega)
                rw [show lo + (j - 1) = lo + j - 1 by omega] at q
                exact q
              · rw [if_neg c4]
                exact u i j i1 (by omega)
end
end Tim
set_option Elab.async false
set_option linter.all false
set_option maxRecDepth 100000
set_option maxHeartbeats 4000000
namespace Tim
open PySem PyProof.Rows
section
variable {prog : Program} {w : World} {A : Around} {E : Value → Shared → Prop} {s : Shared} {kd : SortKind} {κ : KeyKind}
theorem w_set {M : Model} {σ : Type} {st st' : σ} {Q : PUnit → σ → Prop} (h : Q ⟨⟩ st') : wpS M A E s (set st' : StateT σ Sem PUnit) Q st := by
  unfold wpS; rw [StateT.run_set]; exact wpAny_pure ⟨rfl, h⟩
theorem splice : ∀ (m : List Keyed) (arr : Array Keyed) (sa k : Nat), sa + k + m.length ≤ arr.size →
    ((m.zipIdx k).foldl (fun a x => match x with | (p, j) => a.setIfInBounds (sa + j) p) arr).toList = arr.toList.take (sa + k) ++ m ++ arr.toList.drop (sa + k + m.length)
  | [], arr, sa, k, _ => by simp
  | p :: r, arr, sa, k, h => by
    rw [List.length_cons] at h
    have hk : sa + k < arr.size := by omega
    rw [List.zipIdx_cons, List.foldl_cons]
    show ((r.zipIdx (k + 1)).foldl _ (arr.setIfInBounds (sa + k) p)).toList = _
    rw [splice r (arr.setIfInBounds (sa + k) p) sa (k + 1) (by rw [Array.size_setIfInBounds]; omega)]
    have e : (arr.setIfInBounds (sa + k) p).toList = arr.toList.set (sa + k) p := by simp
    have hl : sa + k < arr.toList.length := by simpa using hk
    rw [e, show sa + (k + 1) = sa + k + 1 by omega, List.length_cons, show sa + k + (r.length + 1) = sa + k + 1 + r.length by omega]
    have e1 : (arr.toList.set (sa + k) p).take (sa + k + 1) = arr.toList.take (sa + k) ++ [p] := by
      rw [List.take_succ, List.getElem?_set_self hl, List.take_set_of_le (Nat.le_refl _)]; rfl
    have e2 : (arr.toList.set (sa + k) p).drop (sa + k + 1 + r.length) = arr.toList.drop (sa + k + 1 + r.length) := List.drop_set_of_lt (by omega)
    rw [e1, e2]; simp
def seg (arr : Array Keyed) (lo n : Nat) : List Keyed := (arr.toList.drop lo).take n
theorem seg_at {arr : Array Keyed} {lo n i : Nat} (hi : i < n) : (seg arr lo n)[i]? = arr[lo + i]? := by
  unfold seg
  rw [List.getElem?_take_of_lt hi, List.getElem?_drop]; simp
theorem seg_len {arr : Array Keyed} {lo n : Nat} (h : lo + n ≤ arr.size) : (seg arr lo n).length = n := by
  unfold seg
  rw [List.length_take, List.length_drop]; simp; omega
theorem up_srt {st : SortSt} {lo n : Nat} (h : lo + n ≤ (arrOf st).size) : Up κ st lo n ↔ Srt κ (seg (arrOf st) lo n) := by
  have hl := seg_len h
  have at' : ∀ i (hi : i < (seg (arrOf st) lo n).length), KK κ (arrOf st) (lo + i) = kk κ (seg (arrOf st) lo n)[i] := fun i hi => by
    have e : (seg (arrOf st) lo n)[i]? = some (seg (arrOf st) lo n)[i] := by simp
    rw [seg_at (by omega)] at e
    exact KK_at e
  constructor
  · intro u
    refine List.pairwise_iff_getElem.mpr fun i j hi hj hij => ?_
    show κ.kle _ _
    rw [← at' i hi, ← at' j hj]
    exact u i j (by omega) (by omega)
  · intro p i j hij hj
    rw [at' i (by omega), at' j (by omega)]
    by_cases e : i = j
    · subst e; exact KeyOrd.kle_refl _
    · exact List.pairwise_iff_getElem.mp p i j (by omega) (by omega) (by omega)
theorem seg_split {arr : Array Keyed} (lo n m : Nat) : seg arr lo (n + m) = seg arr lo n ++ seg arr (lo + n) m := by
  unfold seg
  rw [List.take_add, List.drop_drop]
theorem seg_ext {arr : Array Keyed} {lo n : Nat} : (arr.extract lo (lo + n)).toList = seg arr lo n := by
  rw [Array.toList_extract, List.extract_eq_drop_take, show lo + n - lo = n by omega]; rfl
theorem list_parts {arr : Array Keyed} (lo n : Nat) : arr.toList = arr.toList.take lo ++ (seg arr lo n ++ arr.toList.drop (lo + n)) := by
  unfold seg
  rw [← List.drop_drop, List.take_append_drop, List.take_append_drop]
theorem take_two (p r t : List Keyed) (n : Nat) (h : p.length + r.length ≤ n) : (p ++ (r ++ t)).take n = p ++ (r ++ t.take (n - p.length - r.length)) := by
  rw [List.take_append, List.take_of_length_le (show p.length ≤ n by omega), List.take_append, List.take_of_length_le (show r.length ≤ n - p.length by omega)]
theorem w_mergeAt {st : SortSt} {i sa na pw nb pw2 : Nat} {Q : Bool → SortSt → Prop} (C : CmpOk prog w A s kd κ) (hk : kindOf st = kd) (al : All κ st) (hp1 : (pendingOf st)[i]? = some (sa, na, pw)) (hp2 : (pendingOf st)[i + 1]? = some (sa + na, nb, pw2))
    (h1 : 1 ≤ na) (h2 : 1 ≤ nb) (hz : sa + na + nb ≤ (arrOf st).size) (ua : Up κ st sa na) (ub : Up κ st (sa + na) nb) (hfl : failedOf st = none)
    (h : ∀ st', kindOf st' = kindOf st → failedOf st' = none → pendingOf st' = ((pendingOf st).setIfInBounds i (sa, na + nb, pw)).eraseIdxIfInBounds (i + 1) → (arrOf st').Perm (arrOf st) →
      (∀ k, k < sa ∨ sa + (na + nb) ≤ k → (arrOf st')[k]? = (arrOf st)[k]?) → Up κ st' sa (na + nb) → Q true st') : wpS (model prog w) A E s (mergeAt' i) Q st := by
  have hE : ∀ p : Array (Nat × Nat × Nat), ∃ st1 : SortSt, st1 = setPending st p := fun p => ⟨_, rfl⟩
  obtain ⟨st1, e1⟩ := hE (((pendingOf st).setIfInBounds i (sa, na + nb, pw)).eraseIdxIfInBounds (i + 1))
  have ka : kindOf st1 = kindOf st := by rw [e1]
  have fa : failedOf st1 = failedOf st := by rw [e1]
  have pa : pendingOf st1 = ((pendingOf st).setIfInBounds i (sa, na + nb, pw)).eraseIdxIfInBounds (i + 1) := by rw [e1]
  have aa : arrOf st1 = arrOf st := by rw [e1]
  have SA := (up_srt (κ := κ) (st := st) (lo := sa) (n := na) (by omega)).mp ua
  have SB := (up_srt (κ := κ) (st := st) (lo := sa + na) (n := nb) (by omega)).mp ub
  have plain : (∀ x ∈ seg (arrOf st) sa na, ∀ y ∈ seg (arrOf st) (sa + na) nb, le κ x y) → Q true st1 := fun hle => by
    refine h st1 ka (fa.trans hfl) pa (by rw [aa]) (fun k _ => by rw [aa]) ?_
    refine (up_srt (by rw [aa]; omega)).mpr ?_
    rw [aa, seg_split]
    exact List.pairwise_append.mpr ⟨SA, SB, hle⟩
  refine wpS_bind (wpS_get ?_)
  show wpS _ _ _ _ (match ((pendingOf st)[i]?, (pendingOf st)[i + 1]?) with | _ => _) _ _
  rw [hp1, hp2]
  refine wpS_bind (w_set ?_)
  show wpS _ _ _ _ _ _ (setPending st (((pendingOf st).setIfInBounds i (sa, na + nb, pw)).eraseIdxIfInBounds (i + 1)))
  rw [← e1]
  obtain ⟨y0, ey0, hy0⟩ := al.at (show sa + na < (arrOf st).size by omega)
  refine wpS_bind (w_elem ey0 ?_)
  have memA : ∀ x ∈ seg (arrOf st) sa na, ∃ j, j < na ∧ (arrOf st)[sa + j]? = some x := fun x hx => by
    obtain ⟨j, hj, rfl⟩ := List.mem_iff_getElem.mp hx
    have hj' : j < na := by rw [seg_len (by omega)] at hj; exact hj
    exact ⟨j, hj', by rw [← seg_at hj']; simp⟩
  have memB : ∀ x ∈ seg (arrOf st) (sa + na) nb, ∃ j, j < nb ∧ (arrOf st)[sa + na + j]? = some x := fun x hx => by
    obtain ⟨j, hj, rfl⟩ := List.mem_iff_getElem.mp hx
    have hj' : j < nb := by rw [seg_len (by omega)] at hj; exact hj
    exact ⟨j, hj', by rw [← seg_at hj']; simp⟩
  have inA : ∀ j x, j < na → (arrOf st)[sa + j]? = some x → x ∈ seg (arrOf st) sa na := fun j x hj e => List.mem_of_getElem? (i := j) (by rw [seg_at hj]; exact e)
  have inB : ∀ j x, j < nb → (arrOf st)[sa + na + j]? = some x → x ∈ seg (arrOf st) (sa + na) nb := fun j x hj e => List.mem_of_getElem? (i := j) (by rw [seg_at hj]; exact e)
  have upA : ∀ {j j' : Nat} {x x' : Keyed}, j ≤ j' → j' < na → (arrOf st)[sa + j]? = some x → (arrOf st)[sa + j']? = some x' → le κ x x' := fun {j j' x x'} hj hj' e e' => by
    have q := ua j j' hj hj'
    rw [KK_at e, KK_at e'] at q; exact q
  have upB : ∀ {j j' : Nat} {x x' : Keyed}, j ≤ j' → j' < nb → (arrOf st)[sa + na + j]? = some x → (arrOf st)[sa + na + j']? = some x' → le κ x x' := fun {j j' x x'} hj hj' e e' => by
    have q := ub j j' hj hj'
    rw [KK_at e, KK_at e'] at q; exact q
  have y0le : ∀ y ∈ seg (arrOf st) (sa + na) nb, le κ y0 y := fun y hy => by
    obtain ⟨j, hj, e⟩ := memB y hy
    exact upB (Nat.zero_le j) hj (by simpa using ey0) e
  refine wpS_bind (w_gal (κ := κ) (fun j => !κ.blt (kk κ y0) (KK κ (arrOf st) (sa + j))) C (ka.trans hk) hy0 (fun j hj => al.at (by omega)) (fun j hj => rfl) (fun u v huv hv e => ?_) (show 0 < na by omega) fun k G => ?_)
  · have q := ua u v huv hv
    have e : κ.blt (kk κ y0) (KK κ (arrOf st) (sa + v)) = false := by simpa using e
    have : κ.blt (kk κ y0) (KK κ (arrOf st) (sa + u)) = false := KeyOrd.kle_trans q e
    show (!κ.blt (kk κ y0) (KK κ (arrOf st) (sa + u))) = true
    rw [this]; rfl
  have lowA : ∀ j x, j < k → (arrOf st)[sa + j]? = some x → le κ x y0 := fun j x hj e => by
    have := G.lo j hj
    rw [KK_at e] at this
    exact le_of_not (by simpa using this)
  have highA : ∀ j x, k ≤ j → j < na → (arrOf st)[sa + j]? = some x → le κ y0 x := fun j x hj hj' e => by
    have := G.hi j hj hj'
    rw [KK_at e] at this
    exact le_of_lt (by simpa using this)
  have hkn := G.le
  show wpS _ _ _ _ (if (na - k == 0) = true then _ else _) _ _
  by_cases c1 : (na - k == 0) = true
  · rw [if_pos c1]
    have c1' : na - k = 0 := by simpa using c1
    refine wpS_pure (plain fun x hx y hy => ?_)
    obtain ⟨j, hj, e⟩ := memA x hx
    exact (lowA j x (by omega) e).trans (y0le y hy)
  rw [if_neg c1]
  have c1' : ¬ na - k = 0 := by simpa using c1
  obtain ⟨z, ez, hz'⟩ := al.at (show sa + k + (na - k) - 1 < (arrOf st).size by omega)
  have ez' : (arrOf st)[sa + (na - 1)]? = some z := by rw [show sa + (na - 1) = sa + k + (na - k) - 1 by omega]; exact ez
  refine wpS_bind (w_elem ez ?_)
  have zge : ∀ x ∈ seg (arrOf st) sa na, le κ x z := fun x hx => by
    obtain ⟨j, hj, e⟩ := memA x hx
    exact upA (show j ≤ na - 1 by omega) (by omega) e ez'
  refine wpS_bind (w_gal (κ := κ) (fun j => κ.blt (KK κ (arrOf st) (sa + na + j)) (kk κ z)) C (ka.trans hk) hz' (fun j hj => al.at (by omega)) (fun j hj => rfl) (fun u v huv hv e => ?_) (show nb - 1 < nb by omega) fun m G2 => ?_)
  · exact KeyOrd.klt_of_kle_of_klt (ub u v huv hv) e
  have lowB : ∀ j y, j < m → (arrOf st)[sa + na + j]? = some y → le κ y z := fun j y hj e => by
    have := G2.lo j hj
    rw [KK_at e] at this
    exact le_of_lt this
  have highB : ∀ j y, m ≤ j → j < nb → (arrOf st)[sa + na + j]? = some y → le κ z y := fun j y hj hj' e => by
    have := G2.hi j hj hj'
    rw [KK_at e] at this
    exact le_of_not this
  have hmn := G2.le
  show wpS _ _ _ _ (if (m == 0) = true then _ else _) _ _
  by_cases c2 : (m == 0) = true
  · rw [if_pos c2]
    have c2' : m = 0 := by simpa using c2
    refine wpS_pure (plain fun x hx y hy => ?_)
    obtain ⟨j, hj, e⟩ := memB y hy
    exact (zge x hx).trans (highB j y (by omega) hj e)
  rw [if_neg c2]
  have c2' : ¬ m = 0 := by simpa using c2
  have eX : ((arrOf st).extract (sa + k) (sa + na)).toList = seg (arrOf st) (sa + k) (na - k) := by
    rw [← seg_ext, show sa + k + (na - k) = sa + na by omega]
  have eY : ((arrOf st).extract (sa + na) (sa + na + m)).toList = seg (arrOf st) (sa + na) m := seg_ext
  have zX : ((arrOf st).extract (sa + k) (sa + na)).size = na - k := by simp; omega
  have zY : ((arrOf st).extract (sa + na) (sa + na + m)).size = m := by simp; omega
  have splA : seg (arrOf st) sa na = seg (arrOf st) sa k ++ seg (arrOf st) (sa + k) (na - k) := by rw [← seg_split, show k + (na - k) = na by omega]
  have splB : seg (arrOf st) (sa + na) nb = seg (arrOf st) (sa + na) m ++ seg (arrOf st) (sa + na + m) (nb - m) := by rw [← seg_split, show m + (nb - m) = nb by omega]
  have SX : Srt κ (seg (arrOf st) (sa + k) (na - k)) := by rw [splA] at SA; exact (List.pairwise_append.mp SA).2.1
  have SY : Srt κ (seg (arrOf st) (sa + na) m) := by rw [splB] at SB; exact (List.pairwise_append.mp SB).1
  have memX : ∀ x ∈ seg (arrOf st) (sa + k) (na - k), ∃ j, k ≤ j ∧ j < na ∧ (arrOf st)[sa + j]? = some x := fun x hx => by
    obtain ⟨j, hj, rfl⟩ := List.mem_iff_getElem.mp hx
    have hj' : j < na - k := by rw [seg_len (by omega)] at hj; exact hj
    exact ⟨k + j, by omega, by omega, by rw [← Nat.add_assoc, ← seg_at hj']; simp⟩
  have memY : ∀ x ∈ seg (arrOf st) (sa + na) m, ∃ j, j < m ∧ (arrOf st)[sa + na + j]? = some x := fun x hx => by
    obtain ⟨j, hj, rfl⟩ := List.mem_iff_getElem.mp hx
    have hj' : j < m := by rw [seg_len (by omega)] at hj; exact hj
    exact ⟨j, hj', by rw [← seg_at hj']; simp⟩
  have hX : ∀ x ∈ ((arrOf st).extract (sa + k) (sa + na)).toList, Has κ x := fun x hx => by
    rw [eX] at hx
    obtain ⟨j, _, _, e⟩ := memX x hx
    exact al x (List.mem_of_getElem? (i := sa + j) (by simpa using e))
  have hY : ∀ x ∈ ((arrOf st).extract (sa + na) (sa + na + m)).toList, Has κ x := fun x hx => by
    rw [eY] at hx
    obtain ⟨j, _, e⟩ := memY x hx
    exact al x (List.mem_of_getElem? (i := sa + na + j) (by simpa using e))
  have at0 : ∀ v, ((arrOf st).extract (sa + na) (sa + na + m))[0]? = some v → v = y0 := fun v e => by
    have e' : (((arrOf st).extract (sa + na) (sa + na + m)).toList)[0]? = some v := by rw [Array.getElem?_toList]; exact e
    rw [eY, seg_at (by omega)] at e'
    rw [Nat.add_zero, ey0] at e'
    exact (Option.some.inj e').symm
  have atL : ∀ v, ((arrOf st).extract (sa + k) (sa + na))[((arrOf st).extract (sa + k) (sa + na)).size - 1]? = some v → v = z := fun v e => by
    rw [zX] at e
    have e' : (((arrOf st).extract (sa + k) (sa + na)).toList)[na - k - 1]? = some v := by rw [Array.getElem?_toList]; exact e
    rw [eX, seg_at (by omega), show sa + k + (na - k - 1) = sa + (na - 1) by omega, ez'] at e'
    exact (Option.some.inj e').symm
  have hl : ∀ v, ((arrOf st).extract (sa + k) (sa + na))[((arrOf st).extract (sa + k) (sa + na)).size - 1]? = some v → ∀ y ∈ ((arrOf st).extract (sa + na) (sa + na + m)).toList, le κ y v := fun v e y hy => by
    rw [atL v e]
    rw [eY] at hy
    obtain ⟨j, hj, e⟩ := memY y hy
    exact lowB j y hj e
  have hf : ∀ v, ((arrOf st).extract (sa + na) (sa + na + m))[0]? = some v → ∀ x ∈ ((arrOf st).extract (sa + k) (sa + na)).toList, le κ v x := fun v e x hx => by
    rw [at0 v e]
    rw [eX] at hx
    obtain ⟨j, hj, hj', e⟩ := memX x hx
    exact highA j x hj hj' e
  have fin : ∀ (r : Array Keyed) (st2 : SortSt), Like st1 st2 → Fn κ ((arrOf st).extract (sa + k) (sa + na)) ((arrOf st).extract (sa + na) (sa + na + m)) r →
      wpS (model prog w) A E s (modify (fun s : SortSt => SortSt.mk' (kindOf s) (r.toList.zipIdx.foldl (fun a x => match x with | (p, j) => a.setIfInBounds (sa + k + j) p) (arrOf s)) (pendingOf s) (gallopOf s) (failedOf s)) >>= fun _ => (get : StateT SortSt Sem SortSt) >>= fun s => pure (failedOf s).isNone) Q st2 := fun r st2 L F => by
    have ar2 : arrOf st2 = arrOf st := L.ar.trans aa
    have fl2 : failedOf st2 = none := L.fl.trans (fa.trans hfl)
    have pr : r.toList.Perm (seg (arrOf st) (sa + k) (na - k) ++ seg (arrOf st) (sa + na) m) := by
      have := F.perm
      rw [eX, eY] at this; exact this
    have lr : r.toList.length = na - k + m := by
      have := pr.length_eq
      rw [List.length_append, seg_len (by omega), seg_len (by omega)] at this; exact this
    have sp := splice r.toList (arrOf st2) (sa + k) 0 (by rw [ar2]; omega)
    rw [ar2, Nat.add_zero, lr] at sp
    have mid : seg (arrOf st) (sa + k) (na - k + m) = seg (arrOf st) (sa + k) (na - k) ++ seg (arrOf st) (sa + na) m := by
      rw [seg_split, show sa + k + (na - k) = sa + na by omega]
    have parts := list_parts (arr := arrOf st) (sa + k) (na - k + m)
    refine wpS_bind (wpS_modify (wpS_bind (wpS_get ?_)))
    have e3 : (failedOf st2).isNone = true := by rw [fl2]; rfl
    show wpS _ _ _ _ (pure (failedOf st2).isNone) _ _
    rw [e3, ar2]
    generalize hR : (r.toList.zipIdx.foldl (fun a x => match x with | (p, j) => a.setIfInBounds (sa + k + j) p) (arrOf st)) = R at sp
    refine wpS_pure (h _ (L.kd.trans ka) fl2 (L.pn.trans pa) ?_ ?_ ?_)
    · show R.Perm (arrOf st)
      apply Array.perm_iff_toList_perm.mpr
      rw [sp]
      refine List.Perm.trans ?_ (List.Perm.of_eq parts.symm)
      rw [List.append_assoc, mid]
      exact List.Perm.append_left _ (List.Perm.append_right _ pr)
    · intro t ht
      show R[t]? = _
      have e5 : R[t]? = R.toList[t]? := by simp
      have e6 : (arrOf st)[t]? = (arrOf st).toList[t]? := by simp
      have hlt : ((arrOf st).toList.take (sa + k)).length = sa + k := by rw [List.length_take]; simp; omega
      rw [e5, e6, sp]
      rcases ht with ht | ht
      · rw [List.append_assoc, List.getElem?_append_left (by omega), List.getElem?_take_of_lt (by omega)]
      · rw [List.getElem?_append_right (by rw [List.length_append, hlt, lr]; omega), List.length_append, hlt, lr, List.getElem?_drop]
        congr 1; omega
    · have hRz : R.size = (arrOf st).size := by
        rw [← hR]
        have := congrArg List.length sp
        rw [hR]
        simp only [List.length_append, List.length_take, List.length_drop, lr, Array.length_toList] at this
        omega
      refine (up_srt (st := SortSt.mk' (kindOf st2) R (pendingOf st2) (gallopOf st2) (failedOf st2)) (by show sa + (na + nb) ≤ R.size; omega)).mpr ?_
      show Srt κ (seg R sa (na + nb))
      have e7 : seg R sa (na + nb) = seg (arrOf st) sa k ++ (r.toList ++ seg (arrOf st) (sa + na + m) (nb - m)) := by
        unfold seg
        rw [sp]
        have hlt : ((arrOf st).toList.take sa).length = sa := by rw [List.length_take]; simp; omega
        have e8 : (arrOf st).toList.take (sa + k) = (arrOf st).toList.take sa ++ ((arrOf st).toList.drop sa).take k := by rw [List.take_add]
        rw [e8, List.append_assoc, List.append_assoc, List.drop_append_of_le_length (by omega), List.drop_eq_nil_of_le (by omega), List.nil_append]
        have l1 : (((arrOf st).toList.drop sa).take k).length = k := by rw [List.length_take, List.length_drop]; simp; omega
        rw [take_two _ _ _ _ (by rw [l1, lr]; omega), l1, lr]
        rw [show na + nb - k - (na - k + m) = nb - m by omega, show sa + k + (na - k + m) = sa + na + m by omega]
      rw [e7]
      have rm : ∀ x ∈ r.toList, x ∈ seg (arrOf st) (sa + k) (na - k) ∨ x ∈ seg (arrOf st) (sa + na) m := fun x hx => List.mem_append.mp (pr.mem_iff.mp hx)
      have tailM : ∀ y ∈ seg (arrOf st) (sa + na + m) (nb - m), ∃ j, m ≤ j ∧ j < nb ∧ (arrOf st)[sa + na + j]? = some y := fun y hy => by
        obtain ⟨j, hj, rfl⟩ := List.mem_iff_getElem.mp hy
        have hj' : j < nb - m := by rw [seg_len (by omega)] at hj; exact hj
        exact ⟨m + j, by omega, by omega, by rw [← Nat.add_assoc, ← seg_at hj']; simp⟩
      have headM : ∀ y ∈ seg (arrOf st) sa k, ∃ j, j < k ∧ (arrOf st)[sa + j]? = some y := fun y hy => by
        obtain ⟨j, hj, rfl⟩ := List.mem_iff_getElem.mp hy
        have hj' : j < k := by rw [seg_len (by omega)] at hj; exact hj
        exact ⟨j, hj', by rw [← seg_at hj']; simp⟩
      refine List.pairwise_append.mpr ⟨by rw [splA] at SA; exact (List.pairwise_append.mp SA).1, List.pairwise_append.mpr ⟨F.srt, by rw [splB] at SB; exact (List.pairwise_append.mp SB).2.1, fun x hx y hy => ?_⟩, fun x hx y hy => ?_⟩
      · obtain ⟨j, hj, hj', e⟩ := tailM y hy
        rcases rm x hx with q | q
        · obtain ⟨j2, _, hj2, e2⟩ := memX x q
          exact (zge x (inA j2 x hj2 e2)).trans (highB j y hj hj' e)
        · obtain ⟨j2, hj2, e2⟩ := memY x q
          exact upB (show j2 ≤ j by omega) hj' e2 e
      · obtain ⟨j, hj, e⟩ := headM x hx
        rcases List.mem_append.mp hy with q | q
        · rcases rm y q with q | q
          · obtain ⟨j2, h3, hj2, e2⟩ := memX y q
            exact upA (show j ≤ j2 by omega) hj2 e e2
          · obtain ⟨j2, hj2, e2⟩ := memY y q
            exact (lowA j x hj e).trans (y0le y (inB j2 y (by omega) e2))
        · obtain ⟨j2, _, hj2, e2⟩ := tailM y q
          exact (lowA j x hj e).trans (y0le y (inB j2 y hj2 e2))
  show wpS _ _ _ _ (if na - k ≤ m then _ else _) _ _
  have h0 : ∀ x y, ((arrOf st).extract (sa + k) (sa + na))[0]? = some x → ((arrOf st).extract (sa + na) (sa + na + m))[0]? = some y → le κ y x := fun x y e e' => hf y e' x (List.mem_of_getElem? (i := 0) (by rw [Array.getElem?_toList]; exact e))
  by_cases c3 : na - k ≤ m
  · rw [if_pos c3]
    exact wpS_bind (w_mLo C (ka.trans hk) hX hY (by rw [eX]; exact SX) (by rw [eY]; exact SY) (by rw [zX]; omega) (by rw [zY]; omega) h0 hl fin)
  · rw [if_neg c3]
    exact wpS_bind (w_mHi C (ka.trans hk) hX hY (by rw [eX]; exact SX) (by rw [eY]; exact SY) (by rw [zX]; omega) (by rw [zY]; omega) hf hl fin)
end
end Tim
set_option Elab.async false
set_option linter.all false
set_option maxRecDepth 100000
set_option maxHeartbeats 4000000
namespace Tim
open PySem PyProof.Rows
def Ch : List (Nat × Nat × Nat) → Nat → Nat → Prop
  | [], s, e => s = e
  | (a, n, _) :: r, s, e => a = s ∧ 1 ≤ n ∧ Ch r (s + n) e
theorem Ch.app {P Q : List (Nat × Nat × Nat)} : ∀ {s e : Nat}, Ch (P ++ Q) s e ↔ ∃ m, Ch P s m ∧ Ch Q m e := by
  induction P with
  | nil => intro s e; exact ⟨fun h => ⟨s, rfl, h⟩, fun ⟨m, h1, h2⟩ => by have h1 : s = m := h1; rw [h1]; exact h2⟩
  | cons x P ih =>
    obtain ⟨a, n, q⟩ := x
    intro s e
    constructor
    · rintro ⟨h1, h2, h3⟩
      obtain ⟨m, k1, k2⟩ := ih.mp h3
      exact ⟨m, ⟨h1, h2, k1⟩, k2⟩
    · rintro ⟨m, ⟨h1, h2, h3⟩, h4⟩
      exact ⟨h1, h2, ih.mpr ⟨m, h3, h4⟩⟩
theorem Ch.bnd : ∀ {P : List (Nat × Nat × Nat)} {s e : Nat}, Ch P s e → s + P.length ≤ e ∧ ∀ q ∈ P, s ≤ q.1 ∧ q.1 + q.2.1 ≤ e ∧ 1 ≤ q.2.1
  | [], s, e, h => by
    have h : s = e := h
    exact ⟨by simp [h], fun q hq => by simp at hq⟩
  | (a, n, t) :: r, s, e, h => by
    obtain ⟨h1, h2, h3⟩ := h
    obtain ⟨k1, k2⟩ := Ch.bnd h3
    refine ⟨by rw [List.length_cons]; omega, fun q hq => ?_⟩
    rcases List.mem_cons.mp hq with z | z
    · subst z
      exact ⟨by show s ≤ a; omega, by show a + n ≤ e; omega, h2⟩
    · have := k2 q z
      exact ⟨by omega, this.2⟩
theorem set_erase {α : Type} (P : List α) (x y v : α) (T : List α) : ((P ++ x :: y :: T).set P.length v).eraseIdx (P.length + 1) = P ++ v :: T := by
  induction P with
  | nil => rfl
  | cons p P ih =>
    show p :: ((P ++ x :: y :: T).set P.length v).eraseIdx (P.length + 1) = p :: (P ++ v :: T)
    rw [ih]
theorem two_at {α : Type} : ∀ {L : List α} {i : Nat}, i + 1 < L.length → ∃ P x y T, L = P ++ x :: y :: T ∧ P.length = i
  | [], i, h => by simp at h
  | [_], i, h => by simp at h
  | a :: b :: L, 0, _ => ⟨[], a, b, L, rfl, rfl⟩
  | a :: b :: L, i + 1, h => by
    obtain ⟨P, x, y, T, e, l⟩ := two_at (L := b :: L) (i := i) (by simp at h ⊢; omega)
    exact ⟨a :: P, x, y, T, by rw [e]; rfl, by simp [l]⟩
section
variable {prog : Program} {w : World} {A : Around} {E : Value → Shared → Prop} {s : Shared} {kd : SortKind} {κ : KeyKind} {a₀ : Array Keyed}
structure Rn (κ : KeyKind) (kd : SortKind) (a₀ : Array Keyed) (lo : Nat) (st : SortSt) : Prop where
  kd : kindOf st = kd
  fl : failedOf st = none
  perm : (arrOf st).Perm a₀
  ch : Ch (pendingOf st).toList 0 lo
  up : ∀ q ∈ (pendingOf st).toList, Up κ st q.1 q.2.1
theorem Rn.all {lo : Nat} {st : SortSt} (R : Rn κ kd a₀ lo st) (h : ∀ x ∈ a₀.toList, Has κ x) : All κ st := fun x hx => h x ((Array.perm_iff_toList_perm.mp R.perm).mem_iff.mp hx)
theorem Up.eq {st st' : SortSt} {lo n : Nat} (h : Up κ st lo n) (e : ∀ k, lo ≤ k → k < lo + n → (arrOf st')[k]? = (arrOf st)[k]?) : Up κ st' lo n := fun i j h1 h2 => by
  rw [KK_congr (e (lo + i) (by omega) (by omega)), KK_congr (e (lo + j) (by omega) (by omega))]
  exact h i j h1 h2
theorem w_merge {st : SortSt} {lo i : Nat} {Q : Bool → SortSt → Prop} (C : CmpOk prog w A s kd κ) (ha : ∀ x ∈ a₀.toList, Has κ x) (R : Rn κ kd a₀ lo st) (hl : lo ≤ a₀.size) (hi : i + 1 < (pendingOf st).size)
    (h : ∀ st', Rn κ kd a₀ lo st' → (pendingOf st').size + 1 = (pendingOf st).size → (∀ k, lo ≤ k → (arrOf st')[k]? = (arrOf st)[k]?) → Q true st') : wpS (model prog w) A E s (mergeAt' i) Q st := by
  obtain ⟨P, x, y, T, e, l⟩ := two_at (L := (pendingOf st).toList) (i := i) (by simpa using hi)
  obtain ⟨sa, na, pw⟩ := x
  obtain ⟨sb, nb, pw2⟩ := y
  have hz : (arrOf st).size = a₀.size := R.perm.size_eq
  have ch := R.ch
  rw [e] at ch
  obtain ⟨m, c1, c2⟩ := Ch.app.mp ch
  obtain ⟨d1, d2, d3, d4, d5⟩ := c2
  subst d1
  subst d3
  have b1 := c1.bnd
  have b2 := d5.bnd
  have up1 := R.up (sa, na, pw) (by rw [e]; simp)
  have up2 := R.up (sa + na, nb, pw2) (by rw [e]; simp)
  have e1 : (pendingOf st)[i]? = some (sa, na, pw) := by
    rw [← Array.getElem?_toList, e, ← l]; simp
  have e2 : (pendingOf st)[i + 1]? = some (sa + na, nb, pw2) := by
    rw [← Array.getElem?_toList, e, ← l, List.getElem?_append_right (by omega)]; simp
  have hle : sa + na + nb ≤ lo := by have := b2.1; omega
  refine w_mergeAt C R.kd (R.all ha) e1 e2 d2 d4 (by omega) up1 up2 R.fl fun st' k1 k2 k3 k4 k5 k6 => ?_
  have ep : (pendingOf st').toList = P ++ (sa, na + nb, pw) :: T := by
    have hb : i + 1 < ((pendingOf st).setIfInBounds i (sa, na + nb, pw)).size := by rw [Array.size_setIfInBounds]; exact hi
    rw [k3, Array.eraseIdxIfInBounds, dif_pos hb, Array.toList_eraseIdx, Array.toList_setIfInBounds, e, ← l]
    exact set_erase P _ _ _ T
  refine h st' ⟨k1.trans R.kd, k2, k4.trans R.perm, ?_, fun q hq => ?_⟩ ?_ fun k hk => k5 k (.inr (by omega))
  · rw [ep]
    refine Ch.app.mpr ⟨sa, c1, rfl, by omega, ?_⟩
    rw [show sa + (na + nb) = sa + na + nb by omega]; exact d5
  · rw [ep] at hq
    rcases List.mem_append.mp hq with z | z
    · have := b1.2 q z
      exact (R.up q (by rw [e]; exact List.mem_append_left _ z)).eq fun k _ hk => k5 k (.inl (by omega))
    · rcases List.mem_cons.mp z with z | z
      · subst z; exact k6
      · have := b2.2 q z
        exact (R.up q (by rw [e]; simp [z])).eq fun k hk _ => k5 k (.inr (by omega))
  · have h1 := congrArg List.length ep
    have h2 := congrArg List.length e
    simp at h1 h2
    omega
theorem ch_map {f : Nat × Nat × Nat → Nat × Nat × Nat} (hf : ∀ q, (f q).1 = q.1 ∧ (f q).2.1 = q.2.1) : ∀ {L L' : List (Nat × Nat × Nat)} {s e : Nat}, L'.map (fun q => (q.1, q.2.1)) = L.map (fun q => (q.1, q.2.1)) → Ch L s e → Ch L' s e
  | [], [], _, _, _, h => h
  | [], _ :: _, _, _, h, _ => by simp at h
  | _ :: _, [], _, _, h, _ => by simp at h
  | (a, n, t) :: r, (b, m, u) :: r', s, e, h, c => by
    simp at h
    obtain ⟨⟨h1, h2⟩, h3⟩ := h
    obtain ⟨c1, c2, c3⟩ := c
    subst h1
    subst h2
    exact ⟨c1, c2, ch_map hf (by simpa using h3) c3⟩
theorem mod_map {f : Nat × Nat × Nat → Nat × Nat × Nat} (hf : ∀ q, (f q).1 = q.1 ∧ (f q).2.1 = q.2.1) (p : Array (Nat × Nat × Nat)) (i : Nat) : (p.modify i f).toList.map (fun q => (q.1, q.2.1)) = p.toList.map (fun q => (q.1, q.2.1)) := by
  apply List.ext_getElem?
  intro k
  rw [List.getElem?_map, List.getElem?_map, Array.getElem?_toList, Array.getElem?_toList, Array.getElem?_modify]
  split
  · cases h : p[k]? with
    | none => rfl
    | some q =>
      have := hf q
      simp [this.1, this.2]
  · rfl
theorem Rn.modify {lo : Nat} {st : SortSt} (R : Rn κ kd a₀ lo st) {f : Nat × Nat × Nat → Nat × Nat × Nat} (hf : ∀ q, (f q).1 = q.1 ∧ (f q).2.1 = q.2.1) (i : Nat) : Rn κ kd a₀ lo (setPending st ((pendingOf st).modify i f)) := by
  have e := mod_map hf (pendingOf st) i
  refine ⟨R.kd, R.fl, R.perm, ch_map hf e R.ch, fun q hq => ?_⟩
  have hm : (q.1, q.2.1) ∈ (pendingOf st).toList.map (fun q => (q.1, q.2.1)) := by
    rw [← e]; exact List.mem_map.mpr ⟨q, hq, rfl⟩
  obtain ⟨q', hq', e'⟩ := List.mem_map.mp hm
  have u := R.up q' hq'
  injection e' with e1 e2
  rw [e1, e2] at u
  exact u
theorem ite_less (c : Prop) [Decidable c] (a : Nat) : (if c then a - 1 else a) ≤ a := by split <;> omega
theorem w_sort {st : SortSt} {Q : Unit → SortSt → Prop} (C : CmpOk prog w A s kd κ) (ha : ∀ x ∈ a₀.toList, Has κ x) (hk : kindOf st = kd) (hf : failedOf st = none) (hp : (arrOf st).Perm a₀) (hpn : pendingOf st = #[]) (h1 : 1 ≤ a₀.size)
    (h : ∀ st', failedOf st' = none → (arrOf st').Perm a₀ → Srt κ (arrOf st').toList → Q () st') : wpS (model prog w) A E s sortRuns' Q st := by
  have hz0 : (arrOf st).size = a₀.size := hp.size_eq
  have hz0p : (arrOf st).size = a₀.size := hz0
  unfold arrOf at hz0p
  refine wpS_bind (wpS_get ?_)
  have R0 : Rn κ kd a₀ 0 st := ⟨hk, hf, hp, by rw [hpn]; rfl, fun q hq => by rw [hpn] at hq; simp at hq⟩
  refine wpS_bind (wpS_mono (wpS_forRange (I := fun x c st' => ∃ lo, c = (none, lo) ∧ Rn κ kd a₀ lo st' ∧ lo ≤ a₀.size ∧ (x ≤ lo ∨ lo = a₀.size)) (Q := fun c st' => ∃ lo, c = (none, lo) ∧ Rn κ kd a₀ a₀.size st') ?step ?fin ⟨0, rfl, R0, by omega, .inl (by omega)⟩) ?post)
  case fin =>
    rintro c st' ⟨lo, rfl, R, l1, l2⟩
    have : lo = a₀.size := by
      have : max 0 (arrOf st).size = a₀.size := by omega
      rcases l2 with z | z
      · omega
      · exact z
    subst this
    exact ⟨_, rfl, R⟩
  case step =>
    rintro x c st1 _ hx ⟨lo, rfl, R, l1, l2⟩
    show wpS _ _ _ _ (if lo ≥ (arrOf st).size then _ else _) _ _
    by_cases g : lo ≥ (arrOf st).size
    · rw [if_pos g]
      have : lo = a₀.size := by omega
      subst this
      exact wpS_pure ⟨_, rfl, R⟩
    rw [if_neg g]
    have hz1 : (arrOf st1).size = a₀.size := R.perm.size_eq
    refine wpS_bind (w_count C R.kd (R.all ha) (by rw [hz0, hz1]; omega) (by omega) fun m st2 f2 m1 m2 u2 => ?_)
    have keepR : ∀ {st' : SortSt}, Fr lo st1 st' → Rn κ kd a₀ lo st' := fun {st'} f => by
      refine ⟨f.kd.trans R.kd, f.fl.trans R.fl, f.perm.trans R.perm, by rw [f.pn]; exact R.ch, fun q hq => ?_⟩
      rw [f.pn] at hq
      have := R.ch.bnd.2 q hq
      exact (R.up q hq).eq fun k _ hk => f.low k (by omega)
    have push : ∀ {n : Nat} {st4 : SortSt}, 1 ≤ n → lo + n ≤ a₀.size → Rn κ kd a₀ lo st4 → Up κ st4 lo n → Rn κ kd a₀ (lo + n) (setPending st4 ((pendingOf st4).push (lo, n, 0))) := fun {n st4} n1 n2 R4 u4 => by
      refine ⟨R4.kd, R4.fl, R4.perm, ?_, fun q hq => ?_⟩
      · show Ch ((pendingOf st4).push (lo, n, 0)).toList 0 (lo + n)
        rw [Array.toList_push]
        exact Ch.app.mpr ⟨lo, R4.ch, rfl, n1, rfl⟩
      · have hq : q ∈ ((pendingOf st4).push (lo, n, 0)).toList := hq
        rw [Array.toList_push] at hq
        rcases List.mem_append.mp hq with z | z
        · exact R4.up q z
        · have : q = (lo, n, 0) := by simpa using z
          subst this; exact u4
    have loop : ∀ (n : Nat) (st3 : SortSt) (pw : Nat), Rn κ kd a₀ lo st3 → Up κ st3 lo n → ∀ (y : Nat) (R : ForInStep (Option Unit × Unit) → SortSt → Prop), (∀ st', Rn κ kd a₀ lo st' → Up κ st' lo n → R (.done (none, ())) st' ∧ R (.yield (none, ())) st') →
        wpS (model prog w) A E s ((get : StateT SortSt Sem SortSt) >>= fun v => match (if (pendingOf v).size > 1 then (pendingOf v)[(pendingOf v).size - 2]? else none) with
              | some (_, _, older) => (if older ≤ pw then pure (ForInStep.done (none, ())) else (mergeAt' ((pendingOf v).size - 2) >>= fun b => if (!b) = true then pure (ForInStep.done (some (), ())) else pure (ForInStep.yield (none, ()))))
              | _ => pure (ForInStep.done (none, ()))) R st3 := by
      intro n st4 pw R4 u4 y Rr hR
      refine wpS_bind (wpS_get ?_)
      by_cases c1 : (pendingOf st4).size > 1
      · rw [if_pos c1]
        rcases ho : (pendingOf st4)[(pendingOf st4).size - 2]? with _ | ⟨o1, o2, o3⟩
        · exact wpS_pure (hR st4 R4 u4).1
        · show wpS _ _ _ _ (if o3 ≤ pw then _ else _) _ _
          by_cases c2 : o3 ≤ pw
          · rw [if_pos c2]
            exact wpS_pure (hR st4 R4 u4).1
          · rw [if_neg c2]
            refine wpS_bind (w_merge C ha R4 l1 (by omega) fun st5 R5 _ k5 => ?_)
            show wpS _ _ _ _ (if false = true then _ else _) _ _
            rw [if_neg (by decide)]
            exact wpS_pure (hR st5 R5 (u4.eq fun k hk _ => k5 k hk)).2
      · rw [if_neg c1]
        exact wpS_pure (hR st4 R4 u4).1
    have ends : ∀ {n : Nat} {st5 : SortSt}, 1 ≤ n → Rn κ kd a₀ (lo + n) st5 → lo + n ≤ a₀.size → ∃ l, ((none, lo + n) : Option Unit × Nat) = (none, l) ∧ Rn κ kd a₀ l st5 ∧ l ≤ a₀.size ∧ (x + 1 ≤ l ∨ l = a₀.size) := fun {n st5} n1 R5 n2 => ⟨_, rfl, R5, n2, .inl (by omega)⟩
    by_cases c1 : m < minRun' (arrOf st).size (arrOf st).size 0
    · refine (show wpS _ _ _ _ (if m < minRun' (arrOf st).size (arrOf st).size 0 then _ else _) _ _ from ?_)
      rw [if_pos c1]
      refine wpS_bind (wpS_lift (wpAny_rule ⟨rfl, ?_⟩))
      have hmin : ∃ n, n = min ((arrOf st).size - lo) (minRun' (arrOf st).size (arrOf st).size 0) := ⟨_, rfl⟩
      obtain ⟨n, hn⟩ := hmin
      refine wpS_bind (w_ins (n := min ((arrOf st).size - lo) (minRun' (arrOf st).size (arrOf st).size 0)) C (f2.kd.trans R.kd) ((R.all ha).fr f2) (by rw [f2.size, hz1]; omega) (by omega) m1 u2 fun st3 f3 u3 => ?_)
      show wpS _ _ _ _ (if false = true then _ else _) _ _
      rw [if_neg (by decide)]
      have R3 := keepR (f2.trans f3)
      have n1 : 1 ≤ min ((arrOf st).size - lo) (minRun' (arrOf st).size (arrOf st).size 0) := by omega
      have n2 : lo + min ((arrOf st).size - lo) (minRun' (arrOf st).size (arrOf st).size 0) ≤ a₀.size := by omega
      refine wpS_bind (wpS_get ?_)
      rcases hb : (pendingOf st3).back? with _ | ⟨s1, q1, t1⟩
      · exact wpS_bind (wpS_modify (wpS_pure (ends n1 (push n1 n2 R3 u3) n2)))
      · refine wpS_bind (wpS_mono (wpS_forRange (I := fun y c st' => c = (none, ()) ∧ Rn κ kd a₀ lo st' ∧ Up κ st' lo (min ((arrOf st).size - lo) (minRun' (arrOf st).size (arrOf st).size 0))) (Q := fun c st' => c = (none, ()) ∧ Rn κ kd a₀ lo st' ∧ Up κ st' lo (min ((arrOf st).size - lo) (minRun' (arrOf st).size (arrOf st).size 0))) ?s2 (fun c st' h => h) ⟨rfl, R3, u3⟩) ?p2)
        case p2 =>
          rintro c st4 ⟨rfl, R4, u4⟩
          exact wpS_bind (wpS_modify (wpS_bind (wpS_modify (wpS_pure (ends n1 (push n1 n2 (R4.modify (f := fun x => match x with | (t, len, _) => (t, len, power' (arrOf st).size (2 * s1 + q1) (2 * s1 + q1 + q1 + min ((arrOf st).size - lo) (minRun' (arrOf st).size (arrOf st).size 0)) (arrOf st).size)) (fun q => ⟨rfl, rfl⟩) ((pendingOf st4).size - 1)) u4) n2)))))
        case s2 =>
          rintro y c st4 _ hy ⟨rfl, R4, u4⟩
          exact loop _ st4 _ R4 u4 y _ fun st' R' u' => ⟨⟨rfl, R', u'⟩, ⟨rfl, R', u'⟩⟩
    · refine (show wpS _ _ _ _ (if m < minRun' (arrOf st).size (arrOf st).size 0 then _ else _) _ _ from ?_)
      rw [if_neg c1]
      have R3 := keepR f2
      have n2 : lo + m ≤ a₀.size := by omega
      refine wpS_bind (wpS_get ?_)
      rcases hb : (pendingOf st2).back? with _ | ⟨s1, q1, t1⟩
      · exact wpS_bind (wpS_modify (wpS_pure (ends m1 (push m1 n2 R3 u2) n2)))
      · refine wpS_bind (wpS_mono (wpS_forRange (I := fun y c st' => c = (none, ()) ∧ Rn κ kd a₀ lo st' ∧ Up κ st' lo m) (Q := fun c st' => c = (none, ()) ∧ Rn κ kd a₀ lo st' ∧ Up κ st' lo m) ?s2 (fun c st' h => h) ⟨rfl, R3, u2⟩) ?p2)
        case p2 =>
          rintro c st4 ⟨rfl, R4, u4⟩
          exact wpS_bind (wpS_modify (wpS_bind (wpS_modify (wpS_pure (ends m1 (push m1 n2 (R4.modify (f := fun x => match x with | (t, len, _) => (t, len, power' (arrOf st).size (2 * s1 + q1) (2 * s1 + q1 + q1 + m) (arrOf st).size)) (fun q => ⟨rfl, rfl⟩) ((pendingOf st4).size - 1)) u4) n2)))))
        case s2 =>
          rintro y c st4 _ hy ⟨rfl, R4, u4⟩
          exact loop _ st4 _ R4 u4 y _ fun st' R' u' => ⟨⟨rfl, R', u'⟩, ⟨rfl, R', u'⟩⟩
  case post =>
    rintro c st1 ⟨lo, rfl, R⟩
    refine wpS_bind (wpS_mono (wpS_forRange (I := fun x c st' => c = (none, ()) ∧ Rn κ kd a₀ a₀.size st' ∧ ((pendingOf st').size ≤ 1 ∨ (pendingOf st').size + x ≤ a₀.size)) (Q := fun c st' => c = (none, ()) ∧ Rn κ kd a₀ a₀.size st' ∧ (pendingOf st').size ≤ 1) ?s3 ?f3 ⟨rfl, R, .inr ?ini⟩) ?p3)
    case ini =>
      have := R.ch.bnd.1
      simp at this
      omega
    case f3 =>
      rintro c st' ⟨rfl, R', z⟩
      refine ⟨rfl, R', ?_⟩
      have : max 0 (arrOf st).size = a₀.size := by omega
      omega
    case p3 =>
      rintro c st' ⟨rfl, R', z⟩
      have hz' : (arrOf st').size = a₀.size := R'.perm.size_eq
      refine wpS_pure (h st' R'.fl R'.perm ?_)
      have ch := R'.ch
      cases e : (pendingOf st').toList with
      | nil =>
        rw [e] at ch
        have ch : 0 = a₀.size := ch
        omega
      | cons q r =>
        have hr : r = [] := by
          have := congrArg List.length e
          simp at this
          cases r with
          | nil => rfl
          | cons _ _ => simp at this; omega
        subst hr
        obtain ⟨a, n, t⟩ := q
        rw [e] at ch
        obtain ⟨e1, e2, e3⟩ := ch
        have e3 : 0 + n = a₀.size := e3
        subst e1
        have u := R'.up (0, n, t) (by rw [e]; simp)
        have sg := (up_srt (κ := κ) (st := st') (lo := 0) (n := n) (by omega)).mp u
        have eall : seg (arrOf st') 0 n = (arrOf st').toList := by
          unfold seg
          rw [List.drop_zero, List.take_of_length_le (by simp; omega)]
        rw [eall] at sg
        exact sg
    case s3 =>
      rintro y c st2 _ hy ⟨rfl, R2, z⟩
      refine wpS_bind (wpS_get ?_)
      show wpS _ _ _ _ (if (pendingOf st2).size ≤ 1 then _ else _) _ _
      by_cases c1 : (pendingOf st2).size ≤ 1
      · rw [if_pos c1]
        exact wpS_pure ⟨rfl, R2, c1⟩
      · rw [if_neg c1]
        have fin : ∀ i, i + 1 < (pendingOf st2).size → wpS (model prog w) A E s (mergeAt' i) (fun b st' => wpS (model prog w) A E s (if (!b) = true then pure (ForInStep.done (some (), ())) else pure (ForInStep.yield (none, ()))) (fun r st' => match r with
            | .done c' => c' = ((none, ()) : Option Unit × Unit) ∧ Rn κ kd a₀ a₀.size st' ∧ (pendingOf st').size ≤ 1
            | .yield c' => c' = ((none, ()) : Option Unit × Unit) ∧ Rn κ kd a₀ a₀.size st' ∧ ((pendingOf st').size ≤ 1 ∨ (pendingOf st').size + (y + 1) ≤ a₀.size)) st') st2 := fun i hi => by
          refine w_merge C ha R2 (Nat.le_refl _) hi fun st5 R5 k4 _ => ?_
          show wpS _ _ _ _ (if false = true then _ else _) _ _
          rw [if_neg (by decide)]
          exact wpS_pure ⟨rfl, R5, .inr (by omega)⟩
        refine wpS_bind (wpS_mono (fin _ ?_) fun b st' hb => wpS_mono hb fun r st' hr => ?_)
        · exact Nat.lt_of_le_of_lt (Nat.add_le_add_right (ite_less _ _) 1) (show (pendingOf st2).size - 2 + 1 < (pendingOf st2).size by omega)
        · cases r <;> exact hr
end
end Tim
set_option Elab.async false
set_option linter.all false
set_option maxRecDepth 100000
set_option maxHeartbeats 4000000
namespace ST
open PySem PySem.SetTable
end ST
set_option Elab.async false
set_option linter.all false
set_option maxRecDepth 100000
set_option maxHeartbeats 4000000
namespace ST
open PySem PySem.SetTable
section
variable {t : SetTable} {hs : List Int}
end
end ST
set_option Elab.async false
set_option linter.all false
set_option maxRecDepth 100000
set_option maxHeartbeats 4000000
namespace ST
open PySem PySem.SetTable
end ST
set_option Elab.async false
set_option linter.all false
set_option maxRecDepth 100000
set_option maxHeartbeats 4000000
namespace ST
open PySem PySem.SetTable
section
variable {prog : Program} {w : World} {K : Type} [DecidableEq K] {knd : KeyKind prog w K} {A : Around} {E : Value → Shared → Prop} {s : Shared}
end
end ST
set_option Elab.async false
set_option linter.all false
set_option maxRecDepth 100000
set_option maxHeartbeats 4000000
namespace ST
open PySem PySem.SetTable
section
variable {prog : Program} {w : World} {K : Type} [DecidableEq K] {knd : KeyKind prog w K} {A : Around} {E : Value → Shared → Prop} {s : Shared}
section
variable {a : Addr} {xs : List (List K × Addr)} {o : Obj} {es : Array (Int × Value)} {ep : Nat} {t : SetTable}
end
end
end ST
set_option Elab.async false
set_option linter.all false
set_option maxRecDepth 100000
set_option maxHeartbeats 4000000
namespace ST
open PySem PySem.SetTable
section
variable {prog : Program} {w : World} {K : Type} [DecidableEq K] {knd : KeyKind prog w K} {A : Around} {E : Value → Shared → Prop} {s : Shared}
variable {a : Addr} {xs : List (List K × Addr)} {o : Obj} {es : Array (Int × Value)} {ep : Nat} {t : SetTable}
end
end ST
set_option Elab.async false
set_option linter.all false
set_option maxRecDepth 100000
set_option maxHeartbeats 4000000
namespace ST
open PySem PySem.SetTable PyProof.Rows
section
variable {prog : Program} {w : World} {K : Type} [DecidableEq K] {knd : KeyKind prog w K} {A : Around} {E : Value → Shared → Prop} {s : Shared}
variable {a : Addr} {xs : List (List K × Addr)} {o : Obj} {es : Array (Int × Value)} {ep : Nat} {t : SetTable}
end
section
variable {prog : Program} {w : World} {K : Type} [DecidableEq K] {knd : KeyKind prog w K} {A : Around} {R : Result → Shared → Prop} {I : Addr} {fp wr : List Addr} {G : Array GenState → Array GenState → Prop} {P : Nat → Value → Prop} {St : Nat → Shared → Prop}
end
section
variable {prog : Program} {w : World} {K : Type} [DecidableEq K] {knd : KeyKind prog w K} {A : Around} {E : Value → Shared → Prop} {s : Shared}
end
end ST
set_option Elab.async false
set_option linter.all false
set_option maxRecDepth 100000
set_option maxHeartbeats 4000000
namespace ST
open PySem PySem.SetTable PyProof.Rows
section
variable {prog : Program} {w : World} {K : Type} [DecidableEq K] {knd : KeyKind prog w K} {A : Around} {E : Value → Shared → Prop}
end
end ST
set_option Elab.async false
set_option linter.all false
set_option maxRecDepth 100000
set_option maxHeartbeats 4000000
namespace ST
open PySem PySem.SetTable PyProof.Rows
section
variable {prog : Program} {w : World} {K : Type} [DecidableEq K] {knd : KeyKind prog w K} {A : Around} {E : Value → Shared → Prop} {s : Shared}
variable {a I : Addr} {xs : List (List K × Addr)} {o oI : Obj} {es : Array (Int × Value)} {ep i : Nat} {t : SetTable} {ord : List Value} {first : Value}
end
end ST
set_option Elab.async false
set_option linter.all false
set_option maxRecDepth 100000
set_option maxHeartbeats 4000000
namespace ST
open PySem PySem.SetTable PyProof.Rows
section
variable {prog : Program} {w : World} {K : Type} [DecidableEq K] {knd : KeyKind prog w K} {A : Around} {E : Value → Shared → Prop} {s : Shared}
variable {a I : Addr} {xs : List (List K × Addr)} {o oI : Obj} {es : Array (Int × Value)} {ep i : Nat} {t : SetTable} {ord : List Value} {first : Value}
end
end ST
set_option Elab.async false
set_option linter.all false
set_option maxRecDepth 100000
set_option maxHeartbeats 4000000
namespace ST
open PySem PyProof.Rows PySem.W
section
variable {prog : Program} {w : World} {A : Around} {E : Value → Shared → Prop} {s : Shared}
theorem strs_len {vs : List Value} {ss : List Str} (h : StrsAre vs ss) : vs.length = ss.length := by
  induction h with
  | nil => rfl
  | cons _ _ _ ih => simp [ih]
end
end ST
set_option Elab.async false
set_option linter.all false
set_option maxRecDepth 100000
set_option maxHeartbeats 4000000
namespace ST
open PySem PyProof.Rows PySem.W
theorem snd_perm {vs : List Value} {xs : Array Keyed} (hp : xs.Perm (pairsOf vs)) : (xs.map (·.2)).toList.Perm vs := by
  have hl : xs.toList.Perm (vs.zip vs) := by rw [← pairsOf_toList]; exact Array.perm_iff_toList_perm.mp hp
  have := hl.map (·.2)
  rw [List.map_snd_zip (Nat.le_refl _)] at this
  rwa [Array.toList_map]
section
variable {prog : Program} {w : World} {A : Around} {E : Value → Shared → Prop} {s : Shared}
structure Sortable (prog : Program) (w : World) (A : Around) (κ : PyProof.Rows.KeyKind) (kd : SortKind) (vs : List Value) (s : Shared) : Prop where
  cmp : Tim.CmpOk prog w A s kd κ
  kind : 2 ≤ vs.length → ∀ (E : Value → Shared → Prop) (Q : SortKind → Shared → Prop), Q kd s → wpAny (model prog w) A (keyKind' vs.toArray) Q E s
  has : ∀ v ∈ vs, ∃ k, κ.keyOf v = some k
theorem srt_heap {h : Heap} {a : Addr} {vs : List Value} {n : Nat} {out : Array Value} (ho : h.get? a = some (seqObj "list" vs.toArray n)) : (∃ c, (sortedHeap h a vs out).get? a = some (seqObj "list" out c)) ∧ ∀ b o, b ≠ a → h.get? b = some o → (sortedHeap h a vs out).get? b = some o := by
  have ha : a < h.objs.size := Heap.lt_size ho
  have h1 : (h.update a (Obj.mapSeq fun _ => #[])).get? a = some (seqObj "list" #[] _) := get?_update_seq ho fun _ => #[]
  have h2 := Heap.get?_push_of_some (seqObj "list" #[] 0) (Heap.get?_push_of_some (seqObj "tuple" vs.toArray 0) h1)
  refine ⟨⟨_, get?_update_seq h2 fun _ => out⟩, fun b o hb q => ?_⟩
  unfold sortedHeap
  rw [Heap.get?_update_other _ _ (Ne.symm hb)]
  refine Heap.get?_push_of_some _ (Heap.get?_push_of_some _ ?_)
  rw [Heap.get?_update_other _ _ (Ne.symm hb)]
  exact q
end
end ST
set_option Elab.async false
set_option linter.all false
set_option maxRecDepth 100000
set_option maxHeartbeats 4000000
namespace ST
open PySem PyProof.Rows PySem.W
section
variable {prog : Program} {w : World} {A : Around} {E : Value → Shared → Prop} {s : Shared}
abbrev Up (h h' : Heap) : Prop := ∀ b o, h.get? b = some o → h'.get? b = some o
end
section
variable {prog : Program} {w : World} {A : Around} {E : Value → Shared → Prop} {s : Shared}
end
end ST
set_option Elab.async false
set_option linter.all false
set_option maxRecDepth 100000
set_option maxHeartbeats 4000000
namespace L2
open PySem PySem.Spec PyProof.Rows
section
variable {X : Cx} {pins : List (Addr × Obj)} {σ : St} {H : Hp} {s : Shared}
end
end L2
set_option Elab.async false
set_option linter.all false
set_option maxRecDepth 100000
set_option maxHeartbeats 4000000
namespace ST
section
open PySem PyProof.Rows
variable {prog : Program} {w : World} {A : Around} {s : Shared}
theorem strs_sortable {vs : List Value} {ss : List Str} (h : StrsAre vs ss) : Sortable prog w A PyProof.Rows.strKind oneType' vs s := by
  refine ⟨fun E x y a b Q ha hb q => ?_, fun h2 E Q q => ?_, fun v hv => ?_⟩
  · rw [keyLt'_oneType]; exact strKind_oneLt prog w A E s x y a b ha hb q
  · match vs, h2, h with
    | v₁ :: v₂ :: r, _, h => rw [keyKind_strs h]; exact wpAny_pure q
  · obtain ⟨x, t, rfl⟩ := h.all v hv
    exact ⟨_, rfl⟩
end
end ST
namespace L2
open PySem PySem.Spec PyProof.Rows
section
variable {X : Cx} {pins : List (Addr × Obj)} {σ : St} {H : Hp} {s : Shared}
theorem strs_vals : ∀ {xs : List Str} {its : List Value}, StrsAre its xs → Vals (xs.map V.str) its
  | _, _, .nil => .nil
  | _, _, .cons y t r => .cons ⟨t, rfl⟩ (strs_vals r)
end
end L2
set_option Elab.async false
set_option linter.all false
set_option maxRecDepth 100000
set_option maxHeartbeats 4000000
namespace L2
open PySem PySem.Spec PyProof.Rows
section
variable {X : Cx}
end
end L2
set_option Elab.async false
set_option linter.all false
set_option maxRecDepth 100000
set_option maxHeartbeats 4000000
namespace L2
open PySem PySem.Spec PyProof.Rows
section
variable {X : Cx}
end
end L2
namespace L2
open PySem PySem.Spec PyProof.Rows
end L2
set_option Elab.async false
set_option linter.all false
set_option maxRecDepth 100000
set_option maxHeartbeats 4000000
namespace L2
open PySem PySem.Spec PyProof.Rows
theorem ints_of {ns : List Int} : ∀ {its : List Value}, Vals (ns.map V.int) its → ∃ xs : List (Int × Tok), its = (xs.map fun p => Value.int p.1 p.2) ∧ xs.map (·.1) = ns := by
  induction ns with
  | nil =>
    intro its r
    cases r
    exact ⟨[], rfl, rfl⟩
  | cons n ns ih =>
    intro its r
    cases r with
    | cons r1 r2 =>
      obtain ⟨t, rfl⟩ := r1
      obtain ⟨xs, rfl, e⟩ := ih r2
      exact ⟨(n, t) :: xs, rfl, by rw [List.map_cons, e]⟩
theorem numAt_of {xs : List (Int × Tok)} {i : Nat} (h : i < xs.length) : numAt xs.toArray i ∈ xs.map (·.1) ∧ (xs.map (·.1))[i]? = some (numAt xs.toArray i) := by
  have e : numAt xs.toArray i = (xs[i]).1 := by
    unfold numAt
    rw [List.getElem?_toArray, List.getElem?_eq_getElem h]; rfl
  rw [e]
  exact ⟨List.mem_map.mpr ⟨xs[i], List.getElem_mem h, rfl⟩, by rw [List.getElem?_map, List.getElem?_eq_getElem h]; rfl⟩
section
variable {X : Cx}
theorem call_min1 (hc : X.calm = true) : CallR X (.builtin "min") (fun xs H Q => ∃ (p : Addr) (ns : List Int), xs = [.ref p] ∧ SqL X.K H p (ns.map V.int) ∧ ns ≠ [] ∧ ∀ M, M ∈ ns → (∀ a ∈ ns, M ≤ a) → Q (.int M) H) := by
  intro pins s σ H xs us Q I rv h
  obtain ⟨p, ns, rfl, hq, hne, q⟩ := h
  obtain ⟨u, rfl, ru⟩ := rv.one
  cases ru
  obtain ⟨its, r, pl, hz⟩ := I.list hq
  obtain ⟨xs, rfl, e⟩ := ints_of r
  have hpos : 0 < xs.length := by
    have := List.length_pos_iff.mpr hne
    rw [← e, List.length_map] at this; exact this
  have hI : s.heap.IsList p (intItems xs.toArray) := by
    have := pl.isList
    rwa [show (xs.map fun p => Value.int p.1 p.2).toArray = intItems xs.toArray from by unfold intItems; simp] at this
  refine min_intList (I.ok.hd hc) hI (by simpa using hpos) fun v h' tk hv hk => ?_
  obtain ⟨t, rfl⟩ := intItems_at hv
  obtain ⟨b1, b2⟩ := argBest_lt (numAt xs.toArray) (xs.toArray.size - 1)
  rw [List.size_toArray] at b1 b2
  have hb : argBest (fun i j => decide (numAt xs.toArray i < numAt xs.toArray j)) (xs.length - 1) < xs.length := by omega
  refine ⟨.int _, H, I.kept (t' := tk) hk, ⟨t, rfl⟩, q _ ?_ fun a ha => ?_⟩
  · rw [← e, List.size_toArray]; exact (numAt_of hb).1
  · rw [← e] at ha
    obtain ⟨i, hi, rfl⟩ := List.mem_iff_getElem.mp ha
    rw [List.length_map] at hi
    have h1 := (numAt_of hi).2
    rw [List.getElem?_eq_getElem (by rw [List.length_map]; exact hi)] at h1
    rw [Option.some.inj h1, List.size_toArray]
    exact b2 i (by omega)
end
end L2
set_option Elab.async false
set_option linter.all false
set_option maxRecDepth 100000
set_option maxHeartbeats 4000000
namespace L2
open PySem PySem.Spec PyProof.Rows
section
variable {P : Program} {w : World} {A : Around} {E : Value → Shared → Prop} {s : Shared}
theorem enum_step {e it l : Addr} {c : Int} {i : Nat} {ys : Array Value} {x old : Value} {Q : Value → Shared → Prop} (he : IsEnum s.heap e it c old) (hi : s.heap.IsListIter it l i) (hl : s.heap.IsList l ys) (hx : ys[i]? = some x) (ne : e ≠ it)
    (q : ∀ k, IsEnumOut k e it (c + 1) x s.heap.objs.size → k.IsListIter it l (i + 1) → k.get? s.heap.objs.size = some { cls := .type "tuple", data := .seq #[.int c s.toks, x] } → k.objs.size = s.heap.objs.size + 1 →
      (∀ b o, b ≠ e → b ≠ it → s.heap.get? b = some o → k.get? b = some o) → Q (.ref s.heap.objs.size) { s with heap := k, toks := s.toks + 1 }) :
    wpAny (model P w) A (Builtin.«enumerate.__next__» ⟨[.ref e], []⟩) (fun r s' => ∃ v, r = .done (.ret v) ∧ Q v s') E s := by
  obtain ⟨h0, g, d, tk, os⟩ := s
  have esz : e < h0.objs.size := Heap.lt_size he
  show wpAny _ _ (field (Value.ref e) 2 >>= _) _ _ ⟨h0, g, d, tk, os⟩
  refine wpAny_bind (wpAny_field he rfl (x := Value.ref it) rfl ?_)
  refine wpAny_bind (wpAny_nextOf_list_item hi hl hx fun k1 i1 b1 => ?_)
  have b1 : Heap.SameBut it h0 k1 := b1
  have e1 : IsEnum k1 e it c old := (b1.2 e ne).trans he
  show wpAny _ _ (field (Value.ref e) 3 >>= _) _ _ ⟨k1, g, d, tk, os⟩
  refine wpAny_bind (wpAny_field (s := ⟨k1, g, d, tk, os⟩) e1 rfl (x := rawInt c) rfl ?_)
  show wpAny _ _ (field (Value.ref e) 4 >>= _) _ _ ⟨k1, g, d, tk, os⟩
  refine wpAny_bind (wpAny_field (s := ⟨k1, g, d, tk, os⟩) e1 rfl (x := Value.none) rfl ?_)
  show wpAny _ _ (mkInt c >>= _) _ _ ⟨k1, g, d, tk, os⟩
  refine wpAny_bind (wpAny_mkInt ?_)
  show wpAny _ _ (setField (Value.ref e) 3 (rawInt (c + 1)) >>= _) _ _ ⟨k1, g, d, tk + 1, os⟩
  refine wpAny_bind (wpAny_setField_rec (s := ⟨k1, g, d, tk + 1, os⟩) e1 (by simp) fun k2 e2 b2 => ?_)
  have b2 : Heap.SameBut e k1 k2 := b2
  have e2 : IsEnum k2 e it (c + 1) old := e2
  show wpAny _ _ (setField (Value.ref e) 4 Value.none >>= _) _ _ ⟨k2, g, d, tk + 1, os⟩
  refine wpAny_bind (wpAny_setField_rec (s := ⟨k2, g, d, tk + 1, os⟩) e2 (by simp) fun k3 e3 b3 => ?_)
  have b3 : Heap.SameBut e k2 k3 := b3
  have e3 : IsEnum k3 e it (c + 1) old := e3
  show wpAny _ _ (newTuple [Value.int c tk, x] >>= _) _ _ ⟨k3, g, d, tk + 1, os⟩
  refine wpAny_bind (wpAny_newTuple ?_)
  have z3 : k3.objs.size = h0.objs.size := b3.1.trans (b2.1.trans b1.1)
  have i3 : k3.IsListIter it l (i + 1) := (i1.extBut b2.extBut ne.symm).extBut b3.extBut ne.symm
  have t4 : (k3.push { cls := .type "tuple", data := .seq #[Value.int c tk, x] }).get? h0.objs.size = some { cls := .type "tuple", data := .seq #[Value.int c tk, x] } := by rw [← z3]; exact Heap.get?_push_size _ rfl
  have z4 : (k3.push { cls := .type "tuple", data := .seq #[Value.int c tk, x] }).objs.size = h0.objs.size + 1 := by rw [Heap.size_push, z3]
  have o4 : ∀ b o, b ≠ e → b ≠ it → h0.get? b = some o → (k3.push { cls := .type "tuple", data := .seq #[Value.int c tk, x] }).get? b = some o := fun b o n1 n2 y => Heap.get?_push_of_some _ (b3.extBut b o n1 (b2.extBut b o n1 (b1.extBut b o n2 y)))
  have i4 : (k3.push { cls := .type "tuple", data := .seq #[Value.int c tk, x] }).IsListIter it l (i + 1) := i3.at fun o y => Heap.get?_push_of_some _ y
  have e4 : IsEnum (k3.push { cls := .type "tuple", data := .seq #[Value.int c tk, x] }) e it (c + 1) old := Heap.get?_push_of_some _ e3
  show wpAny _ _ (Builtin.SmallTypes.ownedTupleIsFree (.ref e) >>= _) _ _ ⟨k3.push { cls := .type "tuple", data := .seq #[Value.int c tk, x] }, g, d, tk + 1, os⟩
  have z3' : (Shared.heap ⟨k3, g, d, tk + 1, os⟩).objs.size = h0.objs.size := z3
  rw [z3']
  generalize k3.push { cls := .type "tuple", data := .seq #[Value.int c tk, x] } = k4 at t4 z4 o4 i4 e4 ⊢
  refine wpAny_bind ?_
  unfold Builtin.SmallTypes.ownedTupleIsFree
  refine wpAny_bind (wpAny_field e4 rfl (x := Value.none) rfl (wpAny_pure ?_))
  simp only [if_true]
  refine wpAny_bind (wpAny_rule ?_)
  refine wpAny_bind (wpAny_field (s := ⟨k4, g, d, tk + 1, os⟩) e4 rfl (x := old) rfl ?_)
  refine wpAny_bind (wpAny_setField_rec (s := ⟨k4, g, d, tk + 1, os⟩) e4 (by simp) fun k5 e5 b5 => ?_)
  have b5 : Heap.SameBut e k4 k5 := b5
  have e5 : IsEnum k5 e it (c + 1) x := e5
  refine wpAny_bind ?_
  unfold Builtin.SmallTypes.ownedTupleHandOut
  refine wpAny_bind (wpAny_setField_rec (s := ⟨k5, g, d, tk + 1, os⟩) e5 (by simp) fun k6 e6 b6 => ?_)
  have b6 : Heap.SameBut e k5 k6 := b6
  have e6 : IsEnumOut k6 e it (c + 1) x h0.objs.size := e6
  refine wpAny_setField_rec (s := ⟨k6, g, d, tk + 1, os⟩) e6 (by simp) fun k7 e7 b7 => ?_
  have b7 : Heap.SameBut e k6 k7 := b7
  have e7 : IsEnumOut k7 e it (c + 1) x h0.objs.size := e7
  have on : ∀ b o, b ≠ e → k4.get? b = some o → k7.get? b = some o := fun b o n y => b7.extBut b o n (b6.extBut b o n (b5.extBut b o n y))
  refine wpAny_bind (wpAny_letGo (wpAny_pure ⟨_, rfl, q k7 e7 (i4.at fun o y => on it o ne.symm y) (on _ _ (Nat.ne_of_gt esz) t4) (by rw [b7.1, b6.1, b5.1, z4]) fun b o n1 n2 y => on b o n1 (o4 b o n1 n2 y)⟩))
theorem enum_next {e it l : Addr} {c : Int} {i : Nat} {ys : Array Value} {x old : Value} {Q : Option Value → Shared → Prop} (he : IsEnum s.heap e it c old) (hi : s.heap.IsListIter it l i) (hl : s.heap.IsList l ys) (hx : ys[i]? = some x) (ne : e ≠ it)
    (q : ∀ k, IsEnumOut k e it (c + 1) x s.heap.objs.size → k.IsListIter it l (i + 1) → k.get? s.heap.objs.size = some { cls := .type "tuple", data := .seq #[.int c s.toks, x] } → k.objs.size = s.heap.objs.size + 1 →
      (∀ b o, b ≠ e → b ≠ it → s.heap.get? b = some o → k.get? b = some o) → Q (some (.ref s.heap.objs.size)) { s with heap := k, toks := s.toks + 1 }) : wpAny (model P w) A (pyNext (.ref e)) Q E s := by
  have ty : s.TypeIs (.ref e) "enumerate" := ⟨_, he, rfl⟩
  unfold pyNext
  refine wpAny_bind (wpAny_attempt (wpAny_callSpecial?_slot (name := Str.ofString "__next__") ty F.slot_enumerate_next ?_))
  exact wpAny_call_entry F.slot_enumerate_next ty F.entry_enumerate_next (enum_step he hi hl hx ne fun k a b c d y => wpAny_pure (q k a b c d y)) (F.args_enumerate_next_1 _)
theorem enum_end {e it l : Addr} {c : Int} {i : Nat} {ys : Array Value} {old : Value} {Q : Option Value → Shared → Prop} (hh : A.handled = none) (he : IsEnum s.heap e it c old) (hi : s.heap.IsListIter it l i) (hl : s.heap.IsList l ys) (hx : ys[i]? = none)
    (q : ∀ k, Heap.ExtBut it s.heap k → Q none { s with heap := k }) : wpAny (model P w) A (pyNext (.ref e)) Q E s := by
  have ty : s.TypeIs (.ref e) "enumerate" := ⟨_, he, rfl⟩
  unfold pyNext
  refine wpAny_bind (wpAny_attempt (wpAny_callSpecial?_slot (name := Str.ofString "__next__") ty F.slot_enumerate_next ?_))
  refine wpAny_call_entry F.slot_enumerate_next ty F.entry_enumerate_next ?_ (F.args_enumerate_next_1 _)
  show wpAny _ _ (field (Value.ref e) 2 >>= _) _ _ s
  refine wpAny_bind (wpAny_field he rfl (x := Value.ref it) rfl ?_)
  refine wpAny_bind (wpAny_nextOf_list_end hh hi hl hx fun k y b ⟨o, ho, hc⟩ => ?_)
  exact wpAny_bind (wpAny_isInstance (T := "StopIteration") (b := true) ⟨o, ho, hc⟩ isSubtype_stop (wpAny_pure (q _ b)))
end
def Ite (K : PySem.W.Frag) (a : Addr) (lo : Int) : It :=
  ⟨fun i H => ∃ xs x, SqL K H a xs ∧ xs[i]? = some x, fun i H v H' => ∃ t x, v = .ref t ∧ H t = none ∧ H' = upd H t (.tup [.int (lo + i), x]) ∧ ∀ xs, SqL K H a xs → xs[i]? = some x, fun i H => ∃ xs, SqL K H a xs ∧ xs.length ≤ i⟩
theorem un_laid {fs ex : List Addr} {H : Hp} {h h' : Heap} {a : Addr} {o : HO} (k : ∀ b u, b ∉ ex → h.get? b = some u → h'.get? b = some u) (hp : h.objs.size ≤ a) (hn : H a = none) : Un fs ex H (upd H a o) h h' where
  keep := fun b u q _ _ hx => k b u hx q
  slot := fun b u q _ _ hx => ⟨u.slots, k b u hx q⟩
  free := fun b u q n _ => by rw [upd_ne (Nat.ne_of_lt (Nat.lt_of_lt_of_le (Heap.lt_size q) hp))]; exact n
  there := fun b u q hx => ⟨u, k b u hx q⟩
  tups := fun b xs q => by rw [upd_ne (ne_of_none q hn)]; exact q
  frzs := fun b u xs q => by rw [upd_ne (ne_of_none q hn)]; exact q
  tbls := fun b ps q => ⟨#[], by rw [upd_ne (ne_of_none q hn), q]; simp⟩
theorem hok_laid {P : Program} {w : World} {H : Hp} {h h' : Heap} {ex : List Addr} {a : Addr} {o : HO} (x : HOk P w H h) (k : ∀ b u, b ∉ ex → h.get? b = some u → h'.get? b = some u) (hex : ∀ b ∈ ex, H b = none) (hp : h.objs.size ≤ a) (new : ObjOk P w (upd H a o) h' a o) : HOk P w (upd H a o) h' := fun b u e => by
  have hn := x.fresh hp
  by_cases hb : b = a
  · subst hb; rw [upd_same] at e; cases e; exact new
  · rw [upd_ne hb] at e
    refine (x b u e).stay (fun c v hc q => k c v (fun z => ?_) q) (fun c q => by rw [upd_ne (ne_of_none q hn)]; exact q) fun c xs q => by rw [upd_ne (ne_of_none q hn)]; exact q
    have hz := hex c z
    rcases hc with y | y
    · rw [y, e] at hz; cases hz
    · rw [y] at hz; cases hz
theorem turn_enum {P : Program} {w : World} {K : PySem.W.Frag} {elts : List Expr} {kk : Nat} {tp : Pos} (a e it : Addr) (lo : Int) (ne : e ≠ it) : Turn P w K (.Tuple elts kk tp) (Ite K a lo) [e, it] e (fun i h => ∃ old, IsEnum h e it (lo + (i : Nat)) old ∧ h.IsListIter it a i) where
  mem := by simp
  obj := fun i h st b hb => by
    obtain ⟨old, s1, o, s2, s3, s4⟩ := st
    have cs : b = e ∨ b = it := by simpa using hb
    rcases cs with z | z
    · rw [z]; exact ⟨_, s1, fun v y => by cases y⟩
    · rw [z]; exact ⟨o, s2, fun v y => by rw [s4] at y; cases y⟩
  keep := fun i h h' ⟨old, s1, s2⟩ k => ⟨old, k e (by simp) _ s1, s2.at fun o y => k it (by simp) o y⟩
  item := by
    intro X hP hw hK hc i pins s σ H E I hf st hg
    subst hP hw hK
    obtain ⟨xs, x, hq, hx⟩ := hg
    obtain ⟨old, s1, s2⟩ := st
    obtain ⟨its, rv, p, hz⟩ := I.list hq
    obtain ⟨u, hu, ru⟩ := rv.get hx
    refine enum_next s1 s2 p.isList (x := u) (by simpa using hu) ne fun k eo i1 t1 z1 o1 => ?_
    refine ⟨_, rfl, wpAny_letOwnedTupleGo_enum eo fun k2 e2 b2 => ?_⟩
    have b2 : Heap.SameBut e k k2 := b2
    have esz : e < s.heap.objs.size := Heap.lt_size s1
    have t2 : k2.get? s.heap.objs.size = some { cls := .type "tuple", data := .seq #[.int (lo + (i : Nat)) s.toks, u] } := b2.extBut _ _ (Nat.ne_of_gt esz) t1
    have on : ∀ b o, b ∉ [e, it] → s.heap.get? b = some o → k2.get? b = some o := fun b o nb y => b2.extBut b o (fun z => nb (by simp [z])) (o1 b o (fun z => nb (by simp [z])) (fun z => nb (by simp [z])) y)
    have hn : ∀ b ∈ [e, it], H b = none := fun b hb => (hf b hb).1
    have new : ObjOk X.prog X.w (upd H s.heap.objs.size (.tup [.int (lo + (i : Nat)), x])) k2 s.heap.objs.size (.tup [.int (lo + (i : Nat)), x]) := ⟨by show (2 : Nat) ≤ sizeLine; decide, [.int (lo + (i : Nat)) s.toks, u], .cons ⟨_, rfl⟩ (.cons ru .nil), ⟨_, t2, rfl, _, rfl⟩⟩
    have I2 : Inv X pins σ (upd H s.heap.objs.size (.tup [.int (lo + (i : Nat)), x])) { s with heap := k2, toks := s.toks + 1 } := I.call' (ch := [e, it]) rfl (un_laid on (Nat.le_refl _) (I.hok.fresh (Nat.le_refl _))) (hok_laid I.hok on hn (Nat.le_refl _) new) I.bare fun b hb => by
      obtain ⟨_, f1, _, f3, f4, f5⟩ := hf b hb
      exact ⟨f3, f1, f4, f5⟩
    refine ⟨.ref s.heap.objs.size, _, I2, rfl, ⟨_, x, rfl, I.hok.fresh (Nat.le_refl _), rfl, fun ys hy => by rw [I.list_inj hy hq]; exact hx⟩, ⟨u, ?_, i1.extBut b2.extBut ne.symm⟩, fun b hb => ?_⟩
    · have e2 : IsEnum k2 e it (lo + (i : Nat) + 1) u := e2
      show IsEnum k2 e it (lo + ((i + 1 : Nat) : Int)) u
      rw [show lo + ((i + 1 : Nat) : Int) = lo + (i : Nat) + 1 by omega]; exact e2
    · have hb' := hn b hb
      have : b ≠ s.heap.objs.size := by
        have cs : b = e ∨ b = it := by simpa using hb
        rcases cs with z | z
        · rw [z]; exact Nat.ne_of_lt esz
        · obtain ⟨o, y, _⟩ := s2
          rw [z]; exact Nat.ne_of_lt (Heap.lt_size y)
      rw [upd_ne this]; exact hb'
  done := by
    intro X hP hw hK hc i pins s σ H E I hf st hg
    subst hP hw hK
    obtain ⟨xs, hq, hx⟩ := hg
    obtain ⟨old, s1, s2⟩ := st
    obtain ⟨its, rv, p, hz⟩ := I.list hq
    obtain ⟨f0, f1, f2, f3, f4, f5⟩ := hf it (by simp)
    have hl := rv.length
    exact enum_end (I.ok.hd hc) s1 s2 p.isList (by simp; omega) fun h' eb => ⟨rfl, I.turned (t' := s.toks) (fun b o hb y => eb b o hb y) f0 f1 f3 f4 f5⟩
  self := fun _ _ _ _ _ ⟨_, st, _⟩ h => wpAny_pyIter_enum st h
end L2
set_option Elab.async false
set_option linter.all false
set_option maxRecDepth 100000
set_option maxHeartbeats 4000000
namespace L2
open PySem PySem.Spec PyProof.Rows
section
variable {X : Cx} {elts : List Expr} {kk : Nat} {tp : Pos}
theorem boot_enum : bootBuiltins "enumerate" = some (.type "enumerate") := by decide +kernel
theorem enum_it {pins : List (Addr × Obj)} {σ : St} {H : Hp} {s : Shared} {R : It → Hp → Prop} {E : Value → Shared → Prop} {a : Addr} {lo : Int} {h' : Heap} {tk : Nat} (I : Inv X pins σ H s) (he : IsEnum h' (s.heap.objs.size + 1) s.heap.objs.size lo .none) (hi : h'.IsListIter s.heap.objs.size a 0)
    (k : ∀ b o, s.heap.get? b = some o → h'.get? b = some o) (q : R (Ite X.K a lo) H) :
    wpAny (model X.prog X.w) X.A (pyIter (.ref (s.heap.objs.size + 1))) (PIE X pins σ (.Tuple elts kk tp) R) E { s with heap := h', toks := tk } := by
  refine wpAny_pyIter_enum he ?_
  refine ⟨s.heap.objs.size + 1, [s.heap.objs.size + 1, s.heap.objs.size], _, _, H, rfl, I.kept (t' := tk) k, turn_enum a (s.heap.objs.size + 1) s.heap.objs.size lo (Nat.succ_ne_self _), ⟨.none, by simpa using he, hi⟩, fun b hb => ?_, q⟩
  have cs : b = s.heap.objs.size + 1 ∨ b = s.heap.objs.size := by simpa using hb
  rcases cs with e | e
  · subst e; exact I.fpOk (by omega) (I.hok.fresh (by omega))
  · subst e; exact I.fpOk (Nat.le_refl _) (I.hok.fresh (Nat.le_refl _))
def iEnum (K : PySem.W.Frag) (ta : TA) : TI := fun σ H R => ta σ H fun vs H1 => ∃ a, vs = [.ref a] ∧ (∃ xs, SqL K H1 a xs) ∧ R (Ite K a 0) H1
theorem pi_enum {a : Expr} {ta : TA} {p pos : Pos} (hg : Gl X "enumerate") (hm : X.mg "enumerate" = none) (ha : PA X [a] ta) (hs : starEach [a] X.env = [(false, eval a X.env)] := by rfl) : PI X (.Tuple elts kk tp) (.Call (.Name "enumerate" p) [a] [] pos) (iEnum X.K ta) := by
  intro pins s σ H R I h
  refine Call_ (ld_blt I hg hm boot_enum (PyProof.Rows.callWith_type1 (thn (ha pos pins s σ H _ I h) fun us s1 ⟨vs, H1, I1, r1, q1⟩ => ?_) hs rfl))
  obtain ⟨a, e, ⟨xs, hq⟩, q⟩ := q1
  subst e
  obtain ⟨u, rfl, ru⟩ := r1.one
  cases ru
  obtain ⟨its, r, pl, hz⟩ := I1.list hq
  exact call_enumerate_list pl.isList fun h' e1 e2 e3 e4 => enum_it (tk := s1.toks) I1 e1 e2 e4 q
section
variable {P : Program} {w : World} {A : Around} {E : Value → Shared → Prop} {s : Shared}
end
theorem for_enum {K : PySem.W.Frag} {a : Addr} {lo : Int} {xs : List V} {g : TG} {tb : TS} {D : Ends} {σ : St} {H : Hp} (Pv : Nat → St → Hp → Prop) (h0 : Pv 0 σ H) (hl : ∀ i σ H, i ≤ xs.length → Pv i σ H → SqL K H a xs)
    (hs : ∀ i x σ H t, xs[i]? = some x → Pv i σ H → H t = none → g (.ref t) σ (upd H t (.tup [.int (lo + i), x])) fun σ2 H2 => tb { D with nx := Pv (i + 1), ct := Pv (i + 1), bk := D.nx } σ2 H2) (hd : ∀ σ H, Pv xs.length σ H → D.nx σ H) :
    ∃ W : Nat → Nat → St → Hp → Prop, (∃ m, W 0 m σ H) ∧ ∀ i m σ H, W i m σ H →
      ((Ite K a lo).stop i H ∧ D.nx σ H) ∨ ((Ite K a lo).go i H ∧ ∃ N : St → Hp → Prop, (∀ σ' H', N σ' H' → ∃ m', m' < m ∧ W (i + 1) m' σ' H') ∧ ∀ x H', (Ite K a lo).yld i H x H' → g x σ H' fun σ2 H2 => tb { D with nx := N, ct := N, bk := D.nx } σ2 H2) := by
  refine ⟨fun i m σ H => m = xs.length - i ∧ i ≤ xs.length ∧ Pv i σ H, ⟨xs.length, by simp, Nat.zero_le _, h0⟩, ?_⟩
  rintro i m σ H ⟨rfl, hi, p⟩
  have q := hl i σ H hi p
  by_cases hlt : i < xs.length
  · refine .inr ⟨⟨xs, xs[i], q, by simp [hlt]⟩, Pv (i + 1), fun σ' H' p' => ⟨xs.length - (i + 1), by omega, rfl, hlt, p'⟩, fun v H' y => ?_⟩
    obtain ⟨t, x, rfl, hn, rfl, y⟩ := y
    exact hs i x σ H t (y xs q) p hn
  · have e : i = xs.length := by omega
    subst e
    exact .inl ⟨⟨xs, q, Nat.le_refl _⟩, hd σ H p⟩
end
end L2
set_option Elab.async false
set_option linter.all false
set_option maxRecDepth 100000
set_option maxHeartbeats 4000000
namespace L2
open PySem PySem.Spec PyProof.Rows
section
variable {P : Program} {w : World} {A : Around} {E : Value → Shared → Prop} {s : Shared}
end
open AutoSeq1 (wpAny_loadPart')
section
variable {X : Cx} {pins : List (Addr × Obj)} {σ : St} {H : Hp} {s : Shared}
end
section
variable {X : Cx}
theorem call_dict1 : CallR X (.type "dict") (fun xs H Q => ∃ a kvs, xs = [.ref a] ∧ Rd H a (.dK kvs) ∧ ∀ p, H p = none → Q (.ref p) (upd H p (.dK kvs))) := by
  intro pins s σ H xs us Q I rv h
  obtain ⟨a, kvs, rfl, e, q⟩ := h
  obtain ⟨u, rfl, ru⟩ := rv.one
  cases ru
  exact d_copyOf I e fun p s' hp I' => ⟨.ref p, _, I', rfl, q p hp⟩
end
end L2
set_option Elab.async false
set_option linter.all false
set_option maxRecDepth 100000
set_option maxHeartbeats 4000000
namespace L2
open PySem PySem.Spec PyProof.Rows
section
variable {X : Cx} {pins : List (Addr × Obj)} {σ : St} {H : Hp} {s : Shared}
end
section
variable {X : Cx}
end
end L2
set_option Elab.async false
set_option linter.all false
set_option maxRecDepth 100000
set_option maxHeartbeats 4000000
namespace L2
open PySem PySem.Spec PyProof.Rows
section
variable {X : Cx} {pins : List (Addr × Obj)} {σ : St} {H : Hp} {s : Shared}
end
section
variable {P : Program} {w : World} {K : PySem.W.Frag} {mg : Str → Option Value} {base : Heap} {N : List Str} {qual : Str} {scope : Scope} {f : Addr} {cd : Value} {A : Around} {outer : List Env} {s : Shared} {H : Hp} {E E' : XK}
end
end L2
set_option Elab.async false
set_option linter.all false
set_option maxRecDepth 100000
set_option maxHeartbeats 4000000
namespace L2
open PySem PySem.Spec PyProof.Rows
section
variable {X : Cx} {E : XK} {C : Addr}
end
end L2
set_option Elab.async false
set_option linter.all false
set_option maxRecDepth 100000
set_option maxHeartbeats 4000000
namespace L2
open PySem PySem.Spec PyProof.Rows
section
variable {M : Model} {A : Around} {E : Value → Shared → Prop} {h : Heap} {g : Array GenState} {d : Drawn} {t : Nat} {os : OsState}
end
section
variable {X : Cx} {pins : List (Addr × Obj)} {σ : St} {H : Hp} {s : Shared}
end
end L2
set_option Elab.async false
set_option linter.all false
set_option maxRecDepth 100000
set_option maxHeartbeats 4000000
namespace L2
open PySem PySem.Spec PyProof.Rows
section
variable {X : Cx} {pins : List (Addr × Obj)} {σ : St} {H : Hp} {s : Shared}
end
section
variable {X : Cx}
end
section
variable {P : Program} {w : World} {K : PySem.W.Frag} {mg : Str → Option Value} {base : Heap}
end
end L2
set_option Elab.async false
set_option linter.all false
set_option maxRecDepth 100000
set_option maxHeartbeats 4000000
namespace L2
open PySem PySem.Spec PyProof.Rows PySem.W PySem.Builtin PySem.Builtin.ObjectAttr PySem.Builtin.Getset_descriptor
section
variable {prog : Program} {w : World} {A : Around} {E : Value → Shared → Prop} {s : Shared} {K : PySem.W.Frag} {x C : Addr} {R : Result → Shared → Prop}
end
section
variable {X : Cx}
end
end L2
set_option Elab.async false
set_option linter.all false
set_option maxRecDepth 100000
set_option maxHeartbeats 4000000
namespace L2
open PySem PySem.Spec PyProof.Rows
section
variable {M : Model} {A : Around} {E : Value → Shared → Prop} {s : Shared} {B : Heap} {env : Env} {outer : List Env} {L e : Addr} {cls a0 : Value} {Q : Unit → Shared → Prop}
end
end L2
set_option Elab.async false
set_option linter.all false
set_option maxRecDepth 100000
set_option maxHeartbeats 4000000
namespace L2
open PySem PySem.Spec PyProof.Rows
section
variable {P : Program} {w : World} {K : PySem.W.Frag} {mg : Str → Option Value} {base : Heap} {N : List Str} {qual : Str} {scope : Scope} {f : Addr} {cd : Value} {A : Around} {outer : List Env} {s : Shared} {H : Hp} {E : XK} {E' : St → XK}
end
section
variable {X : Cx}
end
end L2
set_option Elab.async false
set_option linter.all false
set_option maxRecDepth 100000
set_option maxHeartbeats 4000000
namespace L2
open PySem PySem.Spec PyProof.Rows
end L2
set_option Elab.async false
set_option linter.all false
set_option maxRecDepth 100000
set_option maxHeartbeats 4000000
namespace L2
open PySem PySem.Spec PyProof.Rows
end L2
set_option Elab.async false
set_option linter.all false
set_option maxRecDepth 100000
set_option maxHeartbeats 4000000
namespace L2
open PySem PySem.Spec PyProof.Rows
section
variable {X : Cx}
end
theorem cut_to (xs : List V) {b : Int} (h : 0 ≤ b) : cutV xs none (some b) = xs.take b.toNat := by
  obtain ⟨k, rfl⟩ : ∃ k : Nat, b = k := ⟨b.toNat, by omega⟩
  unfold cutV
  rw [HT.sIx_nat, HT.sIx_none, List.drop_zero, Nat.sub_zero]
  show xs.take (min k xs.length) = xs.take k
  rw [List.take_eq_take_min (i := k)]
theorem cut_from (xs : List V) {b : Int} (h : 0 ≤ b) : cutV xs (some b) none = xs.drop b.toNat := by
  obtain ⟨k, rfl⟩ : ∃ k : Nat, b = k := ⟨b.toNat, by omega⟩
  unfold cutV
  rw [HT.sIx_nat, HT.sIx_none]
  show (xs.drop (min k xs.length)).take (xs.length - min k xs.length) = xs.drop k
  rw [List.take_of_length_le (by rw [List.length_drop]; omega)]
  by_cases z : k ≤ xs.length
  · rw [Nat.min_eq_left z]
  · rw [Nat.min_eq_right (by omega), List.drop_of_length_le (by omega), List.drop_of_length_le (by omega)]
end L2
set_option Elab.async false
set_option linter.all false
set_option maxRecDepth 100000
set_option maxHeartbeats 4000000
namespace L2
open PySem PySem.Spec PyProof.Rows
open AutoSeq1 (wpAny_loadPart')
section
variable {X : Cx}
end
end L2
set_option Elab.async false
set_option linter.all false
set_option maxRecDepth 100000
set_option maxHeartbeats 4000000
namespace L2
open PySem PySem.Spec PyProof.Rows
def notStar : Expr → Bool
  | .Starred .. => false
  | _ => true
theorem star_cons {e : Expr} {es : List Expr} {env : Env} (h : notStar e = true) : starEach (e :: es) env = (false, eval e env) :: starEach es env := by
  cases e <;> first | rfl | cases h
theorem pa_c {X : Cx} {e : Expr} {es : List Expr} {te : TE} {t : TA} (ha : PE X e te) (hr : PA X es t) (hs : notStar e = true := by rfl) : PA X (e :: es) (tCons te t) := pa_cons ha hr (star_cons hs)
end L2
set_option Elab.async false
set_option linter.all false
set_option maxRecDepth 100000
set_option maxHeartbeats 4000000
namespace L2
open PySem PySem.Spec PyProof.Rows
section
variable {X : Cx}
theorem op_fdivB : OpR X (binaryOp .FloorDiv) (rI (fun _ j => 0 < j ∧ j < 10 ^ 100) fun i j => .int (i / j)) := opI fun i j _ _ _ _ _ hc q => by
  have h1 : (0 : Int) < j := hc.1
  have h2 : j < 10 ^ 100 := hc.2
  refine floordiv_int (by omega) (by rw [Int.fdiv_eq_ediv_of_nonneg i (by omega)]; exact q) (.inl (PyProof.noPylong_of_log2 ?_))
  have hj : j.natAbs ≠ 0 := by omega
  rw [Nat.log2_lt hj]
  have : j.natAbs < 10 ^ 100 := by omega
  exact Nat.lt_of_lt_of_le this (by decide +kernel)
def Itr3 (lo c : Int) (n : Nat) : It := ⟨fun i _ => i < n, fun i H x H' => H' = H ∧ x = .int (lo + i * c), fun i _ => n ≤ i⟩
theorem turn_range3 {P : Program} {w : World} {K : PySem.W.Frag} {tg : Expr} (it : Addr) (lo c : Int) (n : Nat) : Turn P w K tg (Itr3 lo c n) [it] it (fun i h => IsRangeIter h it (lo + (i : Nat) * c) ((n : Int) - (i : Nat)) c) where
  mem := by simp
  obj := fun i h st b hb => by
    have e : b = it := by simpa using hb
    subst e
    exact ⟨_, st, fun v z => by
      have z' : Data.fields _ = Data.cell v := z
      cases z'⟩
  keep := fun i h h' st k => k it (by simp) _ st
  item := by
    intro X hP hw hK hc i pins s σ H E I hf st hg
    subst hP hw hK
    obtain ⟨f0, f1, f2, f3, f4, f5⟩ := hf it (by simp)
    have W := Walks.range (prog := X.prog) (w := X.w) (I.ok.hd hc) it lo c n
    refine W.item i s _ _ hg st fun v h' tk hv st' kk => ?_
    obtain ⟨t, rfl⟩ := hv
    have I1 : Inv X pins σ H { s with heap := h', toks := tk } := I.turned (fun b o hb e => kk b o (by simpa using hb) e) f0 f1 f3 f4 f5
    exact ⟨_, rfl, go_of (s := { s with heap := h', toks := tk }) (n := "range_iterator") st' rfl rfl (by decide) ⟨.int (lo + i * c), H, I1, ⟨t, rfl⟩, ⟨rfl, rfl⟩, st', fun b hb => (hf b hb).1⟩⟩
  done := by
    intro X hP hw hK hc i pins s σ H E I hf st hg
    subst hP hw hK
    obtain ⟨f0, f1, f2, f3, f4, f5⟩ := hf it (by simp)
    exact wpAny_pyNext_range_end (I.ok.hd hc) st (by have : n ≤ i := hg; omega) fun h' eb => ⟨rfl, I.turned (t' := s.toks) (fun b o hb e => eb b o hb e) f0 f1 f3 f4 f5⟩
  self := fun _ _ _ _ _ st h => wpAny_pyIter_rangeiter st h
def iRng3 (ta : TA) : TI := fun σ H R => ta σ H fun vs H1 => ∃ (i j c : Int) (n : Nat), vs = [.int i, .int j, .int c] ∧ (0 < c ∧ c < 1000) ∧ Builtin.Range.small i j c = true ∧ Builtin.Range.rangeSize i j c = n ∧ R (Itr3 i c n) H1
theorem pi_range3 {tg a b c : Expr} {ta : TA} {p pos : Pos} (hg : Gl X "range") (hm : X.mg "range" = none) (ha : PA X [a, b, c] ta) (hs : starEach [a, b, c] X.env = [(false, eval a X.env), (false, eval b X.env), (false, eval c X.env)] := by rfl) (hs2 : starEach [b, c] X.env = [(false, eval b X.env), (false, eval c X.env)] := by rfl) :
    PI X tg (.Call (.Name "range" p) [a, b, c] [] pos) (iRng3 ta) := by
  intro pins s σ H R I h
  refine Call_ (ld_blt I hg hm boot_range (PyProof.Rows.callWith_type1 (thn (ha pos pins s σ H _ I h) fun us s1 ⟨vs, H1, I1, r1, q1⟩ => ?_) (by rw [hs, hs2]) (by rw [hs2]; rfl)))
  obtain ⟨i, j, c, n, e, ⟨c0, c1⟩, hsm, hn, q⟩ := q1
  subst e
  cases r1 with
  | cons r rr =>
    cases rr with
    | cons r' rr =>
      cases rr with
      | cons r'' rr =>
        cases rr
        obtain ⟨t, rfl⟩ := r
        obtain ⟨u, rfl⟩ := r'
        obtain ⟨v, rfl⟩ := r''
        refine call_range_3 (by omega) ?_ (.inl (PyProof.noPylong_small (by omega)))
        refine wpAny_pyIter_range (IsRange.new ..) hsm ?_
        have I2 : Inv X pins σ H1 { s1 with heap := s1.heap.push { cls := .type "range", data := .fields #[.int i t, .int j u, .int c v] }, toks := s1.toks } := I1.kept fun b o e => Heap.get?_push_of_some _ e
        refine ⟨(s1.heap.push { cls := .type "range", data := .fields #[.int i t, .int j u, .int c v] }).objs.size, [(s1.heap.push { cls := .type "range", data := .fields #[.int i t, .int j u, .int c v] }).objs.size], _, _, H1, rfl,
          I2.kept (t' := s1.toks) fun b o e => Heap.get?_push_of_some _ e, turn_range3 _ i c n, ?_, fun b hb => ?_, q⟩
        · have e1 : i + ((0 : Nat) : Int) * c = i := by simp
          have e2 : ((n : Nat) : Int) - ((0 : Nat) : Int) = Builtin.Range.rangeSize i j c := by rw [hn]; simp
          show IsRangeIter _ _ (i + ((0 : Nat) : Int) * c) (((n : Nat) : Int) - ((0 : Nat) : Int)) c
          rw [e1, e2]
          exact Heap.get?_push_size _ rfl
        · have e : b = (s1.heap.push { cls := .type "range", data := .fields #[.int i t, .int j u, .int c v] }).objs.size := by simpa using hb
          subst e
          exact I2.fpOk (Nat.le_refl _) (I2.hok.fresh (Nat.le_refl _))
theorem for_range3 {lo c : Int} {n : Nat} {g : TG} {tb : TS} {D : Ends} {σ : St} {H : Hp} (Pv : Nat → St → Hp → Prop) (h0 : Pv 0 σ H)
    (hs : ∀ i σ H, i < n → Pv i σ H → g (.int (lo + i * c)) σ H fun σ2 H2 => tb { D with nx := Pv (i + 1), ct := Pv (i + 1), bk := D.nx } σ2 H2) (hd : ∀ σ H, Pv n σ H → D.nx σ H) :
    ∃ W : Nat → Nat → St → Hp → Prop, (∃ m, W 0 m σ H) ∧ ∀ i m σ H, W i m σ H →
      ((Itr3 lo c n).stop i H ∧ D.nx σ H) ∨ ((Itr3 lo c n).go i H ∧ ∃ N : St → Hp → Prop, (∀ σ' H', N σ' H' → ∃ m', m' < m ∧ W (i + 1) m' σ' H') ∧ ∀ x H', (Itr3 lo c n).yld i H x H' → g x σ H' fun σ2 H2 => tb { D with nx := N, ct := N, bk := D.nx } σ2 H2) := by
  refine ⟨fun i m σ H => m = n - i ∧ i ≤ n ∧ Pv i σ H, ⟨n, by simp, Nat.zero_le _, h0⟩, ?_⟩
  rintro i m σ H ⟨rfl, hi, p⟩
  by_cases hlt : i < n
  · refine .inr ⟨hlt, Pv (i + 1), fun σ' H' p' => ⟨n - (i + 1), by omega, rfl, hlt, p'⟩, fun x H' y => ?_⟩
    obtain ⟨rfl, rfl⟩ := y
    exact hs i σ _ hlt p
  · have e : i = n := by omega
    subst e
    exact .inl ⟨Nat.le_refl _, hd σ H p⟩
theorem small_by {j c : Int} (hj : 0 ≤ j) (hj' : j < 1000) (hc : 0 < c) (hc' : c < 1000) : Builtin.Range.small 0 j c = true ∧ ∃ n : Nat, Builtin.Range.rangeSize 0 j c = n ∧ n ≤ 1000 ∧ ∀ i : Nat, i < n → (i : Int) * c < j := by
  have h0 : 0 ≤ (j - 0 - 1) / c ∨ j = 0 := by
    by_cases z : j = 0
    · exact .inr z
    · exact .inl (Int.ediv_nonneg (by omega) (by omega))
  have h1 : (j - 0 - 1) / c ≤ 999 := Int.le_trans (Int.ediv_le_ediv hc (show j - 0 - 1 ≤ 999 by omega)) (Int.ediv_le_self _ (by decide))
  constructor
  · unfold Builtin.Range.small Builtin.Range.rangeSize
    simp only [Builtin.Range.rangeFitsLong, Bool.and_eq_true, Bool.or_eq_true, decide_eq_true_eq, beq_iff_eq, hc, if_true]
    split <;> omega
  · unfold Builtin.Range.rangeSize
    rw [if_pos hc]
    by_cases z : 0 < j
    · rw [if_pos z]
      have h0 : 0 ≤ (j - 0 - 1) / c := Int.ediv_nonneg (by omega) (by omega)
      have hm : ∀ i : Int, i ≤ (j - 0 - 1) / c → i * c < j := fun i hi => by
        have := (Int.le_ediv_iff_mul_le hc).mp hi
        omega
      generalize (j - 0 - 1) / c = e at h0 h1 hm ⊢
      exact ⟨(e + 1).toNat, by omega, by omega, fun i hi => hm i (by omega)⟩
    · rw [if_neg z]
      exact ⟨0, rfl, by decide, fun i hi => by omega⟩
end
end L2
set_option Elab.async false
set_option linter.all false
set_option maxRecDepth 100000
set_option maxHeartbeats 4000000
namespace RV
open PySem
theorem view_len : typeLookup (.type "dict_items") "__len__" = pure (some (.builtin "dict_items.__len__")) := by rw [typeLookup_type, builtinLookup_eq_fast]; kernel_rfl
theorem view_sub : isSubtype (.type "dict_items") (.type "dict_items") = pure true := by rw [isSubtype_type]; kernel_rfl
end RV
set_option Elab.async false
set_option linter.all false
set_option maxRecDepth 100000
set_option maxHeartbeats 4000000
namespace RV
open PySem
section
variable {P : Program} {w : World} {A : Around} {E : Value → Shared → Prop} {s : Shared}
end
end RV
set_option Elab.async false
set_option linter.all false
set_option maxRecDepth 100000
set_option maxHeartbeats 4000000
namespace RV
open PySem
section
variable {P : Program} {w : World} {A : Around} {E : Value → Shared → Prop} {s : Shared}
def PairsIn {K : Type} [DecidableEq K] (knd : KeyKind P w K) (h : Heap) (ys : Array Value) (vs : List (K × Value)) : Prop :=
  ys.size = vs.length ∧ ∀ (j : Nat) (k : K) (v : Value), vs[j]? = some (k, v) → ∃ (t : Addr) (key : Value) (n : Nat), ys[j]? = some (.ref t) ∧ knd.is k key = true ∧ ∃ o, h.get? t = some o ∧ o.cls = .type "tuple" ∧ o.data = .seq #[key, v] n
theorem e_loop : entryFor table "dict.update.loop" = some Builtin.«dict.update.loop» := entryFor_of_tree (by kernel_rfl)
theorem p_loop : plainId "dict.update.loop" = true := by decide +kernel
theorem stored_new {K : Type} [DecidableEq K] {kvs : List (K × Value)} {k : K} {v : Value} (h : k ∉ kvs.map (·.1)) : stored kvs k v = kvs ++ [(k, v)] := by
  unfold stored
  rw [if_neg]
  intro z
  rw [List.any_eq_true] at z
  obtain ⟨kv, h1, h2⟩ := z
  exact h (List.mem_map.mpr ⟨kv, h1, by simpa using h2⟩)
end
end RV
set_option Elab.async false
set_option linter.all false
set_option maxRecDepth 100000
set_option maxHeartbeats 4000000
namespace RV
open PySem
abbrev IsIt (h : Heap) (it d : Addr) (z0 z1 : Value) (i n ep : Nat) (ok ov : Value) : Prop :=
  h.get? it = some { cls := .type "dict_itemiterator", dict := none, data := .fields #[z0, z1, .ref d, .int i 0, .int n 0, .int ep 0, ok, ov], slots := #[] }
section
variable {P : Program} {w : World} {A : Around} {E : Value → Shared → Prop} {s : Shared}
theorem alive {a : Addr} {Q : Option Obj → Shared → Prop} (q : Q (s.heap.get? a) s) : wpAny (model P w) A (loadIfAlive a) Q E s := fun _ _ _ => q
theorem it_again {K : Type} [DecidableEq K] {knd : KeyKind P w K} {it d a : Addr} {i ep : Nat} {kvs : List (K × Value)} {k : K} {v ok ov : Value} {b : Bool} {oa : Obj} {Q : Option Value → Shared → Prop} (hit : IsIt s.heap it d (rawInt a) (.bool b) i kvs.length ep ok ov)
    (ha : s.heap.get? a = some oa) (hm : s.heap.DictAt knd d kvs ep) (hx : kvs[i]? = some (k, v))
    (q : ∀ key h', knd.is k key = true → IsIt h' it d (rawInt a) (.bool true) (i + 1) kvs.length ep ok ov → h'.get? s.heap.objs.size = some { cls := .type "tuple", data := .seq #[key, v] } → h'.objs.size = s.heap.objs.size + 1 →
      (∀ b o, b ≠ it → s.heap.get? b = some o → h'.get? b = some o) → Q (some (.ref s.heap.objs.size)) { s with heap := h' }) : wpAny (model P w) A (pyNext (.ref it)) Q E s := by
  obtain ⟨h0, g, dr, tk, os⟩ := s
  have hit : h0.get? it = some { cls := .type "dict_itemiterator", dict := none, data := .fields #[rawInt a, .bool b, .ref d, .int i 0, .int kvs.length 0, .int ep 0, ok, ov], slots := #[] } := hit
  have ty : Shared.TypeIs ⟨h0, g, dr, tk, os⟩ (.ref it) "dict_itemiterator" := ⟨_, hit, rfl⟩
  have f1 := mroOf_itemiter
  obtain ⟨od, es, hod, hcd, hdd, hk, hpr, hn⟩ := id hm
  obtain ⟨oc, oq, odt, osl⟩ := od
  have hdd : odt = .dict es ep := hdd
  subst hdd
  have hod : h0.get? d = some { cls := oc, dict := oq, data := .dict es ep, slots := osl } := hod
  have hsz : es.size = kvs.length := by rw [← hpr.length]; simp
  have hlt : i < es.size := by rw [hsz]; exact (List.getElem?_eq_some_iff.mp hx).1
  obtain ⟨hkey, hval⟩ := hpr.get? (e := es[i]) (by simp [hlt]) hx
  have c1 : ((es.size : Int) != (kvs.length : Int)) = false := by rw [hsz]; simp
  have c2 : ((ep : Int) != (ep : Int)) = false := by simp
  unfold pyNext
  refine wpAny_bind (wpAny_attempt (wpAny_callSpecial?_slot (name := Str.ofString "__next__") ty F.slot_dict_itemiterator_next (wpAny_call_entry F.slot_dict_itemiterator_next ty F.entry_dict_itemiterator_next ?_ (F.args_dict_itemiterator_next_1 _))))
  unfold Builtin.«dict_itemiterator.__next__»
  repeat (any_goals (first | assumption | wp_step | simp only [c1, Bool.false_eq_true, if_false] | simp only [c2, Bool.false_eq_true, if_false] | simp only [show ¬ ((i : Int) < 0) from by omega, if_false, Int.toNat_natCast, Array.getElem?_eq_getElem hlt]))
  rw [if_pos (c := (Builtin.Dict_items.ownsTuple _ = true)) ?own, if_neg (c := (List.any _ _ = true)) ?bw]
  case own => decide +kernel
  case bw => decide +kernel
  have e1 : (h0.update it (Obj.mapFields fun x => x.setIfInBounds (2 + 1) (rawInt ((i : Int) + 1)))).get? it = some { cls := .type "dict_itemiterator", dict := none, data := .fields #[rawInt a, .bool b, .ref d, .int ((i : Int) + 1) 0, .int kvs.length 0, .int ep 0, ok, ov], slots := #[] } := Heap.get?_update_self _ hit rfl
  have o1 : ∀ b o, b ≠ it → h0.get? b = some o → (h0.update it (Obj.mapFields fun x => x.setIfInBounds (2 + 1) (rawInt ((i : Int) + 1)))).get? b = some o := fun b o nb y => (Heap.get?_update_other _ _ (Ne.symm nb)).trans y
  have z1 : (h0.update it (Obj.mapFields fun x => x.setIfInBounds (2 + 1) (rawInt ((i : Int) + 1)))).objs.size = h0.objs.size := by simp
  generalize h0.update it (Obj.mapFields fun x => x.setIfInBounds (2 + 1) (rawInt ((i : Int) + 1))) = h1 at e1 o1 z1 ⊢
  obtain ⟨oa', ha'⟩ : ∃ o, h1.get? a = some o := by
    by_cases z : a = it
    · exact ⟨_, by rw [z]; exact e1⟩
    · exact ⟨oa, o1 a oa z ha⟩
  rw [← hval] at q
  have ci : ((i : Int) + 1) = ((i + 1 : Nat) : Int) := by omega
  rw [ci] at e1
  have ilt : it < h0.objs.size := Heap.lt_size hit
  have e2 := Heap.get?_push_of_some { cls := .type "tuple", data := .seq #[es[i].key, es[i].val] } e1
  have a2 := Heap.get?_push_of_some { cls := .type "tuple", data := .seq #[es[i].key, es[i].val] } ha'
  have o2 : ∀ b o, b ≠ it → h0.get? b = some o → (h1.push { cls := .type "tuple", data := .seq #[es[i].key, es[i].val] }).get? b = some o := fun b o nb y => Heap.get?_push_of_some _ (o1 b o nb y)
  have t2 : (h1.push { cls := .type "tuple", data := .seq #[es[i].key, es[i].val] }).get? h0.objs.size = some { cls := .type "tuple", data := .seq #[es[i].key, es[i].val] } := by rw [← z1]; exact Heap.get?_push_size _ rfl
  have z2 : (h1.push { cls := .type "tuple", data := .seq #[es[i].key, es[i].val] }).objs.size = h0.objs.size + 1 := by rw [Heap.size_push, z1]
  rw [z1]
  generalize h1.push { cls := .type "tuple", data := .seq #[es[i].key, es[i].val] } = h2 at e2 a2 o2 t2 z2 ⊢
  show wpAny _ _ (loadIfAlive a) _ _ _
  refine alive ?_
  rw [show (Shared.heap ⟨h2, g, dr, tk, os⟩).get? a = some oa' from a2]
  simp only [Option.isNone_some, Bool.false_eq_true, if_false]
  refine wpAny_bind (wpAny_field (s := ⟨h2, g, dr, tk, os⟩) e2 rfl (x := .bool b) rfl ?_)
  cases b with
  | true =>
    rw [if_neg (by decide)]
    refine wpAny_pure ?_
    rw [if_neg (by decide)]
    exact wpAny_pure (wpAny_pure ⟨_, rfl, wpAny_pure (q _ h2 hkey e2 t2 z2 o2)⟩)
  | false =>
    rw [if_pos (by decide)]
    refine wpAny_bind (wpAny_setField_rec (s := ⟨h2, g, dr, tk, os⟩) e2 (by simp) fun h3 e3 b3 => ?_)
    have b3 : Heap.SameBut it h2 h3 := b3
    refine wpAny_pure ?_
    rw [if_neg (by decide)]
    exact wpAny_pure (wpAny_pure ⟨_, rfl, wpAny_pure (q _ h3 hkey e3 (b3.extBut _ _ (Nat.ne_of_gt ilt) t2) (by rw [b3.1]; exact z2) fun b o nb y => b3.extBut b o nb (o2 b o nb y))⟩)
def ItSt (h : Heap) (it d : Addr) (i n ep : Nat) : Prop := ∃ z0 b ok ov, IsIt h it d z0 (.bool b) i n ep ok ov ∧ ((z0 = .none ∧ b = false) ∨ ∃ a oa, z0 = rawInt (a : Nat) ∧ h.get? a = some oa)
theorem it_next {K : Type} [DecidableEq K] {knd : KeyKind P w K} {it d : Addr} {i ep : Nat} {kvs : List (K × Value)} {k : K} {v : Value} {Q : Option Value → Shared → Prop} (hit : ItSt s.heap it d i kvs.length ep) (hm : s.heap.DictAt knd d kvs ep) (hx : kvs[i]? = some (k, v))
    (q : ∀ key h', knd.is k key = true → ItSt h' it d (i + 1) kvs.length ep → h'.get? s.heap.objs.size = some { cls := .type "tuple", data := .seq #[key, v] } → h'.objs.size = s.heap.objs.size + 1 →
      (∀ b o, b ≠ it → s.heap.get? b = some o → h'.get? b = some o) → Q (some (.ref s.heap.objs.size)) { s with heap := h' }) : wpAny (model P w) A (pyNext (.ref it)) Q E s := by
  obtain ⟨z0, b, ok, ov, h1, h2⟩ := hit
  rcases h2 with ⟨rfl, rfl⟩ | ⟨a, oa, rfl, ha⟩
  · exact wpAny_pyNext_items_item h1 hm hx fun key h' x1 x2 x3 x4 x5 => q key h' x1 ⟨_, false, _, _, x2, .inr ⟨_, _, rfl, x3⟩⟩ x3 x4 x5
  · refine it_again h1 ha hm hx fun key h' x1 x2 x3 x4 x5 => q key h' x1 ⟨_, true, _, _, x2, .inr ⟨a, ?_⟩⟩ x3 x4 x5
    by_cases z : a = it
    · exact ⟨_, rfl, by rw [z]; exact x2⟩
    · exact ⟨oa, rfl, x5 a oa z ha⟩
theorem it_end {K : Type} [DecidableEq K] {knd : KeyKind P w K} {it d : Addr} {i ep : Nat} {kvs : List (K × Value)} {Q : Option Value → Shared → Prop} (hh : A.handled = none) (hit : ItSt s.heap it d i kvs.length ep) (hm : s.heap.DictAt knd d kvs ep) (hx : kvs[i]? = none)
    (q : ∀ h', (∀ b o, b ≠ it → s.heap.get? b = some o → h'.get? b = some o) → Q none { s with heap := h' }) : wpAny (model P w) A (pyNext (.ref it)) Q E s := by
  obtain ⟨h0, g, dr, tk, os⟩ := s
  obtain ⟨z0, b, ok, ov, hit, _⟩ := hit
  have hit : h0.get? it = some { cls := .type "dict_itemiterator", dict := none, data := .fields #[z0, .bool b, .ref d, .int i 0, .int kvs.length 0, .int ep 0, ok, ov], slots := #[] } := hit
  have ty : Shared.TypeIs ⟨h0, g, dr, tk, os⟩ (.ref it) "dict_itemiterator" := ⟨_, hit, rfl⟩
  have f1 := mroOf_itemiter
  obtain ⟨od, es, hod, hcd, hdd, hk, hpr, hn⟩ := id hm
  obtain ⟨oc, oq, odt, osl⟩ := od
  have hdd : odt = .dict es ep := hdd
  subst hdd
  have hod : h0.get? d = some { cls := oc, dict := oq, data := .dict es ep, slots := osl } := hod
  have hsz : es.size = kvs.length := by rw [← hpr.length]; simp
  have hge : es.size ≤ i := by rw [hsz]; simpa using hx
  have c1 : ((es.size : Int) != (kvs.length : Int)) = false := by rw [hsz]; simp
  have c2 : ((ep : Int) != (ep : Int)) = false := by simp
  unfold pyNext
  refine wpAny_bind (wpAny_attempt (wpAny_callSpecial?_slot (name := Str.ofString "__next__") ty F.slot_dict_itemiterator_next (wpAny_call_entry F.slot_dict_itemiterator_next ty F.entry_dict_itemiterator_next ?_ (F.args_dict_itemiterator_next_1 _))))
  unfold Builtin.«dict_itemiterator.__next__»
  have hh1 : A.in1.handled = none := hh
  repeat (any_goals (first | assumption | wp_step | simp only [c1, Bool.false_eq_true, if_false] | simp only [c2, Bool.false_eq_true, if_false] | simp only [show ¬ ((i : Int) < 0) from by omega, if_false, Int.toNat_natCast, Array.getElem?_eq_none hge]))
  simp only [raiseNew]
  refine wpAny_bind (wpAny_handled ?_)
  rw [hh1]
  refine wpAny_bind (wpAny_pure (wpAny_throw ?_))
  refine wpAny_bind (wpAny_isInstance (T := "StopIteration") (b := true) ⟨_, Heap.get?_push_size _ rfl, rfl⟩ isSubtype_stop ?_)
  exact wpAny_pure (q _ fun b o nb y => Heap.get?_push_of_some _ (Heap.get?_push_of_some _ ((Heap.get?_update_other _ _ (Ne.symm nb)).trans y)))
end
end RV
set_option Elab.async false
set_option linter.all false
set_option maxRecDepth 100000
set_option maxHeartbeats 4000000
namespace RV
open PySem
section
variable {P : Program} {w : World} {A : Around} {E : Value → Shared → Prop} {s : Shared}
def Tups {K : Type} [DecidableEq K] (knd : KeyKind P w K) (h : Heap) (lo : Nat) (ts : List Addr) (vs : List (K × Value)) : Prop :=
  ts.length = vs.length ∧ ts.Nodup ∧ (∀ t ∈ ts, lo ≤ t ∧ t < h.objs.size) ∧ ∀ (j : Nat) (t : Addr) (k : K) (v : Value), ts[j]? = some t → vs[j]? = some (k, v) → ∃ key, knd.is k key = true ∧ h.get? t = some { cls := .type "tuple", data := .seq #[key, v] }
theorem gather {K : Type} [DecidableEq K] {knd : KeyKind P w K} {R : Result → Shared → Prop} {S it d : Addr} {ep lo : Nat} {vs : List (K × Value)} {res : Value} (hh : A.handled = none) (nS : S ≠ it) (nd : d ≠ S) (nd' : d ≠ it) (sz : vs.length ≤ sizeLine) :
    ∀ (j i : Nat) (s : Shared) (ts : List Addr) (c : Nat), vs.length - i = j → i ≤ vs.length → lo ≤ s.heap.objs.size → S < lo → ItSt s.heap it d i vs.length ep → s.heap.DictAt knd d vs ep → s.heap.get? S = some { cls := .type "list", dict := none, data := .seq (ts.map Value.ref).toArray c, slots := #[] } →
    it < lo → Tups knd s.heap lo ts (vs.take i) → (∀ k ts' c', (∀ b o, b ≠ S → b ≠ it → s.heap.get? b = some o → k.get? b = some o) → k.get? S = some { cls := .type "list", dict := none, data := .seq (ts'.map Value.ref).toArray c', slots := #[] } → Tups knd k lo ts' vs → R (.ok (.ret res)) { s with heap := k }) →
    codeAny (model P w) A (.builtin "list.extend.loop" ⟨[.ref S, .ref it, res], []⟩) R s := by
  intro j
  induction j with
  | zero =>
    intro i s ts c hj hi hlo hS hit hm hl hil tu q
    have e : i = vs.length := by omega
    subst e
    refine codeAny_builtin F.entry_extend_loop ?_
    rw [Around.under_plainId F.plain_extend_loop _]
    show wpAny _ A.in1 (pyNext (.ref it) >>= _) _ _ s
    refine wpAny_bind (it_end (A := A.in1) hh hit hm (by simp) fun k hk => wpAny_pure ?_)
    rw [List.take_length] at tu
    refine q k ts c (fun b o _ n y => hk b o n y) (hk _ _ nS hl) ?_
    obtain ⟨a1, a2, a3, a4⟩ := tu
    refine ⟨a1, a2, fun t ht => ⟨(a3 t ht).1, ?_⟩, fun j t kk v x y => ?_⟩
    · obtain ⟨n, hn, e⟩ := List.mem_iff_getElem.mp ht
      obtain ⟨key, _, z⟩ := a4 n t vs[n].1 vs[n].2 (by rw [← e]; exact List.getElem?_eq_getElem hn) (List.getElem?_eq_getElem (by omega))
      exact Heap.lt_size (hk t _ (Nat.ne_of_gt (Nat.lt_of_lt_of_le hil (a3 t ht).1)) z)
    · obtain ⟨key, z1, z2⟩ := a4 j t kk v x y
      exact ⟨key, z1, hk t _ (Nat.ne_of_gt (Nat.lt_of_lt_of_le hil (a3 t (List.mem_of_getElem? x)).1)) z2⟩
  | succ j ih =>
    intro i s ts c hj hi hlo hS hit hm hl hil tu q
    have hlt : i < vs.length := by omega
    obtain ⟨h0, g, dd, tk, os⟩ := s
    have hl : h0.get? S = some { cls := .type "list", dict := none, data := .seq (ts.map Value.ref).toArray c, slots := #[] } := hl
    refine codeAny_builtin F.entry_extend_loop ?_
    rw [Around.under_plainId F.plain_extend_loop _]
    show wpAny _ A.in1 (pyNext (.ref it) >>= _) _ _ _
    refine wpAny_bind (it_next hit hm (k := vs[i].1) (v := vs[i].2) (List.getElem?_eq_getElem hlt) fun key k hkey hit1 ht hz hk => ?_)
    have hk : ∀ b o, b ≠ it → h0.get? b = some o → k.get? b = some o := hk
    have ht : k.get? h0.objs.size = some { cls := .type "tuple", data := .seq #[key, vs[i].2] } := ht
    have hz : k.objs.size = h0.objs.size + 1 := hz
    have hl1 := hk _ _ nS hl
    obtain ⟨a1, a2, a3, a4⟩ := tu
    have tl : ts.length = i := by rw [a1, List.length_take]; omega
    show wpAny _ A.in1 (updateSeq S (·.push (.ref h0.objs.size)) >>= _) _ _ _
    refine wpAny_bind (wpAny_updateSeq hl1 rfl (wpAny_pure ⟨plainId_quiet F.plain_extend_loop _, ?_⟩) (by simp; omega) (by show ((ts.map Value.ref).toArray.push (.ref h0.objs.size)).size ≤ sizeLine + 1; simp; omega))
    have oth : ∀ b o, b ≠ S → k.get? b = some o → (k.update S (Obj.mapSeq (·.push (Value.ref h0.objs.size)))).get? b = some o := fun b o n y => (Heap.get?_update_other _ _ (Ne.symm n)).trans y
    have lo' : lo ≤ h0.objs.size := hlo
    obtain ⟨c9, SS⟩ : ∃ c9, (k.update S (Obj.mapSeq (·.push (Value.ref h0.objs.size)))).get? S = some { cls := .type "list", dict := none, data := .seq ((ts ++ [h0.objs.size]).map Value.ref).toArray c9, slots := #[] } := by
      have := Heap.get?_update_self (Obj.mapSeq (·.push (Value.ref h0.objs.size))) hl1 rfl
      exact ⟨_, this.trans (by simp [Obj.mapSeq]; rfl)⟩
    refine ih (i + 1) _ (ts ++ [h0.objs.size]) c9 (by omega) hlt (by show lo ≤ (k.update S _).objs.size; simp [hz]; omega) hS ?_ (Heap.DictAt.at hm fun o y => oth d o nd (hk d o nd' y)) ?_ hil ?_ fun k2 ts2 c2 o2 l2 t2 => q k2 ts2 c2 (fun b o n1 n2 y => o2 b o n1 n2 (oth b o n1 (hk b o n2 y))) l2 t2
    · obtain ⟨z0, b, ok, ov, x1, x2⟩ := hit1
      refine ⟨z0, b, ok, ov, oth _ _ nS.symm x1, ?_⟩
      rcases x2 with x2 | ⟨a, oa, x3, x4⟩
      · exact .inl x2
      · refine .inr ⟨a, ?_⟩
        by_cases z : a = S
        · exact ⟨_, x3, by rw [z]; exact Heap.get?_update_self _ hl1 rfl⟩
        · exact ⟨oa, x3, oth a oa z x4⟩
    · exact SS
    · have up : ∀ t o, lo ≤ t → k.get? t = some o → (k.update S (Obj.mapSeq (·.push (Value.ref h0.objs.size)))).get? t = some o := fun t o h y => oth t o (Nat.ne_of_gt (Nat.lt_of_lt_of_le hS h)) y
      refine ⟨by simp [tl]; omega, ?_, fun t ht' => ?_, fun j t kk v x y => ?_⟩
      · rw [List.nodup_append]
        exact ⟨a2, by simp, fun x hx y hy e => by
          have hy : y = h0.objs.size := by simpa using hy
          have hx : x < h0.objs.size := (a3 x hx).2
          rw [e, hy] at hx
          exact Nat.lt_irrefl _ hx⟩
      · show lo ≤ t ∧ t < (k.update S _).objs.size
        rw [show (k.update S (Obj.mapSeq (·.push (Value.ref h0.objs.size)))).objs.size = k.objs.size by simp, hz]
        rcases List.mem_append.mp ht' with z | z
        · have : t < h0.objs.size := (a3 t z).2
          exact ⟨(a3 t z).1, Nat.lt_succ_of_lt this⟩
        · have z : t = h0.objs.size := by simpa using z
          rw [z]
          exact ⟨lo', Nat.lt_succ_self _⟩
      · by_cases c' : j < i
        · have x' : ts[j]? = some t := by rw [List.getElem?_append_left (by omega)] at x; exact x
          have y' : (vs.take i)[j]? = some (kk, v) := by
            rw [List.getElem?_take] at y ⊢
            rw [if_pos c']; rw [if_pos (by omega)] at y; exact y
          obtain ⟨key', z1, z2⟩ := a4 j t kk v x' y'
          exact ⟨key', z1, up t _ (a3 t (List.mem_of_getElem? x')).1 (hk t _ (Nat.ne_of_gt (Nat.lt_of_lt_of_le hil (a3 t (List.mem_of_getElem? x')).1)) z2)⟩
        · have jl : j < (ts ++ [h0.objs.size]).length := (List.getElem?_eq_some_iff.mp x).1
          have je : j = i := by simp [tl] at jl; omega
          subst je
          rw [List.getElem?_append_right (by omega), tl] at x
          have x : h0.objs.size = t := by simpa using x
          rw [List.getElem?_take, if_pos (by omega), List.getElem?_eq_getElem hlt] at y
          have y : vs[j] = (kk, v) := by simpa using y
          refine ⟨key, by rw [y] at hkey; exact hkey, ?_⟩
          rw [← x]
          refine up _ _ lo' ?_
          rw [ht, y]
theorem sp_len : splitId "dict_items.__len__" = some ("dict_items", "__len__") := by decide +kernel
theorem list_view {K : Type} [DecidableEq K] {knd : KeyKind P w K} {v d : Addr} {ep : Nat} {vs : List (K × Value)} {Q : Value → Shared → Prop} (hh : A.handled = none) (hv : s.heap.IsItemsView v d) (hm : s.heap.DictAt knd d vs ep) (sz : vs.length ≤ sizeLine)
    (q : ∀ k ts c, (∀ b o, s.heap.get? b = some o → k.get? b = some o) → k.get? s.heap.objs.size = some { cls := .type "list", dict := none, data := .seq (ts.map Value.ref).toArray c, slots := #[] } → Tups knd k (s.heap.objs.size + 1) ts vs → Q (.ref s.heap.objs.size) { s with heap := k }) :
    wpAny (model P w) A (call (.type "list") [.ref v]) Q E s := by
  obtain ⟨h0, g, dd, tk, os⟩ := s
  have hv : h0.IsItemsView v d := hv
  have hm : h0.DictAt knd d vs ep := hm
  have nv : v < h0.objs.size := by obtain ⟨o, y, _⟩ := hv; exact Heap.lt_size y
  have ndd : d < h0.objs.size := hm.lt_size
  refine callType_codes (Q₁ := fun obj s₁ => obj = .ref h0.objs.size ∧ s₁ = ⟨h0.push { cls := .type "list", data := .seq #[] }, g, dd, tk, os⟩) F.called_list (F.typeCall_list_1 _) F.entry_list_init (code_list_new _ ⟨rfl, rfl⟩) fun obj s1 h1 => ?_
  obtain ⟨rfl, rfl⟩ := h1
  have hS : (h0.push { cls := .type "list", data := .seq #[] }).get? h0.objs.size = some { cls := .type "list", data := .seq #[] } := Heap.get?_push_size _ rfl
  refine ⟨⟨_, hS, rfl⟩, F.args_list_init_2 _ _, ?_⟩
  show wpAny _ A.in1.in1 (do let old ← Builtin.List.listItems (.ref h0.objs.size); Builtin.List.listUpdate (.ref h0.objs.size) (fun _ => #[]); letGo old.toList.reverse; Builtin.List.listExtendWith (.ref h0.objs.size) (.ref v) .none) _ _ _
  refine wpAny_bind ?_
  unfold Builtin.List.listItems
  refine wpAny_bind (wpAny_seqItems hS rfl (wpAny_pure ?_))
  show wpAny _ A.in1.in1 (updateSeq h0.objs.size (fun _ => #[]) >>= fun _ => letGo (#[] : Array Value).toList.reverse >>= fun _ => Builtin.List.listExtendWith (.ref h0.objs.size) (.ref v) .none) _ _ _
  refine wpAny_bind (wpAny_updateSeq hS rfl ?_)
  have S1 := Heap.get?_update_self (Obj.mapSeq (fun _ => (#[] : Array Value))) hS rfl
  have o1 : ∀ b o, h0.get? b = some o → ((h0.push { cls := .type "list", data := .seq #[] }).update h0.objs.size (Obj.mapSeq (fun _ => (#[] : Array Value)))).get? b = some o := fun b o y => (Heap.get?_update_other _ _ (Nat.ne_of_gt (Heap.lt_size y))).trans (Heap.get?_push_of_some _ y)
  have z1 : ((h0.push { cls := .type "list", data := .seq #[] }).update h0.objs.size (Obj.mapSeq (fun _ => (#[] : Array Value)))).objs.size = h0.objs.size + 1 := by simp
  generalize (h0.push { cls := .type "list", data := .seq #[] }).update h0.objs.size (Obj.mapSeq (fun _ => (#[] : Array Value))) = h1 at S1 o1 z1 ⊢
  refine wpAny_bind (wpAny_letGo ?_)
  have hv1 : h1.IsItemsView v d := by obtain ⟨o, y, r⟩ := hv; exact ⟨o, o1 _ _ y, r⟩
  have hm1 : h1.DictAt knd d vs ep := Heap.DictAt.at hm fun o y => o1 _ _ y
  unfold Builtin.List.listExtendWith
  refine wpAny_bind (wpAny_typeOf (T := "dict_items") hv1.typeIs ?_)
  have d1 : Builtin.List.listSameRef (.ref h0.objs.size) (.ref v) = false := by
    show (h0.objs.size == v) = false
    exact beq_eq_false_iff_ne.mpr (Nat.ne_of_gt nv)
  have d2 : (Value.type "dict_items" == Value.type "list") = false := by decide
  have d3 : (Value.type "dict_items" == Value.type "tuple") = false := by decide
  simp only [d1, d2, d3, Bool.or_false, Bool.false_eq_true, if_false]
  refine wpAny_bind (wpAny_pyIter_items hv1 hm1 ?_)
  have S2 := Heap.get?_push_of_some { cls := .type "dict_itemiterator", data := .fields #[.none, .bool false, .ref d, .int 0 0, .int vs.length 0, .int ep 0, .none, .none] } S1
  have o2 : ∀ b o, h0.get? b = some o → (h1.push { cls := .type "dict_itemiterator", data := .fields #[.none, .bool false, .ref d, .int 0 0, .int vs.length 0, .int ep 0, .none, .none] }).get? b = some o := fun b o y => Heap.get?_push_of_some _ (o1 b o y)
  have i2 : ItSt (h1.push { cls := .type "dict_itemiterator", data := .fields #[.none, .bool false, .ref d, .int 0 0, .int vs.length 0, .int ep 0, .none, .none] }) h1.objs.size d 0 vs.length ep := ⟨_, _, _, _, Heap.get?_push_size _ rfl, .inl ⟨rfl, rfl⟩⟩
  have z2 : (h1.push { cls := .type "dict_itemiterator", data := .fields #[.none, .bool false, .ref d, .int 0 0, .int vs.length 0, .int ep 0, .none, .none] }).objs.size = h0.objs.size + 2 := by rw [Heap.size_push, z1]
  show wpAny _ _ (_ >>= _) _ _ ⟨h1.push { cls := .type "dict_itemiterator", data := .fields #[.none, .bool false, .ref d, .int 0 0, .int vs.length 0, .int ep 0, .none, .none] }, g, dd, tk, os⟩
  generalize h1.push { cls := .type "dict_itemiterator", data := .fields #[.none, .bool false, .ref d, .int 0 0, .int vs.length 0, .int ep 0, .none, .none] } = h2 at S2 o2 i2 z2 ⊢
  have ty2 : Shared.TypeIs ⟨h2, g, dd, tk, os⟩ (.ref v) "dict_items" := by obtain ⟨o, y, c, _⟩ := hv; exact ⟨o, o2 _ _ y, c⟩
  have f1 := view_len
  have f2 := view_sub
  refine wpAny_bind (wpAny_holding ?_)
  unfold Builtin.List.listLengthHint
  refine wpAny_bind (wpAny_specialOf ty2 view_len ?_)
  simp only [sp_len]
  refine wpAny_bind (wpAny_isInstance ty2 view_sub ?_)
  simp only [Bool.not_true, Bool.false_eq_true, if_false]
  rw [if_pos ?si]
  case si => decide +kernel
  refine wpAny_bind (wpAny_typeOf ty2 (wpAny_pure ?_))
  rw [if_pos ?rs]
  case rs => decide +kernel
  refine wpAny_bind (wpAny_rule (wpAny_bind ?_))
  show wpAny _ _ (updateSeq h0.objs.size (·.push .none) >>= fun _ => updateSeq h0.objs.size (·.pop)) _ _ _
  refine wpAny_bind (wpAny_updateSeq S2 rfl ?_)
  have S3 := Heap.get?_update_self (Obj.mapSeq (·.push Value.none)) S2 rfl
  refine wpAny_updateSeq (hz := by seq_fits) S3 rfl ?_
  have S4 := Heap.get?_update_self (Obj.mapSeq (·.pop)) S3 rfl
  have oth : ∀ b o, b ≠ h0.objs.size → h2.get? b = some o → ((h2.update h0.objs.size (Obj.mapSeq (·.push Value.none))).update h0.objs.size (Obj.mapSeq (·.pop))).get? b = some o := fun b o n y => (Heap.get?_update_other _ _ (Ne.symm n)).trans ((Heap.get?_update_other _ _ (Ne.symm n)).trans y)
  have z4 : ((h2.update h0.objs.size (Obj.mapSeq (·.push Value.none))).update h0.objs.size (Obj.mapSeq (·.pop))).objs.size = h0.objs.size + 2 := by simp [z2]
  refine wpAny_pure ⟨plainId_quiet F.plain_extend_loop _, gather (A := A.in1) (knd := knd) (vs := vs) (lo := h0.objs.size + 2) (d := d) (ep := ep) hh (by rw [z1]; exact Nat.ne_of_lt (Nat.lt_succ_self _)) (Nat.ne_of_lt ndd) (by rw [z1]; exact Nat.ne_of_lt (Nat.lt_succ_of_lt ndd)) sz vs.length 0 _ [] _ (by omega) (Nat.zero_le _) (by show h0.objs.size + 2 ≤ _; rw [z4]; exact Nat.le_refl _) (Nat.lt_succ_of_lt (Nat.lt_succ_self _)) ?_ (Heap.DictAt.at hm fun o y => oth d o (Nat.ne_of_lt ndd) (o2 d o y)) S4 (by rw [z1]; exact Nat.lt_succ_self _) ⟨by simp, by simp, by simp, by simp⟩ fun k ts c ko kl kt => ?_⟩
  · obtain ⟨x0, b, ok, ov, x1, x2⟩ := i2
    refine ⟨x0, b, ok, ov, oth _ _ (by rw [z1]; exact Nat.ne_of_gt (Nat.lt_succ_self _)) x1, ?_⟩
    rcases x2 with x2 | ⟨a, oa, x3, x4⟩
    · exact .inl x2
    · refine .inr ⟨a, ?_⟩
      by_cases z : a = h0.objs.size
      · exact ⟨_, x3, by rw [z]; exact S4⟩
      · exact ⟨oa, x3, oth a oa z x4⟩
  · refine ⟨rfl, q k ts c (fun b o y => ko b o (Nat.ne_of_lt (Heap.lt_size y)) (by rw [z1]; exact Nat.ne_of_lt (Nat.lt_succ_of_lt (Heap.lt_size y))) (oth b o (Nat.ne_of_lt (Heap.lt_size y)) (o2 b o y))) kl ?_⟩
    obtain ⟨a1, a2, a3, a4⟩ := kt
    exact ⟨a1, a2, fun t ht => ⟨Nat.le_of_succ_le (a3 t ht).1, (a3 t ht).2⟩, a4⟩
end
end RV
set_option Elab.async false
set_option linter.all false
set_option maxRecDepth 100000
set_option maxHeartbeats 4000000
namespace L2
open PySem PySem.Spec PyProof.Rows
def vwO (p a : Addr) : HO := .ext fun h => h.IsItemsView p a
def lay (H : Hp) : List Addr → List HO → Hp
  | t :: ts, o :: os => lay (upd H t o) ts os
  | _, _ => H
theorem lay_ne {b : Addr} : ∀ {ts : List Addr} {os : List HO} {H : Hp}, b ∉ ts → lay H ts os b = H b
  | [], _, _, _ => by unfold lay; rfl
  | _ :: _, [], _, _ => by unfold lay; rfl
  | t :: ts, o :: os, H, h => by
    show lay (upd H t o) ts os b = H b
    rw [lay_ne (fun z => h (List.mem_cons_of_mem _ z)), upd_ne (fun z => h (by rw [z]; exact List.mem_cons_self))]
theorem lay_at : ∀ {ts : List Addr} {os : List HO} {H : Hp} {j : Nat} {t : Addr} {o : HO}, ts.Nodup → ts[j]? = some t → os[j]? = some o → lay H ts os t = some o
  | [], _, _, _, _, _, _, h, _ => by simp at h
  | _ :: _, [], _, _, _, _, _, _, h => by simp at h
  | t :: ts, o :: os, H, 0, t', o', nd, h, h' => by
    have e : t = t' := by simpa using h
    have e' : o = o' := by simpa using h'
    subst e e'
    show lay (upd H t o) ts os t = some o
    rw [lay_ne (List.nodup_cons.mp nd).1, upd_same]
  | t :: ts, o :: os, H, j + 1, t', o', nd, h, h' => lay_at (H := upd H t o) (List.nodup_cons.mp nd).2 (by simpa using h) (by simpa using h')
section
variable {X : Cx} {pins : List (Addr × Obj)} {σ : St} {H H' : Hp} {s : Shared}
theorem Inv.grow {k : Heap} {tk : Nat} (I : Inv X pins σ H s) (kept : ∀ b u, s.heap.get? b = some u → k.get? b = some u) (old : ∀ b, b < s.heap.objs.size → H' b = H b) (new : ∀ b o, s.heap.objs.size ≤ b → H' b = some o → ObjOk X.prog X.w H' k b o) : Inv X pins σ H' { s with heap := k, toks := tk } := by
  have lt : ∀ b o, H b = some o → H' b = some o := fun b o e => by rw [old b (I.hok.lt e)]; exact e
  refine I.call' (ch := []) rfl ⟨fun b o q _ _ _ => kept b o q, fun b o q _ _ _ => ⟨o.slots, kept b o q⟩, fun b o q n _ => by rw [old b (Heap.lt_size q)]; exact n, fun b o q _ => ⟨o, kept b o q⟩, fun b xs e => lt b _ e, fun b o u e => lt b _ e, fun b ps e => ⟨#[], by rw [Array.append_empty]; exact lt b _ e⟩⟩ (fun b o e => ?_) I.bare (fun b hb => by cases hb)
  by_cases z : b < s.heap.objs.size
  · rw [old b z] at e
    exact (I.hok b o e).stay (fun c u _ q => kept c u q) (fun c e => lt c _ e) fun c xs e => lt c _ e
  · exact new b o (Nat.le_of_not_lt z) e
end
section
variable {X : Cx}
theorem mt_items : MtM X "dict.items" (fun x xs H Q => ∃ a kvs, x = .ref a ∧ xs = [] ∧ H a = some (.dK kvs) ∧ ∀ p, H p = none → Q (.ref p) (upd H p (vwO p a))) := by
  intro pins s σ H x xs v us Q I rx rv h
  obtain ⟨a, kvs, rfl, rfl, e, q⟩ := h
  cases rx
  cases rv.zero
  obtain ⟨z, hd, vs, rel, dd⟩ := dk_of I.hok e
  have ty : s.TypeIs (.ref a) "dict" := dd.typeIs
  refine wpAny_call (codeAny_call_builtin PySem.F.slot_dict_items.plain PySem.F.entry_dict_items (PySem.F.slot_dict_items.check _ _ _ _ _ _ _ _ ty (PySem.F.args_dict_items_1 _) (meets_dict_items (mixKind X.prog X.w) a hd X.A (wants (EP X pins σ Q) X.xe) s ⟨⟨vs, dd⟩, ?_⟩)))
  refine ⟨.ref s.heap.objs.size, _, I.laid (o := vwO s.heap.objs.size a) (t' := s.toks) (fun b u y => Heap.get?_push_of_some _ y) (Nat.le_refl _) ?_, rfl, q _ (I.hok.fresh (Nat.le_refl _))⟩
  exact ⟨⟨_, Heap.get?_push_size _ rfl, rfl, rfl⟩, ⟨_, Heap.get?_push_size _ rfl⟩, fun h1 h2 ⟨o, y, r⟩ k => ⟨o, k _ y, r⟩⟩
theorem rel_key {P : Program} {w : World} {k : Key} {u : Value} (h : (mixKind P w).is k u = true) : RelV (kV k) u := by
  rcases keyIs_shape (show keyIs k u = true from h) with ⟨i, t, rfl, rfl⟩ | ⟨x, t, rfl, rfl⟩
  · exact ⟨t, rfl⟩
  · exact ⟨t, rfl⟩
theorem kv_at : ∀ {kvs : List (Key × V)} {vs : List (Key × Value)} {j : Nat} {k : Key} {v : V}, KV kvs vs → kvs[j]? = some (k, v) → ∃ u, vs[j]? = some (k, u) ∧ RelV v u
  | _, _, j, _, _, .nil, h => by simp at h
  | _, _, 0, k, v, .cons (a := a) (b := b) r _, h => by
    have e : a = (k, v) := by simpa using h
    subst e
    exact ⟨b.2, by simp; exact Prod.ext r.1.symm rfl, r.2⟩
  | _, _, j + 1, k, v, .cons r rr, h => by
    obtain ⟨u, h1, h2⟩ := kv_at rr (show _ = some (k, v) by simpa using h)
    exact ⟨u, by simpa using h1, h2⟩
theorem valsRef : ∀ ts : List Addr, Vals (ts.map V.ref) (ts.map Value.ref)
  | [] => .nil
  | t :: ts => .cons rfl (valsRef ts)
theorem call_listV (hc : X.calm = true) : CallR X (.type "list") (fun xs H Q => ∃ p a kvs, xs = [.ref p] ∧ H p = some (vwO p a) ∧ H a = some (.dK kvs) ∧ ∀ (l : Addr) (ts : List Addr) (H' : Hp), Kp [] H H' → H l = none → H' l = some (.lst (ts.map V.ref)) → ts.length = kvs.length →
    (∀ (j : Nat) (t : Addr) (k : Key) (v : V), ts[j]? = some t → kvs[j]? = some (k, v) → H t = none ∧ H' t = some (.tup [kV k, v])) → Q (.ref l) H') := by
  intro pins s σ H xs us Q I rv h
  obtain ⟨p, a, kvs, rfl, ep, ea, q⟩ := h
  obtain ⟨u, rfl, ru⟩ := rv.one
  cases ru
  obtain ⟨z, hd, vs, rel, dd⟩ := dk_of I.hok ea
  obtain ⟨hv, _, _⟩ : ObjOk X.prog X.w H s.heap p (vwO p a) := I.hok p _ ep
  obtain ⟨o, es, ep', y1, y2, y3, y4, y5, y6⟩ := id dd
  have hl := rel.length
  refine RV.list_view (knd := mixKind X.prog X.w) (I.ok.hd hc) hv (vs := vs) (ep := ep') ⟨o, es, y1, y2, y3, y4, y5, y6⟩ (by omega) fun k ts c ko kl kt => ?_
  obtain ⟨a1, a2, a3, a4⟩ := kt
  have tin : ∀ b, b < s.heap.objs.size → b ∉ ts := fun b hb z => Nat.lt_irrefl _ (Nat.lt_of_lt_of_le (Nat.lt_succ_of_lt hb) (a3 b z).1)
  have tl : s.heap.objs.size ∉ ts := fun z => Nat.lt_irrefl _ (a3 _ z).1
  have tne : ∀ t ∈ ts, t ≠ s.heap.objs.size := fun t ht e => tl (e ▸ ht)
  have at' : ∀ (j : Nat) (t : Addr) (kk : Key) (v : V), ts[j]? = some t → kvs[j]? = some (kk, v) → upd (lay H ts (kvs.map fun kv => .tup [kV kv.1, kv.2])) s.heap.objs.size (.lst (ts.map V.ref)) t = some (.tup [kV kk, v]) := fun j t kk v e1 e2 => by
    rw [upd_ne (tne t (List.mem_of_getElem? e1))]
    exact lay_at a2 e1 (by rw [List.getElem?_map, e2]; rfl)
  have old : ∀ b, b < s.heap.objs.size → upd (lay H ts (kvs.map fun kv => .tup [kV kv.1, kv.2])) s.heap.objs.size (.lst (ts.map V.ref)) b = H b := fun b hb => by rw [upd_ne (Nat.ne_of_lt hb), lay_ne (tin b hb)]
  refine ⟨.ref s.heap.objs.size, upd (lay H ts (kvs.map fun kv => .tup [kV kv.1, kv.2])) s.heap.objs.size (.lst (ts.map V.ref)), I.grow (tk := s.toks) ko old fun b o hb e => ?_, rfl, q _ ts _ (fun b o e _ => by rw [old b (I.hok.lt e)]; exact e) (I.hok.fresh (Nat.le_refl _)) upd_same (by omega) fun j t kk v e1 e2 => ⟨I.hok.fresh (Nat.le_of_succ_le (a3 t (List.mem_of_getElem? e1)).1), at' j t kk v e1 e2⟩⟩
  by_cases c1 : b = s.heap.objs.size
  · subst c1
    rw [upd_same] at e
    cases e
    exact ⟨by rw [List.length_map]; omega, ts.map Value.ref, c, valsRef ts, kl⟩
  · by_cases c2 : b ∈ ts
    · obtain ⟨j, hj, ej⟩ := List.mem_iff_getElem.mp c2
      have e1 : ts[j]? = some b := by rw [← ej]; exact List.getElem?_eq_getElem hj
      have hjk : j < kvs.length := by omega
      have e2 : kvs[j]? = some (kvs[j].1, kvs[j].2) := List.getElem?_eq_getElem hjk
      rw [at' j b _ _ e1 e2] at e
      cases e
      obtain ⟨u, e3, r3⟩ := kv_at rel e2
      obtain ⟨key, r4, e4⟩ := a4 j b _ _ e1 e3
      exact ⟨by show (2 : Nat) ≤ sizeLine; decide, [key, u], .cons (rel_key r4) (.cons r3 .nil), ⟨_, e4, rfl, _, rfl⟩⟩
    · rw [upd_ne c1, lay_ne c2, I.hok.fresh hb] at e
      cases e
theorem valsRefs : ∀ (ts : List Addr) {its : List Value}, Vals (ts.map V.ref) its → its = ts.map Value.ref
  | [], _, .nil => rfl
  | t :: ts, _, .cons r rr => by rw [valsRefs ts rr, show _ = Value.ref t from r]; rfl
theorem kv_keys : ∀ {kvs : List (Key × V)} {vs : List (Key × Value)}, KV kvs vs → kvs.map (·.1) = vs.map (·.1)
  | _, _, .nil => rfl
  | _, _, .cons r rr => by rw [List.map_cons, List.map_cons, kv_keys rr, r.1]
theorem pairs_of {pins : List (Addr × Obj)} {σ : St} {H : Hp} {s : Shared} (I : Inv X pins σ H s) : ∀ {kvs : List (Key × V)} {ts : List Addr}, ts.length = kvs.length →
    (∀ (j : Nat) (t : Addr) (k : Key) (v : V), ts[j]? = some t → kvs[j]? = some (k, v) → H t = some (.tup [kV k, v])) → ∃ vs, KV kvs vs ∧ ∀ (j : Nat) (t : Addr) (k : Key) (u : Value), ts[j]? = some t → vs[j]? = some (k, u) → ∃ key n o, (mixKind X.prog X.w).is k key = true ∧ s.heap.get? t = some o ∧ o.cls = .type "tuple" ∧ o.data = .seq #[key, u] n
  | [], [], _, _ => ⟨[], .nil, fun j t k u h _ => by simp at h⟩
  | [], _ :: _, h, _ => by simp at h
  | _ :: _, [], h, _ => by simp at h
  | (k, v) :: kvs, t :: ts, h, f => by
    obtain ⟨vs, h1, h2⟩ := pairs_of I (kvs := kvs) (ts := ts) (by simpa using h) fun j t' k' v' x y => f (j + 1) t' k' v' (by simpa using x) (by simpa using y)
    obtain ⟨_, its, rr, o, g1, g2, n, g3⟩ : ObjOk X.prog X.w H s.heap t (.tup [kV k, v]) := I.hok t _ (f 0 t k v rfl rfl)
    obtain ⟨key, u, rfl, r1, r2⟩ := rr.two
    refine ⟨(k, u) :: vs, .cons ⟨rfl, r2⟩ h1, fun j t' k' u' x y => ?_⟩
    cases j with
    | zero =>
      have x : t = t' := by simpa using x
      have y : k = k' ∧ u = u' := by simpa using y
      obtain ⟨rfl, rfl⟩ := y
      subst x
      exact ⟨key, n, o, kV_is r1, g1, g2, g3⟩
    | succ j => exact h2 j t' k' u' (by simpa using x) (by simpa using y)
end
end L2
set_option Elab.async false
set_option linter.all false
set_option maxRecDepth 100000
set_option maxHeartbeats 4000000
namespace L2
open PySem PySem.Spec PyProof.Rows
section
variable {X : Cx} {pins : List (Addr × Obj)} {σ : St} {H : Hp} {s : Shared} {a : Addr} {u o' : HO}
theorem Inv.retell (I : Inv X pins σ H s) (e : H a = some u) (nt : ∀ xs, u ≠ .tup xs) (no : ∀ x, u ≠ .own x) (nb : ∀ ps, u ≠ .tbl ps) (nf : ∀ o v, X.H₀ a ≠ some (.frz o v)) (new : ObjOk X.prog X.w (upd H a o') s.heap a o') : Inv X pins σ (upd H a o') s := by
  have ne : ∀ b, H b = none → b ≠ a := fun b h z => by rw [z, e] at h; cases h
  refine ⟨I.ok, I.os, I.bare, ⟨I.base.keep, I.base.slot, fun b o q n x => ?_, I.base.there, fun b xs q => ?_, fun b o v q => ?_, fun b ps q => ?_⟩, I.loc, I.cell, ?_, fun x c h => ?_, fun p hp => ?_, fun b o q => ?_, I.len⟩
  · have := I.base.free b o q n x
    rw [upd_ne (ne b this)]; exact this
  · have := I.base.tups b xs q
    rw [upd_ne (fun z => by rw [z, e] at this; exact nt xs (Option.some.inj this))]; exact this
  · have := I.base.frzs b o v q
    rw [upd_ne (fun z => nf o v (by rw [← z]; exact q))]; exact this
  · obtain ⟨more, this⟩ := I.base.tbls b ps q
    exact ⟨more, by rw [upd_ne (fun z => by rw [z, e] at this; exact nb _ (Option.some.inj this))]; exact this⟩
  · rw [upd_ne (ne _ I.free)]; exact I.free
  · rw [upd_ne (ne _ (I.freeC x c h))]; exact I.freeC x c h
  · obtain ⟨h1, h2, h3⟩ := I.pin p hp
    exact ⟨h1, by rw [upd_ne (ne _ h2)]; exact h2, h3⟩
  · by_cases z : b = a
    · subst z; rw [upd_same] at q; cases q; exact new
    · rw [upd_ne z] at q
      refine (I.hok b o q).stay (fun c v _ y => y) (fun c y => ?_) fun c xs y => ?_
      · rw [upd_ne (fun z => by rw [z, e] at y; exact no _ (Option.some.inj y))]; exact y
      · rw [upd_ne (fun z => by rw [z, e] at y; exact nt _ (Option.some.inj y))]; exact y
end
def thawE (D : Ends) (a : Addr) (o : Obj) (kvs : List (Key × V)) : Ends where
  nx := fun σ H => H a = some (.frz o (.dK kvs)) ∧ D.nx σ (upd H a (.dK kvs))
  rt := fun v H => H a = some (.frz o (.dK kvs)) ∧ D.rt v (upd H a (.dK kvs))
  bk := fun σ H => H a = some (.frz o (.dK kvs)) ∧ D.bk σ (upd H a (.dK kvs))
  ct := fun σ H => H a = some (.frz o (.dK kvs)) ∧ D.ct σ (upd H a (.dK kvs))
section
variable {X : Cx}
theorem Inv.thaw {pins : List (Addr × Obj)} {σ : St} {H : Hp} {s : Shared} {a : Addr} {o : Obj} {kvs : List (Key × V)} (I : Inv X pins σ H s) (e : H a = some (.frz o (.dK kvs))) (nf : ∀ o v, X.H₀ a ≠ some (.frz o v)) : Inv X pins σ (upd H a (.dK kvs)) s := by
  obtain ⟨_, z⟩ : ObjOk X.prog X.w H s.heap a (.frz o (.dK kvs)) := I.hok a _ e
  exact I.retell e (fun _ h => nomatch h) (fun _ h => nomatch h) (fun _ h => nomatch h) nf z
theorem ps_frz {st : Stmt} {t : TS} (h : PS X st t) : PS X st (fun D σ H => ∃ a kvs, H a = some (.dK kvs) ∧ ∀ o, t (thawE D a o kvs) σ (upd H a (.frz o (.dK kvs)))) := by
  intro pins s σ H D I ⟨a, kvs, e, q⟩
  have ok : ObjOk X.prog X.w H s.heap a (.dK kvs) := I.hok a _ e
  obtain ⟨_, _, _, _, o, _, _, ho, _⟩ := id ok
  have nf : ∀ o v, X.H₀ a ≠ some (.frz o v) := fun o v z => by
    have := I.base.frzs a o v z
    rw [e] at this; cases this
  have I1 : Inv X pins σ (upd H a (.frz o (.dK kvs))) s := I.retell e (fun _ h => nomatch h) (fun _ h => nomatch h) (fun _ h => nomatch h) nf ⟨ho, ok⟩
  refine thn (h pins s σ _ _ I1 (q o)) fun f s' r => ?_
  cases f with
  | next => obtain ⟨σ', H', I', e', d'⟩ := r; exact ⟨σ', _, I'.thaw e' nf, d'⟩
  | brk => obtain ⟨σ', H', I', e', d'⟩ := r; exact ⟨σ', _, I'.thaw e' nf, d'⟩
  | cont => obtain ⟨σ', H', I', e', d'⟩ := r; exact ⟨σ', _, I'.thaw e' nf, d'⟩
  | ret u => obtain ⟨v, σ', H', I', rv, e', d'⟩ := r; exact ⟨v, σ', _, I'.thaw e' nf, rv, d'⟩
end
end L2
set_option Elab.async false
set_option linter.all false
set_option maxRecDepth 100000
set_option maxHeartbeats 4000000
namespace RV
open PySem
theorem e_itemIter : entryFor table "dict_itemiterator.__iter__" = some Builtin.«dict_keyiterator.__iter__» :=
  entryFor_alias (id' := "dict_keyiterator.__iter__") (by kernel_rfl) (by decide +kernel) (by decide +kernel) (by kernel_rfl)
end RV
namespace L2
open PySem PySem.Spec PyProof.Rows
def Itm (a : Addr) (o : Obj) (kvs : List (Key × V)) : It :=
  ⟨fun i H => H a = some (.frz o (.dK kvs)) ∧ i < kvs.length, fun i H v H' => ∃ t k x, v = .ref t ∧ H t = none ∧ kvs[i]? = some (k, x) ∧ H' = upd H t (.tup [kV k, x]), fun i H => H a = some (.frz o (.dK kvs)) ∧ kvs.length ≤ i⟩
theorem frz_at {X : Cx} {pins : List (Addr × Obj)} {σ : St} {H : Hp} {s : Shared} {a : Addr} {o : Obj} {kvs : List (Key × V)} (I : Inv X pins σ H s) (e : H a = some (.frz o (.dK kvs))) :
    ∃ vs es ep, KV kvs vs ∧ o.data = .dict es ep ∧ es.size = kvs.length ∧ s.heap.DictAt (mixKind X.prog X.w) a vs ep ∧ (a == sysModules) = false ∧ kvs.length ≤ sizeLine ∧ s.heap.get? a = some o ∧ o.ExactDict := by
  obtain ⟨ho, z, hd, vs, rel, o1, es, ep, y1, y2, y3, y4, y5, y6⟩ : ObjOk X.prog X.w H s.heap a (.frz o (.dK kvs)) := I.hok a _ e
  rw [ho] at y1
  cases y1
  have l1 := y5.length
  have l2 := rel.length
  exact ⟨vs, es, ep, rel, y3, by simp only [Array.length_toList] at l1; omega, ⟨o, es, ho, y2, y3, y4, y5, y6⟩, hd, z, ho, y2⟩
theorem turn_items {P : Program} {w : World} {K : PySem.W.Frag} {elts : List Expr} {kk : Nat} {tp : Pos} (a it : Addr) (o : Obj) (es : Array DictEntry) (ep : Nat) (kvs : List (Key × V)) (hd : o.data = .dict es ep) (sz : es.size = kvs.length) : Turn P w K (.Tuple elts kk tp) (Itm a o kvs) [it] it (fun i h => ∃ ok ov, IsItemIter h it a i kvs.length ep ok ov) where
  mem := by simp
  obj := fun i h ⟨ok, ov, st⟩ b hb => by
    have : b = it := by simpa using hb
    subst this
    exact ⟨_, st, fun v y => by cases y⟩
  keep := fun i h h' ⟨ok, ov, st⟩ k => ⟨ok, ov, k it (by simp) _ st⟩
  item := by
    intro X hP hw hK hc i pins s σ H E I hf st hg
    subst hP hw hK
    obtain ⟨e, hi⟩ := hg
    obtain ⟨ok, ov, st⟩ := st
    obtain ⟨vs, es', ep', rel, hd', _, da, _, _, ho, _⟩ := frz_at I e
    have ee : ep' = ep := by rw [hd] at hd'; cases hd'; rfl
    subst ee
    have len := rel.length
    have ek : kvs[i]? = some (kvs[i].1, kvs[i].2) := List.getElem?_eq_getElem hi
    obtain ⟨v, ev, rv⟩ := kv_at rel ek
    rw [len] at st
    refine wpAny_pyNext_items_item st da ev fun key h1 hk eo t1 z1 o1 => ?_
    refine ⟨_, rfl, wpAny_letOwnedTupleGo_items eo fun h2 e2 b2 => ?_⟩
    have b2 : Heap.SameBut it h1 h2 := b2
    have ilt : it < s.heap.objs.size := Heap.lt_size st
    have t2 : h2.get? s.heap.objs.size = some { cls := .type "tuple", data := .seq #[key, v] } := b2.extBut _ _ (Nat.ne_of_gt ilt) t1
    have on : ∀ b u, b ∉ [it] → s.heap.get? b = some u → h2.get? b = some u := fun b u nb y => b2.extBut b u (fun z => nb (by simp [z])) (o1 b u (fun z => nb (by simp [z])) y)
    have hn : ∀ b ∈ [it], H b = none := fun b hb => (hf b hb).1
    have new : ObjOk X.prog X.w (upd H s.heap.objs.size (.tup [kV kvs[i].1, kvs[i].2])) h2 s.heap.objs.size (.tup [kV kvs[i].1, kvs[i].2]) := ⟨by show (2 : Nat) ≤ sizeLine; decide, [key, v], .cons (rel_key hk) (.cons rv .nil), ⟨_, t2, rfl, _, rfl⟩⟩
    have I2 : Inv X pins σ (upd H s.heap.objs.size (.tup [kV kvs[i].1, kvs[i].2])) { s with heap := h2 } := I.call' (ch := [it]) rfl (un_laid on (Nat.le_refl _) (I.hok.fresh (Nat.le_refl _))) (hok_laid I.hok on hn (Nat.le_refl _) new) I.bare fun b hb => by
      obtain ⟨_, f1, _, f3, f4, f5⟩ := hf b hb
      exact ⟨f3, f1, f4, f5⟩
    rw [← len] at e2
    refine ⟨.ref s.heap.objs.size, _, I2, rfl, ⟨_, _, _, rfl, I.hok.fresh (Nat.le_refl _), ek, rfl⟩, ⟨_, _, e2⟩, fun b hb => ?_⟩
    have hb' := hn b hb
    have : b = it := by simpa using hb
    rw [upd_ne (by rw [this]; exact Nat.ne_of_lt ilt)]; exact hb'
  done := by
    intro X hP hw hK hc i pins s σ H E I hf st hg
    subst hP hw hK
    obtain ⟨e, hi⟩ := hg
    obtain ⟨ok, ov, st⟩ := st
    obtain ⟨vs, es', ep', rel, hd', _, da, _, _, ho, _⟩ := frz_at I e
    have ee : ep' = ep := by rw [hd] at hd'; cases hd'; rfl
    subst ee
    have len := rel.length
    rw [len] at st
    obtain ⟨f0, f1, f2, f3, f4, f5⟩ := hf it (by simp)
    exact wpAny_pyNext_items_end (I.ok.hd hc) st da (by simp; omega) fun h' eb => ⟨rfl, I.turned (t' := s.toks) (fun b o hb y => eb b o hb y) f0 f1 f3 f4 f5⟩
  self := fun A i s Q E ⟨ok, ov, st⟩ h => by
    have ty : s.TypeIs (.ref it) "dict_itemiterator" := ⟨_, st, rfl⟩
    refine wpAny_pyIter_slot ty PySem.F.slot_dict_itemiterator_iter (wpAny_call_entry PySem.F.slot_dict_itemiterator_iter ty RV.e_itemIter ?_ (PySem.F.args_dict_itemiterator_iter_1 _))
    exact wpAny_bind (wpAny_pure (wpAny_pure ⟨_, rfl, "dict_itemiterator", _, ty, PySem.F.slot_dict_itemiterator_next.lookup, h⟩))
end L2
set_option Elab.async false
set_option linter.all false
set_option maxRecDepth 100000
set_option maxHeartbeats 4000000
namespace L2
open PySem PySem.Spec PyProof.Rows
section
variable {X : Cx} {elts : List Expr} {kk : Nat} {tp : Pos}
theorem pi_items {o : Expr} {to : TE} {apos cpos : Pos} (ho : PE X o to) (hbase : attributeBase o "items" X.env (eval o X.env) = eval o X.env := by rfl) (hline : (apos.endLine == cpos.line) = true := by rfl) :
    PI X (.Tuple elts kk tp) (.Call (.Attribute o "items" apos) [] [] cpos) (fun σ H R => to σ H fun x H1 => ∃ a ob kvs, x = .ref a ∧ H1 a = some (.frz ob (.dK kvs)) ∧ R (Itm a ob kvs) H1) := by
  intro pins s σ H R I h
  refine wpAny_Call_method0_late hbase hline (thn (ho pins s σ H _ I h) fun v s1 ⟨x, H1, I1, r1, a, ob, kvs, ex, e, q⟩ => ?_)
  subst ex
  cases r1
  obtain ⟨vs, es, ep, rel, hd, sz, da, nsys, z, hget, exd⟩ := frz_at I1 e
  have ty : s1.TypeIs (.ref a) "dict" := ⟨_, hget, exd.1⟩
  have len := rel.length
  refine ⟨"dict", "dict.items", PySem.F.plainAttrs_dict, PySem.F.slot_dict_items, PySem.F.type_dict_items, ty, (fun b y => by cases y; exact ⟨ob, hget, exd.2.1⟩), Calls.callWith_builtin rfl (PySem.evalArgs_none ?_)⟩
  obtain ⟨o2, es2, y1, y2, y3, y4, y5, y6⟩ := id da
  refine wpAny_call (codeAny_call_builtin PySem.F.slot_dict_items.plain PySem.F.entry_dict_items (PySem.F.slot_dict_items.check _ _ _ _ _ _ _ _ ty (PySem.F.args_dict_items_1 _) (meets_dict_items (mixKind X.prog X.w) a nsys X.A (wants (fun v s1 => wpAny (model X.prog X.w) X.A (pyIter v) (PIE X pins σ (.Tuple elts kk tp) R) X.xe s1) X.xe) s1 ⟨⟨vs, o2, es2, ep, y1, y2, y3, y4, y5, y6⟩, ?_⟩)))
  show wpAny _ _ (pyIter _) _ _ _
  have hv : (s1.heap.push { cls := .type "dict_items", data := .fields #[.ref a] }).IsItemsView s1.heap.objs.size a := ⟨_, Heap.get?_push_size _ rfl, rfl, rfl⟩
  have da' : (s1.heap.push { cls := .type "dict_items", data := .fields #[.ref a] }).DictAt (mixKind X.prog X.w) a vs ep := ⟨o2, es2, Heap.get?_push_of_some _ y1, y2, y3, y4, y5, y6⟩
  refine wpAny_pyIter_items (s := { s1 with heap := s1.heap.push { cls := .type "dict_items", data := .fields #[.ref a] } }) hv da' ?_
  have k1 : ∀ b u, s1.heap.get? b = some u → ((s1.heap.push { cls := .type "dict_items", data := .fields #[.ref a] }).push { cls := .type "dict_itemiterator", data := .fields #[.none, .bool false, .ref a, .int 0 0, .int vs.length 0, .int ep 0, .none, .none] }).get? b = some u := fun b u y => Heap.get?_push_of_some _ (Heap.get?_push_of_some _ y)
  refine ⟨_, [(s1.heap.push { cls := .type "dict_items", data := .fields #[.ref a] }).objs.size], _, _, H1, rfl, I1.kept (t' := s1.toks) k1, turn_items a _ ob es ep kvs hd sz, ⟨_, _, by rw [len]; exact Heap.get?_push_size _ rfl⟩, fun b hb => ?_, q⟩
  have : b = (s1.heap.push { cls := .type "dict_items", data := .fields #[.ref a] }).objs.size := by simpa using hb
  subst this
  have ge : s1.heap.objs.size ≤ (s1.heap.push { cls := .type "dict_items", data := .fields #[.ref a] }).objs.size := by rw [Heap.size_push]; exact Nat.le_succ _
  exact I1.fpOk ge (I1.hok.fresh ge)
end
theorem for_items {a : Addr} {o : Obj} {kvs : List (Key × V)} {g : TG} {tb : TS} {D : Ends} {σ : St} {H : Hp} (Pv : Nat → St → Hp → Prop) (h0 : Pv 0 σ H) (hl : ∀ i σ H, i ≤ kvs.length → Pv i σ H → H a = some (.frz o (.dK kvs)))
    (hs : ∀ i k v σ H t, kvs[i]? = some (k, v) → Pv i σ H → H t = none → g (.ref t) σ (upd H t (.tup [kV k, v])) fun σ2 H2 => tb { D with nx := Pv (i + 1), ct := Pv (i + 1), bk := D.nx } σ2 H2) (hd : ∀ σ H, Pv kvs.length σ H → D.nx σ H) :
    ∃ W : Nat → Nat → St → Hp → Prop, (∃ m, W 0 m σ H) ∧ ∀ i m σ H, W i m σ H →
      ((Itm a o kvs).stop i H ∧ D.nx σ H) ∨ ((Itm a o kvs).go i H ∧ ∃ N : St → Hp → Prop, (∀ σ' H', N σ' H' → ∃ m', m' < m ∧ W (i + 1) m' σ' H') ∧ ∀ x H', (Itm a o kvs).yld i H x H' → g x σ H' fun σ2 H2 => tb { D with nx := N, ct := N, bk := D.nx } σ2 H2) := by
  refine ⟨fun i m σ H => m = kvs.length - i ∧ i ≤ kvs.length ∧ Pv i σ H, ⟨kvs.length, by simp, Nat.zero_le _, h0⟩, ?_⟩
  rintro i m σ H ⟨rfl, hi, p⟩
  by_cases hlt : i < kvs.length
  · refine .inr ⟨⟨hl i σ H hi p, hlt⟩, Pv (i + 1), fun σ' H' p' => ⟨_, ?_, rfl, hlt, p'⟩, fun x H' y => ?_⟩
    · show kvs.length - (i + 1) < kvs.length - i
      omega
    · obtain ⟨t, k, v, rfl, ft, ek, rfl⟩ := y
      exact hs i k v σ H t ek p ft
  · have e : i = kvs.length := by omega
    subst e
    exact .inl ⟨⟨hl _ σ H hi p, Nat.le_refl _⟩, hd σ H p⟩
end L2
set_option Elab.async false
set_option linter.all false
set_option maxRecDepth 100000
set_option maxHeartbeats 4000000
namespace L2
open PySem PySem.Spec PyProof.Rows
section
variable {X : Cx}
end
end L2
set_option Elab.async false
set_option linter.all false
set_option maxRecDepth 100000
set_option maxHeartbeats 4000000
namespace L2
open PySem PySem.Spec PyProof.Rows
section
variable {X : Cx}
end
end L2
set_option Elab.async false
set_option linter.all false
set_option maxRecDepth 100000
set_option maxHeartbeats 4000000
namespace L2
open PySem PySem.Spec PyProof.Rows
section
variable {X : Cx}
theorem strs_of : ∀ (vs : List Value) (ks : List Str), vs.length = ks.length → (∀ (j : Nat) (v : Value), vs[j]? = some v → ∃ x t, ks[j]? = some x ∧ v = .str x t) → StrsAre vs ks
  | [], [], _, _ => .nil
  | [], _ :: _, h, _ => by simp at h
  | _ :: _, [], h, _ => by simp at h
  | v :: vs, k :: ks, h, f => by
    obtain ⟨x, t, e1, e2⟩ := f 0 v rfl
    have e1 : k = x := by simpa using e1
    subst e1 e2
    exact .cons k t (strs_of vs ks (by simpa using h) fun j v e => by
      obtain ⟨x, t, e1, e2⟩ := f (j + 1) v (by simpa using e)
      exact ⟨x, t, by simpa using e1, e2⟩)
end
end L2
set_option Elab.async false
set_option linter.all false
set_option maxRecDepth 100000
set_option maxHeartbeats 4000000
namespace L2
open PySem PySem.Spec PyProof.Rows
section
variable {X : Cx}
end
end L2
set_option Elab.async false
set_option linter.all false
set_option maxRecDepth 100000
set_option maxHeartbeats 4000000
namespace ST
open PySem PyProof.Rows PySem.W
section
variable {prog : Program} {w : World} {A : Around} {E : Value → Shared → Prop} {s : Shared}
theorem w_lsortR {κ : PyProof.Rows.KeyKind} {kd : SortKind} {a : Addr} {vs : List Value} {n : Nat} {P : Fin → Shared → Prop} (ho : s.heap.get? a = some (seqObj "list" vs.toArray n)) (hz : vs.length ≤ 4096)
    (hS : ∀ h', (∀ b o, b ≠ a → s.heap.get? b = some o → h'.get? b = some o) → Sortable prog w A κ kd vs { s with heap := h' })
    (h : ∀ out : Array Value, out.toList.Perm vs → P (.done (.ret .none)) { s with heap := sortedHeap s.heap a vs out }) :
    wpAny (model prog w) A (Builtin.«list.sort» ⟨[.ref a], [(Str.ofString "reverse", .bool true)]⟩) P E s := by
  rw [list_sort_rev]
  have hsl : (4096 : Nat) ≤ sizeLine := by decide +kernel
  have ha : a < s.heap.objs.size := Heap.lt_size ho
  have hsz : vs.toArray.size = vs.length := by simp
  refine wpAny_bind (listItems_at ho rfl ?_)
  refine wpAny_bind (listUpdate_at ho rfl ?_ (by omega) (Nat.zero_le _))
  have h1 : (s.heap.update a (Obj.mapSeq fun _ => #[])).get? a = some (seqObj "list" #[] _) := get?_update_seq ho fun _ => #[]
  refine wpAny_bind (seqEpoch_at h1 rfl ?_)
  refine wpAny_bind (wpAny_newTuple ?_ (by show vs.toArray.toList.length ≤ _; simp; omega))
  refine wpAny_bind (wpAny_newList ?_ (Nat.zero_le _))
  refine wpAny_holding ?_
  have h6 := Heap.get?_push_of_some (seqObj "list" #[] 0) (Heap.get?_push_of_some (seqObj "tuple" vs.toArray 0) h1)
  change wpAny (model prog w) A _ P E { s with heap := ((s.heap.update a (Obj.mapSeq fun _ => #[])).push (seqObj "tuple" vs.toArray 0)).push (seqObj "list" #[] 0) }
  have S6 := hS (((s.heap.update a (Obj.mapSeq fun _ => #[])).push (seqObj "tuple" vs.toArray 0)).push (seqObj "list" #[] 0)) fun b o hb q => by
    refine Heap.get?_push_of_some _ (Heap.get?_push_of_some _ ?_)
    rw [Heap.get?_update_other _ _ (Ne.symm hb)]
    exact q
  have e0 : ((vs.toArray.zip vs.toArray).reverse).Perm (pairsOf vs) := Array.perm_iff_toList_perm.mpr (by rw [Array.toList_reverse]; exact List.reverse_perm _)
  have fin : ∀ xs : Array Keyed, xs.Perm (pairsOf vs) → ((xs.map (·.2)).reverse).toList.Perm vs := fun xs p => by rw [Array.toList_reverse]; exact (List.reverse_perm _).trans (snd_perm p)
  have siz : ∀ xs : Array Keyed, xs.Perm (pairsOf vs) → ((xs.map (·.2)).reverse).size ≤ sizeLine := fun xs p => by
    have := (fin xs p).length_eq
    rw [Array.length_toList] at this
    omega
  dsimp only
  simp only [if_true]
  refine wpAny_bind (wpAny_rule ?_)
  by_cases c : vs.toArray.size < 2
  · rw [if_pos c, if_pos c]
    refine wpAny_bind (wpAny_pure ?_)
    rw [StateT.run_pure]
    refine wpAny_bind (wpAny_pure ?_)
    dsimp only
    refine wpAny_bind (seqEpoch_at h6 rfl ?_)
    refine wpAny_bind (listUpdate_at h6 rfl ?_ (Nat.zero_le _) (Nat.le_trans (siz _ (show (arrOf (SortSt.mk' general' ((vs.toArray.zip vs.toArray).reverse) #[] 7 none)).Perm (pairsOf vs) from e0)) (by omega)))
    simp only [bne_self_eq_false, Bool.false_eq_true, if_false]
    exact wpAny_pure (h _ (fin _ (show (arrOf (SortSt.mk' general' ((vs.toArray.zip vs.toArray).reverse) #[] 7 none)).Perm (pairsOf vs) from e0)))
  · rw [if_neg c, if_neg c]
    refine wpAny_bind (S6.kind (by omega) _ _ ?_)
    have W := Tim.w_sort (E := E) (a₀ := pairsOf vs) (st := SortSt.mk' kd ((vs.toArray.zip vs.toArray).reverse) #[] 7 none) (Q := fun _ st' => failedOf st' = none ∧ (arrOf st').Perm (pairsOf vs)) S6.cmp (fun p hp => by
      rw [pairsOf_toList] at hp
      exact S6.has _ (mem_zip_self hp).2) rfl rfl e0 rfl (by rw [pairsOf_size]; omega) fun st' q1 q2 q3 => ⟨q1, q2⟩
    refine wpAny_bind (wpAny_mono W ?_ fun _ _ e => e)
    rintro ⟨⟨⟩, st'⟩ s' ⟨rfl, q1, q2⟩
    dsimp only
    refine wpAny_bind (seqEpoch_at h6 rfl ?_)
    refine wpAny_bind (listUpdate_at h6 rfl ?_ (Nat.zero_le _) (Nat.le_trans (siz _ q2) (by omega)))
    rw [q1]
    simp only [bne_self_eq_false, Bool.false_eq_true, if_false]
    exact wpAny_pure (h _ (fin _ q2))
theorem w_sortedR {κ : PyProof.Rows.KeyKind} {kd : SortKind} {v : Value} {Q : Value → Shared → Prop} {J : List Value → Shared → Prop} (hc : wpAny (model prog w) A.in1 (collect v) J E s)
    (hJ : ∀ vs s1, J vs s1 → vs.length ≤ 4096 ∧ (∀ h', Up s1.heap h' → Sortable prog w A.in1.in1 κ kd vs { s1 with heap := h' }) ∧
      ∀ (out : List Value) c h', out.Perm vs → h'.get? s1.heap.objs.size = some (seqObj "list" out.toArray c) → Up s1.heap h' → Q (.ref s1.heap.objs.size) { s1 with heap := h' }) :
    wpAny (model prog w) A (call (.builtin "sorted") [v] [(Str.ofString "reverse", .bool true)]) Q E s := by
  refine call_function_entry_kw kind_sorted plain_sorted entry_sorted (args_sorted_rev _ _) ?_
  unfold Builtin.«sorted»
  refine wpAny_bind (m := checkCount "sorted" 1 1 _) (wpAny_pure ?_)
  refine wpAny_bind (wpAny_mono hc (fun vs s1 j => ?_) fun _ _ x => x)
  obtain ⟨j1, j2, j3⟩ := hJ vs s1 j
  have hsl : (4096 : Nat) ≤ sizeLine := by decide +kernel
  refine wpAny_bind (wpAny_newList ?_ (by omega))
  have hD : (s1.heap.push (seqObj "list" vs.toArray 0)).get? s1.heap.objs.size = some (seqObj "list" vs.toArray 0) := Heap.get?_push_size _ rfl
  change wpAny _ _ _ _ _ { s1 with heap := s1.heap.push (seqObj "list" vs.toArray 0) }
  have ne : ∀ b o, s1.heap.get? b = some o → b ≠ s1.heap.objs.size := fun b o q => Nat.ne_of_lt (Heap.lt_size q)
  refine wpAny_bind (wpAny_holding (wpAny_call_entry_kw slot_list_sort ⟨_, hD, rfl⟩ entry_list_sort ?body (args_list_sort_rev _ _)))
  case body =>
    refine w_lsortR (s := { s1 with heap := s1.heap.push (seqObj "list" vs.toArray 0) }) hD j1 (fun h' q => j2 h' fun b o e => q b o (ne b o e) (Heap.get?_push_of_some _ e)) fun out p1 => ?_
    obtain ⟨⟨c, g1⟩, g2⟩ := srt_heap (out := out) hD
    refine ⟨_, rfl, wpAny_pure ⟨_, rfl, j3 out.toList c _ p1 (by simpa using g1) fun b o e => g2 b o (ne b o e) (Heap.get?_push_of_some _ e)⟩⟩
end
end ST
namespace L2
open PySem PySem.Spec PyProof.Rows
section
variable {X : Cx}
def tSortR (ta : TA) : TE := fun σ H Q => ta σ H fun xs H1 => ∃ (a : Addr) (kvs : List (Key × V)) (ks : List Str), xs = [.ref a] ∧ H1 a = some (.dK kvs) ∧ kvs.map (·.1) = ks.map Sum.inr ∧ ks.length ≤ 4096 ∧ ∀ (b : Addr) (zs : List Str), H1 b = none → zs.Perm ks → Q (.ref b) (upd H1 b (.lst (zs.map V.str)))
theorem pe_sortedR {a : Expr} {ta : TA} {p pos kp ip : Pos} {jj : Nat} (hc' : X.calm = true) (hg : Gl X "sorted") (hm : X.mg "sorted" = none) (hb : bootBuiltins "sorted" = some (.builtin "sorted")) (ha : PA X [a] ta) (hs : starEach [a] X.env = [(false, eval a X.env)] := by rfl) :
    PE X (.Call (.Name "sorted" p) [a] [⟨some (Str.ofString "reverse"), .Constant (.bool true) jj ip, kp⟩] pos) (tSortR ta) := by
  intro pins s σ H Q I h
  refine wpAny_Call_Name_kw (ld_blt I hg hm hb ?_)
  refine callWith_builtin_kwB (by rw [hs]; rfl) rfl ?_
  have ha' := ha pos pins s σ H _ I h
  have e0 : backTo pos (starEach [a] X.env) = (false, eval a X.env) :: [] := by rw [hs]; rfl
  rw [e0] at ha' ⊢
  refine evalArgs_kwB rfl (thn ha' fun us s1 ⟨vs, H1, I1, r1, q1⟩ => ?_)
  refine thn (pk_cons pe_bl pk_nil pos pins s1 σ H1 (fun zs H2 => zs = [.bl true] ∧ H2 = H1) I1 ⟨rfl, rfl⟩) fun ws s2 ⟨zs, H2, I2, rz, ez, eh⟩ => ?_
  subst ez eh
  obtain ⟨a, kvs, ks, e, ea, ek, hc, q⟩ := q1
  subst e
  obtain ⟨u, rfl, ru⟩ := r1.one
  cases ru
  obtain ⟨w1, rfl, rw1⟩ := rz.one
  cases rw1
  obtain ⟨z, hd, vs, rel, dd⟩ := dk_of I2.hok ea
  obtain ⟨o, es, ep', y1, y2, y3, y4, y5, y6⟩ := id dd
  have len := rel.length
  have kl : ks.length = kvs.length := by have := congrArg List.length ek; simpa using this.symm
  have K0 := PySem.W.kdl_dict (prog := X.prog) (w := X.w) (knd := mixKind X.prog X.w) (d := a) (kvs := vs) (ep := ep') hd
  have hok : s2.heap.DictAt (mixKind X.prog X.w) a vs ep' := ⟨o, es, y1, y2, y3, y4, y5, y6⟩
  have hsl : (4096 : Nat) ≤ sizeLine := by decide +kernel
  refine ST.w_sortedR (kd := oneType') (κ := PyProof.Rows.strKind)
    (J := fun its s1 => StrsAre its ks ∧ ∃ h1 tk, s1 = { s2 with heap := h1, toks := tk } ∧ ∀ b o, s2.heap.get? b = some o → h1.get? b = some o)
    (PySem.W.kdu_collect (A := X.A.in1) K0 (I2.ok.hd hc') hok (by omega) fun h' tk acc hk hacc => ⟨?_, h', tk, rfl, hk⟩) fun its s1 ⟨hS, h1, tk, v2, v3⟩ => ?_
  · refine strs_of _ ks (by rw [Array.length_toList, hacc.1]; omega) fun j v e => ?_
    obtain ⟨k, x, e1, e2⟩ := hacc.2 j v (by simpa using e)
    have jl : j < kvs.length := by rw [len]; exact (List.getElem?_eq_some_iff.mp e1).1
    obtain ⟨u, e3, _⟩ := kv_at rel (List.getElem?_eq_getElem jl)
    rw [e1] at e3
    have e3 : k = kvs[j].1 := by cases e3; rfl
    have e4 : (kvs.map (·.1))[j]? = (ks.map Sum.inr)[j]? := by rw [ek]
    rw [List.getElem?_map, List.getElem?_map, List.getElem?_eq_getElem jl, List.getElem?_eq_getElem (by omega)] at e4
    have e4 : kvs[j].1 = Sum.inr ks[j] := by simpa using e4
    rw [e3, e4] at e2
    obtain ⟨t, rfl⟩ : RelV (V.str ks[j]) v := rel_key e2
    exact ⟨ks[j], t, List.getElem?_eq_getElem (by omega), rfl⟩
  · subst v2
    have hln : its.length = ks.length := ST.strs_len hS
    refine ⟨by omega, fun h' up => ST.strs_sortable hS, fun out c h' p1 p3 up => ?_⟩
    have hall : ∀ v ∈ out, ∃ x t, v = .str x t := fun v hv => hS.all v (p1.mem_iff.mp hv)
    have hO := strsAre_map out hall
    have hpz : (out.map strOf).Perm ks := by
      have := p1.map strOf
      rwa [hS.strs] at this
    have I3 : Inv X pins σ H2 { s2 with heap := h1, toks := tk } := I2.kept v3
    have hz : ((out.map strOf).map V.str).length ≤ sizeLine := by rw [List.length_map, hpz.length_eq]; omega
    exact ⟨.ref h1.objs.size, _, I3.laid (t' := tk) up (Nat.le_refl _) (show ObjOk X.prog X.w _ h' _ (.lst ((out.map strOf).map V.str)) from ⟨hz, _, c, strs_vals hO, p3⟩), rfl, q _ _ (I3.hok.fresh (Nat.le_refl _)) hpz⟩
theorem op_mulB : OpR X (binaryOp .Mult) (rI (fun i j => i.natAbs < 10 ^ 100 ∧ j.natAbs < 10 ^ 100) fun i j => .int (i * j)) := opI fun i j _ _ _ _ _ hc q => mul_int q (by
  have h1 : Builtin.Int.intBits i ≤ 340 := PyProof.Rows.intBits_le (Nat.lt_of_lt_of_le hc.1 (by decide +kernel))
  have h2 : Builtin.Int.intBits j ≤ 340 := PyProof.Rows.intBits_le (Nat.lt_of_lt_of_le hc.2 (by decide +kernel))
  have h' : Builtin.Int.intTooBig (Builtin.Int.intBits i + Builtin.Int.intBits j) = false := by
    unfold Builtin.Int.intTooBig bitsLine
    exact decide_eq_false (by omega)
  unfold IntMulOk
  rw [h']; simp)
end
end L2
set_option Elab.async false
set_option linter.all false
set_option maxRecDepth 100000
set_option maxHeartbeats 4000000
namespace L2
open PySem PySem.Spec PyProof.Rows
def Itk (a : Addr) (o : Obj) (kvs : List (Key × V)) : It :=
  ⟨fun i H => H a = some (.frz o (.dK kvs)) ∧ i < kvs.length, fun i H v H' => H' = H ∧ ∃ k x, kvs[i]? = some (k, x) ∧ v = kV k, fun i H => H a = some (.frz o (.dK kvs)) ∧ kvs.length ≤ i⟩
theorem turn_keys {P : Program} {w : World} {K : PySem.W.Frag} {tg : Expr} (a it : Addr) (o : Obj) (es : Array DictEntry) (ep : Nat) (kvs : List (Key × V)) (hd : o.data = .dict es ep) : Turn P w K tg (Itk a o kvs) [it] it (fun i h => h.IsKeyIter it a i kvs.length ep) where
  mem := by simp
  obj := fun i h ⟨o, st, c, dt⟩ b hb => by
    have : b = it := by simpa using hb
    subst this
    exact ⟨_, st, fun v y => by rw [dt] at y; cases y⟩
  keep := fun i h h' st k => st.at fun o e => k it (by simp) o e
  item := by
    intro X hP hw hK hc i pins s σ H E I hf st hg
    subst hP hw hK
    obtain ⟨e, hi⟩ := hg
    obtain ⟨vs, es', ep', rel, hd', _, da, _, _, ho, _⟩ := frz_at I e
    have ee : ep' = ep := by rw [hd] at hd'; cases hd'; rfl
    subst ee
    have len := rel.length
    have ek : kvs[i]? = some (kvs[i].1, kvs[i].2) := List.getElem?_eq_getElem hi
    obtain ⟨v, ev, rv⟩ := kv_at rel ek
    rw [len] at st
    obtain ⟨f0, f1, f2, f3, f4, f5⟩ := hf it (by simp)
    refine wpAny_pyNext_dict_item st da ev fun key h' hk st' sb => ?_
    have I1 : Inv X pins σ H { s with heap := h', toks := s.toks } := I.turned (t' := s.toks) (fun b o hb y => sb.extBut b o hb y) f0 f1 f3 f4 f5
    rw [← len] at st'
    obtain ⟨o2, g1, g2, g3⟩ := id st'
    exact ⟨_, rfl, go_of (s := { s with heap := h' }) (n := "dict_keyiterator") g1 g2 g3 (by decide) ⟨kV kvs[i].1, H, I1, rel_key hk, ⟨rfl, _, _, ek, rfl⟩, st', fun b hb => (hf b hb).1⟩⟩
  done := by
    intro X hP hw hK hc i pins s σ H E I hf st hg
    subst hP hw hK
    obtain ⟨e, hi⟩ := hg
    obtain ⟨vs, es', ep', rel, hd', _, da, _, _, ho, _⟩ := frz_at I e
    have ee : ep' = ep := by rw [hd] at hd'; cases hd'; rfl
    subst ee
    have len := rel.length
    rw [len] at st
    obtain ⟨f0, f1, f2, f3, f4, f5⟩ := hf it (by simp)
    exact wpAny_pyNext_dict_end (I.ok.hd hc) st da (by simp; omega) fun h' eb => ⟨rfl, I.turned (t' := s.toks) (fun b o hb y => eb b o hb y) f0 f1 f3 f4 f5⟩
  self := fun _ _ _ _ _ st h => wpAny_pyIter_keyiter st h
section
variable {X : Cx}
theorem pi_keys {tg o : Expr} {to : TE} (ho : PE X o to) : PI X tg o (fun σ H R => to σ H fun x H1 => ∃ a ob kvs, x = .ref a ∧ H1 a = some (.frz ob (.dK kvs)) ∧ R (Itk a ob kvs) H1) := by
  intro pins s σ H R I h
  refine thn (ho pins s σ H _ I h) fun v s1 ⟨x, H1, I1, r1, a, ob, kvs, ex, e, q⟩ => ?_
  subst ex
  cases r1
  obtain ⟨vs, es, ep, rel, hd, sz, da, nsys, z, hget, exd⟩ := frz_at I1 e
  have len := rel.length
  refine wpAny_pyIter_dict nsys da ?_
  refine ⟨s1.heap.objs.size, [s1.heap.objs.size], _, _, H1, rfl, I1.kept (t' := s1.toks) fun b o e => Heap.get?_push_of_some _ e, turn_keys a _ ob es ep kvs hd, ⟨_, Heap.get?_push_size _ rfl, rfl, by rw [len]; rfl⟩, fun b hb => ?_, q⟩
  have e : b = s1.heap.objs.size := by simpa using hb
  subst e
  exact I1.fpOk (Nat.le_refl _) (I1.hok.fresh (Nat.le_refl _))
theorem for_keys {a : Addr} {o : Obj} {kvs : List (Key × V)} {g : TG} {tb : TS} {D : Ends} {σ : St} {H : Hp} (Pv : Nat → St → Hp → Prop) (h0 : Pv 0 σ H) (hl : ∀ i σ H, i ≤ kvs.length → Pv i σ H → H a = some (.frz o (.dK kvs)))
    (hs : ∀ i k v σ H, kvs[i]? = some (k, v) → Pv i σ H → g (kV k) σ H fun σ2 H2 => tb { D with nx := Pv (i + 1), ct := Pv (i + 1), bk := D.nx } σ2 H2) (hd : ∀ σ H, Pv kvs.length σ H → D.nx σ H) :
    ∃ W : Nat → Nat → St → Hp → Prop, (∃ m, W 0 m σ H) ∧ ∀ i m σ H, W i m σ H →
      ((Itk a o kvs).stop i H ∧ D.nx σ H) ∨ ((Itk a o kvs).go i H ∧ ∃ N : St → Hp → Prop, (∀ σ' H', N σ' H' → ∃ m', m' < m ∧ W (i + 1) m' σ' H') ∧ ∀ x H', (Itk a o kvs).yld i H x H' → g x σ H' fun σ2 H2 => tb { D with nx := N, ct := N, bk := D.nx } σ2 H2) := by
  refine ⟨fun i m σ H => m = kvs.length - i ∧ i ≤ kvs.length ∧ Pv i σ H, ⟨kvs.length, by simp, Nat.zero_le _, h0⟩, ?_⟩
  rintro i m σ H ⟨rfl, hi, p⟩
  by_cases hlt : i < kvs.length
  · refine .inr ⟨⟨hl i σ H hi p, hlt⟩, Pv (i + 1), fun σ' H' p' => ⟨_, ?_, rfl, hlt, p'⟩, fun x H' y => ?_⟩
    · show kvs.length - (i + 1) < kvs.length - i
      omega
    · obtain ⟨rfl, k, v, ek, rfl⟩ := y
      exact hs i k v σ H' ek p
  · have e : i = kvs.length := by omega
    subst e
    exact .inl ⟨⟨hl _ σ H hi p, Nat.le_refl _⟩, hd σ H p⟩
theorem comp_keys {a : Addr} {o : Obj} {kvs : List (Key × V)} {ix : List (Option Nat)} {g : TG} {tt : TT} {te : TE} {QD : Hp → Prop} {σ : St} {H1 : Hp} {D : Addr} (Pv : Nat → List V → St → Hp → Prop) (h0 : Pv 0 [] (blkSt σ ix) (upd H1 D (.lst [])))
    (hl : ∀ i ys τ H, Pv i ys τ H → H a = some (.frz o (.dK kvs)))
    (hs : ∀ i k v ys τ H, kvs[i]? = some (k, v) → Pv i ys τ H → g (kV k) τ H fun τ' H4 => tt τ' H4 fun b H5 => if b = true then te τ' H5 fun v H6 => H6 D = some (.lst ys) ∧ ys.length < sizeLine ∧ Pv (i + 1) (ys ++ [v]) τ' (upd H6 D (.lst (ys ++ [v]))) else Pv (i + 1) ys τ' H5)
    (hd : ∀ ys τ H, Pv kvs.length ys τ H → QD H) :
    ∃ W : Nat → Nat → List V → St → Hp → Prop, (∃ m, W 0 m [] (blkSt σ ix) (upd H1 D (.lst []))) ∧ ∀ i m ys τ H2, W i m ys τ H2 →
      ((Itk a o kvs).stop i H2 ∧ QD H2) ∨ ((Itk a o kvs).go i H2 ∧ ∃ N : List V → St → Hp → Prop, (∀ ys' τ' H', N ys' τ' H' → ∃ m', m' < m ∧ W (i + 1) m' ys' τ' H') ∧ ∀ x H3, (Itk a o kvs).yld i H2 x H3 → g x τ H3 fun τ' H4 => tt τ' H4 fun b H5 =>
        if b = true then te τ' H5 fun v H6 => H6 D = some (.lst ys) ∧ ys.length < sizeLine ∧ N (ys ++ [v]) τ' (upd H6 D (.lst (ys ++ [v])))
        else N ys τ' H5) := by
  refine ⟨fun i m ys τ H => m = kvs.length - i ∧ i ≤ kvs.length ∧ Pv i ys τ H, ⟨kvs.length, by simp, Nat.zero_le _, h0⟩, ?_⟩
  rintro i m ys τ H ⟨rfl, hi, p⟩
  by_cases hlt : i < kvs.length
  · refine .inr ⟨⟨hl i ys τ H p, hlt⟩, Pv (i + 1), fun ys' τ' H' p' => ⟨_, ?_, rfl, hlt, p'⟩, fun x H' y => ?_⟩
    · show kvs.length - (i + 1) < kvs.length - i
      omega
    · obtain ⟨rfl, k, v, ek, rfl⟩ := y
      exact hs i k v ys τ H' ek p
  · have e : i = kvs.length := by omega
    subst e
    exact .inl ⟨⟨hl _ ys τ H p, Nat.le_refl _⟩, hd ys τ H p⟩
end
end L2
set_option Elab.async false
set_option linter.all false
set_option maxRecDepth 100000
set_option maxHeartbeats 4000000
namespace L2
open PySem PySem.Spec PyProof.Rows
def cxLam (X : Cx) (N : List Str) (qual : Str) (scope : Scope) (f : Addr) (cd : Value) (cl : List (Str × Addr)) (A : Around) (s : Shared) (H : Hp) : Cx where
  prog := X.prog
  w := X.w
  K := X.K
  mg := X.mg
  base := X.base
  A := A.deeper (PySem.W.envX qual scope s.heap.objs.size f cd cl)
  N := N
  s₀ := s
  H₀ := H
  env := PySem.W.envX qual scope s.heap.objs.size f cd cl
  outer := X.stack
  stack := PySem.W.envX qual scope s.heap.objs.size f cd cl :: X.stack
  ex := []
  calm := true
  fn := fun _ => false
  pn := []
  xe := fun _ _ => False
structure LamScope (x y : Str) (sc : Scope) : Prop where
  kind : sc.kind = .function
  co : sc.isCoroutine = false
  gen : sc.isGenerator = false
  px : sc.names.lookup x = some .local
  fy : sc.names.lookup y = some .free
  nocell : ∀ z ∈ sc.names, z.2 ≠ .cell
  onlyy : ∀ z ∈ sc.names, z.2 = .free → z.1 = y
section
variable {X : Cx} {pins : List (Addr × Obj)} {σ : St} {H : Hp} {s : Shared}
theorem IsCell_keeps {h h' : Heap} {c : Addr} {v : Option Value} (x : h.IsCell c v) (k : ∀ b o, h.get? b = some o → h'.get? b = some o) : h'.IsCell c v := by
  obtain ⟨o, e, r⟩ := x
  exact ⟨o, k _ _ e, r⟩
theorem look1 {y z : Str} {c d : Addr} (h : ([(y, c)] : List (Str × Addr)).lookup z = some d) : z = y ∧ d = c := by
  rw [List.lookup_cons] at h
  cases e : (z == y) with
  | true => rw [e] at h; cases h; exact ⟨by simpa using e, rfl⟩
  | false => rw [e] at h; cases h
theorem inv_lam {A : Around} {f c : Addr} {cd : Value} {qual x y : Str} {scope : Scope} {vx vy : V} {ux uy : Value} {h₁ : Heap} {tk : Nat} (I : Inv X pins σ H s) (hA : A.frames = some X.stack) (hh : A.handled = none) (S : LamScope x y scope) (ne : x ≠ y)
    {y' : Str} (hy : X.env.cells.lookup y' = some c) (iy : s.heap.IsCell c (some uy)) (ry : RelV vy uy) (rx : RelV vx ux) (hns : h₁.Ns s.heap.objs.size (fun z => ([(x, ux)] : List (Str × Value)).reverse.lookup z)) (hk : ∀ b o, s.heap.get? b = some o → h₁.get? b = some o) :
    Inv (cxLam X [x, y] qual scope f cd [(y, c)] A s H) [] [some vx, some vy] H { s with heap := h₁, toks := tk } := by
  have e0 := I.env0
  have noA : ∀ b : Addr, b ∉ (cxLam X [x, y] qual scope f cd [(y, c)] A s H).ex := fun b z => absurd (show b ∈ ([] : List Addr) from z) (by simp)
  have hc0 := I.freeC y' c hy
  refine ⟨⟨e0.mod, S.kind, rfl, rfl, Nat.le_refl _, fun a b d h1 h2 => ?_, fun z hz => ?_, fun z d h _ => Bool.noConfusion h, fun _ => hh, Around.frames_deeper hA, .inr ⟨rfl, rfl⟩, fun b z => absurd z (noA b), e0.bs, e0.bsz, fun b _ _ => noA b, fun b z => absurd z (noA b), e0.funs, e0.frf⟩,
    rfl, e0.bare, Un.kept hk, ⟨_, hns, fun i z v h1 h2 h3 => ?_⟩, fun z d h => ?_, e0.hok.fresh (Nat.le_refl _), fun z d h => ?_, fun p hp => absurd (show p ∈ ([] : List (Addr × Obj)) from hp) (by simp), e0.hok.kept hk, rfl⟩
  · rw [(look1 h1).1, (look1 h2).1]
  · have hz : scope.names.lookup z = some .cell ∨ scope.names.lookup z = some .free := hz
    rcases hz with hz | hz
    · exact absurd rfl (S.nocell _ (PySem.mem_of_lookup hz))
    · have : z = y := S.onlyy _ (PySem.mem_of_lookup hz) rfl
      subst this
      exact ⟨c, by show ([(z, c)] : List (Str × Addr)).lookup z = some c; simp⟩
  · match i, h1, h2 with
    | 0, h1, h2 =>
      have h1 : some x = some z := h1
      have h2 : some (some vx) = some (some v) := h2
      cases h1
      cases h2
      exact ⟨ux, rx, .inl ⟨S.px, by simp⟩⟩
    | 1, h1, h2 =>
      have h1 : some y = some z := h1
      have h2 : some (some vy) = some (some v) := h2
      cases h1
      cases h2
      exact ⟨uy, ry, .inr ⟨.inr S.fy, c, by show ([(y, c)] : List (Str × Addr)).lookup y = some c; simp, IsCell_keeps iy hk⟩⟩
    | n + 2, h1, _ => exact absurd (show ([] : List Str)[n]? = some z from h1) (by simp)
  · obtain ⟨_, rfl⟩ := look1 h
    exact ⟨_, IsCell_keeps iy hk⟩
  · obtain ⟨_, rfl⟩ := look1 h
    exact hc0
theorem lam_call {A : Around} {f c c' : Addr} {qual x y : Str} {params : Arguments} {body : Expr} {scope : Scope} {pm ctv : Value} {vx vy : V} {ux uy : Value} {te : TE} {Q : VK} (I : Inv X pins σ H s) (hA : A.frames = some X.stack) (hh : A.handled = none) (room : A.depth < recursionLimit)
    (ho : s.heap.get? f = some (PySem.W.kla_obj "<lambda>" qual params body scope [(y, c)] pm c' ctv)) (hcd : s.heap.CodeRec (.ref c') qual) (S : LamScope x y scope) (ne : x ≠ y)
    (hb : bindArgs (PySem.W.kla_fn "<lambda>" qual params body scope [(y, c)] pm (.ref c') ctv) ⟨[ux], []⟩ = pure [(x, ux)])
    {y' : Str} (hy : X.env.cells.lookup y' = some c) (iy : s.heap.IsCell c (some uy)) (ry : RelV vy uy) (rx : RelV vx ux)
    (ht : PE (cxLam X [x, y] qual scope f (.ref c') [(y, c)] A s H) body te) (hq : te [some vx, some vy] H Q) :
    wpAny (model X.prog X.w) A (call (.ref f) [ux]) (CE X.stack X.prog X.w H s Q) (fun _ _ => False) s := by
  refine wpAny_call (PySem.W.kla_callFunE room ho rfl S.co S.gen rfl hcd ?_)
  rw [hb]
  refine wpAny_pure (wpAny_newFunctionEnv S.nocell (fun z hz => ?_) (fun h₁ hns hsb => ⟨I.nolimit.fresh _ hsb, ?_⟩) S.kind)
  · have : z = (x, ux) := by simpa using hz
    subst this
    exact S.px
  · show codeAny _ _ (.expr body (PySem.W.envX qual scope s.heap.objs.size f (.ref c') [(y, c)])) _ _
    have hk₁ : ∀ b o, s.heap.get? b = some o → h₁.get? b = some o := fun b o e => hsb.extBut b o (Nat.ne_of_lt (Heap.lt_size e)) (Heap.get?_push_of_some _ e)
    have J := inv_lam (qual := qual) (f := f) (cd := .ref c') (tk := s.toks + [(x, ux)].length) I hA hh S ne hy iy ry rx hns hk₁
    refine PySem.W.kla_codeExpr (wpAny_mono (ht [] _ _ H _ J hq) (fun v s' hs => ?_) fun _ _ h => h.elim)
    obtain ⟨v', H', J', rv, q⟩ := hs
    exact ⟨v', H', J'.os, J'.bare, J'.base, J'.hok, rv, q⟩
end
end L2
set_option Elab.async false
set_option linter.all false
set_option maxRecDepth 100000
set_option maxHeartbeats 4000000
namespace ST
open PySem PyProof.Rows
section
variable {prog : Program} {w : World} {A : Around} {E : Value → Shared → Prop} {s : Shared} {a kS : Addr} {vs : List Value} {kz : List Int} {keys : Array Value} {e e1 : Nat} {P : PySem.Fin → Shared → Prop}
theorem k_tail {st : SortSt} (nk : s.heap.get? kS = some (seqObj "list" keys e)) (na : s.heap.get? a = some (seqObj "list" #[] e1)) (hka : kS ≠ a)
    (hk : IntsAre keys.toList kz) (hlen : kz.length = vs.length) (h64 : vs.length < 64) (hp : (arrOf st).Perm (keys.zip vs.toArray)) (hs : SortedTo (arrOf st) (arrOf st).size) (hfl : failedOf st = none)
    (h : ∀ h' tk out c, (∀ b o, b ≠ kS → b ≠ a → s.heap.get? b = some o → h'.get? b = some o) → h'.get? a = some (seqObj "list" out c) → KskOut false kz vs out.toList → P (.done (.ret .none)) { s with heap := h', toks := tk }) :
    wpAny (model prog w) A (ksk_tail a false e1 (.ref kS) st) P E s := by
  have hsz : keys.size = vs.length := by
    have h1 := hk.length
    rw [Array.length_toList] at h1
    omega
  have hsz2 : (arrOf st).size = vs.length := by rw [hp.size_eq, Array.size_zip, hsz, List.size_toArray, Nat.min_self]
  have hout : ((arrOf st).map (·.2)).size = vs.length := by rw [Array.size_map]; exact hsz2
  have ko : KskOut false kz vs ((arrOf st).map (·.2)).toList := ksk_out (b := false) hk hp hs
  unfold ksk_tail
  simp only [Bool.false_eq_true, if_false]
  generalize (arrOf st).map (·.2) = out at hout ko
  have s1 := Heap.SameBut.update s.heap kS (Obj.mapSeq fun _ => (#[] : Array Value))
  have na1 : (s.heap.update kS (Obj.mapSeq fun _ => (#[] : Array Value))).get? a = some (seqObj "list" #[] e1) := (s1.2 a hka.symm).trans na
  have s2 := Heap.SameBut.update (s.heap.update kS (Obj.mapSeq fun _ => (#[] : Array Value))) a (Obj.mapSeq fun _ => out)
  have hc2 := get?_update_seq na1 fun _ => out
  refine wpAny_bind (listUpdate_at nk rfl ?_ (by rw [hsz, sizeLine_eq]; omega) (Nat.zero_le _))
  refine wpAny_bind (wpAny_letGo ?_)
  refine wpAny_bind (seqEpoch_at na1 rfl ?_)
  refine wpAny_bind (listUpdate_at na1 rfl ?_ (Nat.zero_le _) (Nat.le_trans (Nat.le_of_eq hout) (by rw [sizeLine_eq]; omega)))
  rw [hfl]
  simp only [bne_self_eq_false, Bool.false_eq_true, if_false]
  exact wpAny_pure (h _ _ out _ (fun b o n1 n2 q => (s2.2 b n2).trans ((s1.2 b n1).trans q)) hc2 ko)
theorem k_end (nk : s.heap.get? kS = some (seqObj "list" keys e)) (na : s.heap.get? a = some (seqObj "list" #[] e1)) (hka : kS ≠ a)
    (hk : IntsAre keys.toList kz) (hlen : kz.length = vs.length) (h64 : vs.length < 64)
    (h : ∀ h' tk out c, (∀ b o, b ≠ kS → b ≠ a → s.heap.get? b = some o → h'.get? b = some o) → h'.get? a = some (seqObj "list" out c) → KskOut false kz vs out.toList → P (.done (.ret .none)) { s with heap := h', toks := tk }) :
    wpAny (model prog w) A (ksk_end a false vs.toArray e1 (.ref kS) keys) P E s := by
  have hsz : keys.size = vs.length := by
    have h1 := hk.length
    rw [Array.length_toList] at h1
    omega
  have hzs : (keys.zip vs.toArray).size = vs.length := by rw [Array.size_zip, hsz, List.size_toArray, Nat.min_self]
  unfold ksk_end
  simp only [Bool.false_eq_true, if_false]
  by_cases h2 : vs.toArray.size < 2
  · rw [if_pos h2, if_pos h2]
    refine wpAny_bind (wpAny_pure ?_)
    rw [StateT.run_pure]
    refine wpAny_bind (wpAny_pure ?_)
    try dsimp only
    refine k_tail (st := SortSt.mk' general' (keys.zip vs.toArray) #[] 7 none) nk na hka hk hlen h64 (Array.Perm.refl _) ?_ rfl h
    intro i j hij hj
    have hj2 : j < (keys.zip vs.toArray).size := hj
    rw [hzs] at hj2
    rw [List.size_toArray] at h2
    have : i = j := by omega
    subst this
    exact Int.le_refl _
  · rw [if_neg h2, if_neg h2]
    rw [List.size_toArray] at h2
    rw [ksk_kind hk (by rw [hsz]; omega)]
    refine wpAny_bind (wpAny_pure ?_)
    refine wpAny_bind (wpAny_mono (wpS_sortRuns (a₀ := keys.zip vs.toArray) (st := SortSt.mk' oneType' (keys.zip vs.toArray) #[] 7 none)
      (Q := fun _ st' => (arrOf st').Perm (keys.zip vs.toArray) ∧ failedOf st' = none ∧ SortedTo (arrOf st') (keys.zip vs.toArray).size)
      (ksk_intKeys hk) ⟨Array.Perm.refl _, rfl, rfl, rfl⟩ (by rw [hzs]; omega) (by rw [hzs]; exact h64) fun st' a1 a2 a3 => ⟨a1, a2, a3⟩) ?_ fun _ _ e => e)
    rintro ⟨⟨⟩, st'⟩ s' ⟨rfl, hp, hf, hs⟩
    try dsimp only
    exact k_tail nk na hka hk hlen h64 hp (by rw [hp.size_eq]; exact hs) hf h
theorem k_rest {f : Value} (J : Shared → Prop) (hJ : J s) (nk : s.heap.get? kS = some (seqObj "list" #[] 0)) (na : s.heap.get? a = some (seqObj "list" #[] e1)) (hka : kS ≠ a) (hlen : kz.length = vs.length) (h64 : vs.length < 64)
    (turn : ∀ (i : Nat) (v : Value) (k : Int), vs[i]? = some v → kz[i]? = some k → ∀ s', J s' →
      wpAny (model prog w) A (call f [v]) (fun r s2 => (∃ t, r = .int k t) ∧ J s2 ∧ ∀ b, b = kS ∨ b = a → ∀ o, s'.heap.get? b = some o → s2.heap.get? b = some o) (fun _ _ => False) s')
    (put : ∀ s' h', J s' → (∀ b o, b ≠ kS → s'.heap.get? b = some o → h'.get? b = some o) → J { s' with heap := h' })
    (h : ∀ s' h' tk out c, J s' → (∀ b o, b ≠ kS → b ≠ a → s'.heap.get? b = some o → h'.get? b = some o) → h'.get? a = some (seqObj "list" out c) → KskOut false kz vs out.toList → P (.done (.ret .none)) { s' with heap := h', toks := tk }) :
    wpAny (model prog w) A (ksk_rest a f false vs.toArray e1 (.ref kS)) P E s := by
  unfold ksk_rest
  refine wpAny_bind (wpAny_rule ?_)
  first
    | rw [List.forIn_toArray]
    | (rw [← Array.forIn_toList]; simp only [List.toList_toArray])
    | rw [← Array.forIn_toList]
  refine wpAny_bind (ksk_fold (fun i s' => J s' ∧ ∃ kA e, s'.heap.get? kS = some (seqObj "list" kA e) ∧ s'.heap.get? a = some (seqObj "list" #[] e1) ∧ IntsAre kA.toList (kz.take i)) vs 0 s
    ⟨hJ, #[], 0, nk, na, by simpa using IntsAre.nil⟩ ?step ?done)
  case step =>
    rintro j x s' hx ⟨hJ', kA, e, nk', na', hk⟩
    simp only [Nat.zero_add] at hk ⊢
    have hj : j < vs.length := (List.getElem?_eq_some_iff.mp hx).1
    obtain ⟨k, hkj⟩ : ∃ k, kz[j]? = some k := ⟨_, List.getElem?_eq_getElem (by omega)⟩
    have hz : kA.size ≤ vs.length := by
      have h1 := hk.length
      rw [Array.length_toList, List.length_take] at h1
      omega
    refine wpAny_bind (wpAny_attempt (wpAny_mono (turn j x k hx hkj s' hJ') (fun v s'' he => ?_) fun _ _ hF => hF.elim))
    obtain ⟨⟨t2, rfl⟩, J2, kp⟩ := he
    try dsimp only
    have nk2 := kp kS (.inl rfl) _ nk'
    have na2 := kp a (.inr rfl) _ na'
    have s1 := Heap.SameBut.update s''.heap kS (Obj.mapSeq (·.push (.int k t2)))
    obtain ⟨c2, hc2⟩ : ∃ c2, (s''.heap.update kS (Obj.mapSeq (·.push (.int k t2)))).get? kS = some (seqObj "list" (kA.push (.int k t2)) c2) := ⟨_, get?_update_seq nk2 (·.push (.int k t2))⟩
    have ek : kz.take (j + 1) = kz.take j ++ [k] := by rw [List.take_add_one, hkj]; simp
    have ea : (kA.push (Value.int k t2)).toList = kA.toList ++ [Value.int k t2] := by simp
    refine wpAny_bind (listUpdate_at nk2 rfl ?_ (by rw [sizeLine_eq]; omega) (Nat.le_trans (Nat.le_of_eq (Array.size_push ..)) (by rw [sizeLine_eq]; omega)))
    exact wpAny_pure ⟨rfl, put s'' _ J2 (fun b o n q => (s1.2 b n).trans q), kA.push (.int k t2), c2, hc2, (s1.2 a hka.symm).trans na2, by rw [ea, ek]; exact ksk_snoc hk⟩
  case done =>
    rintro s' ⟨hJ', kA, e, nk', na', hk⟩
    have hk' : IntsAre kA.toList kz := by
      have e3 : kz.take (0 + vs.length) = kz := List.take_of_length_le (by omega)
      rw [e3] at hk
      exact hk
    try dsimp only
    refine wpAny_bind (listItems_at nk' rfl ?_)
    exact k_end nk' na' hka hk' hlen h64 fun h3 tk3 out c k3 g3 o3 => h s' h3 tk3 out c hJ' k3 g3 o3
theorem w_sortedK {f : Addr} {v : Value} {Q : Value → Shared → Prop} {Jc : List Value → Shared → Prop} (hc : wpAny (model prog w) A.in1 (collect v) Jc E s)
    (hJ : ∀ vs s1, Jc vs s1 → vs.length < 64 ∧ ∃ (kz : List Int) (J : Shared → Prop), kz.length = vs.length ∧
      (∀ h', (∀ b o, s1.heap.get? b = some o → h'.get? b = some o) → J { s1 with heap := h' }) ∧
      (∀ (i : Nat) (v : Value) (k : Int), vs[i]? = some v → kz[i]? = some k → ∀ s', J s' → wpAny (model prog w) A.in1.in1 (call (.ref f) [v]) (fun r s2 => (∃ t, r = .int k t) ∧ J s2 ∧ ∀ b, b = s1.heap.objs.size + 2 ∨ b = s1.heap.objs.size → ∀ o, s'.heap.get? b = some o → s2.heap.get? b = some o) (fun _ _ => False) s') ∧
      (∀ s' h', J s' → (∀ b o, b ≠ s1.heap.objs.size + 2 → s'.heap.get? b = some o → h'.get? b = some o) → J { s' with heap := h' }) ∧
      ∀ s' h' tk out c, J s' → (∀ b o, b ≠ s1.heap.objs.size + 2 → b ≠ s1.heap.objs.size → s'.heap.get? b = some o → h'.get? b = some o) → h'.get? s1.heap.objs.size = some (seqObj "list" out c) → KskOut false kz vs out.toList → Q (.ref s1.heap.objs.size) { s' with heap := h', toks := tk }) :
    wpAny (model prog w) A (call (.builtin "sorted") [v] [(Str.ofString "key", .ref f)]) Q E s := by
  refine call_function_entry_kw kind_sorted plain_sorted entry_sorted (ksk_s1 _ _) ?_
  unfold Builtin.«sorted»
  refine wpAny_bind (m := checkCount "sorted" 1 1 _) (wpAny_pure ?_)
  refine wpAny_bind (wpAny_mono hc (fun vs s1 j => ?_) fun _ _ x => x)
  obtain ⟨j1, kz, J, j2, j3, j4, j5, j6⟩ := hJ vs s1 j
  refine wpAny_bind (wpAny_newList ?_ (by rw [sizeLine_eq]; omega))
  have hD : (s1.heap.push (seqObj "list" vs.toArray 0)).get? s1.heap.objs.size = some (seqObj "list" vs.toArray 0) := Heap.get?_push_size _ rfl
  change wpAny _ _ _ _ _ { s1 with heap := s1.heap.push (seqObj "list" vs.toArray 0) }
  have ne : ∀ b o, s1.heap.get? b = some o → b ≠ s1.heap.objs.size := fun b o q => Nat.ne_of_lt (Heap.lt_size q)
  refine wpAny_bind (wpAny_holding (wpAny_call_entry_kw slot_list_sort ⟨_, hD, rfl⟩ entry_list_sort ?body (ksk_l1 _ _)))
  case body =>
    rw [ksk_t1]
    have ha : s1.heap.objs.size < (s1.heap.push (seqObj "list" vs.toArray 0)).objs.size := Heap.lt_size hD
    have s2 := Heap.SameBut.update (s1.heap.push (seqObj "list" vs.toArray 0)) s1.heap.objs.size (Obj.mapSeq fun _ => (#[] : Array Value))
    obtain ⟨e1, ho1⟩ : ∃ e1, ((s1.heap.push (seqObj "list" vs.toArray 0)).update s1.heap.objs.size (Obj.mapSeq fun _ => (#[] : Array Value))).get? s1.heap.objs.size = some (seqObj "list" #[] e1) := ⟨_, get?_update_seq hD fun _ => #[]⟩
    have hkS : (((s1.heap.push (seqObj "list" vs.toArray 0)).update s1.heap.objs.size (Obj.mapSeq fun _ => (#[] : Array Value))).push (seqObj "tuple" vs.toArray 0)).objs.size = s1.heap.objs.size + 2 := by rw [size_push', Heap.size_update, size_push']
    unfold ksk_tree
    refine wpAny_bind (listItems_at hD rfl ?_)
    refine wpAny_bind (listUpdate_at hD rfl ?_ (by rw [List.size_toArray, sizeLine_eq]; omega) (Nat.zero_le _))
    refine wpAny_bind (seqEpoch_at ho1 rfl ?_)
    refine wpAny_bind (wpAny_newTuple ?_ (by show vs.length ≤ _; rw [sizeLine_eq]; omega))
    refine wpAny_bind (wpAny_newList ?_ (Nat.zero_le _))
    refine wpAny_holding ?_
    rw [hkS]
    refine k_rest (kS := s1.heap.objs.size + 2) (a := s1.heap.objs.size) (s := { s1 with heap := (((s1.heap.push (seqObj "list" vs.toArray 0)).update s1.heap.objs.size (Obj.mapSeq fun _ => (#[] : Array Value))).push (seqObj "tuple" vs.toArray 0)).push (seqObj "list" #[] 0) }) J (j3 _ fun b o q => ?_) (by rw [← hkS]; exact Heap.get?_push_size _ rfl) (Heap.get?_push_of_some _ (Heap.get?_push_of_some _ ho1)) (Nat.ne_of_gt (Nat.lt_succ_of_lt (Nat.lt_succ_self _))) j2 j1 j4 j5 fun s' h' tk out c jj kk gg oo => ?_
    · exact Heap.get?_push_of_some _ (Heap.get?_push_of_some _ ((s2.2 b (ne b o q)).trans (Heap.get?_push_of_some _ q)))
    · exact ⟨_, rfl, wpAny_pure ⟨_, rfl, j6 s' h' tk out c jj kk gg oo⟩⟩
end
end ST
set_option Elab.async false
set_option linter.all false
set_option maxRecDepth 100000
set_option maxHeartbeats 4000000
namespace L2
open PySem PySem.Spec PyProof.Rows
def BltAt (mg : Str → Option Value) (h : Heap) : Prop := ∃ bm o, mg "__builtins__" = some (.ref bm) ∧ bm ≠ builtinsNs ∧ h.get? bm = some o ∧ o.cls = .type "module" ∧ o.dict = some builtinsNs ∧ o.data = .plain
def codeO (c : Addr) (qual : Str) : HO := .ext fun h => h.CodeRec (.ref c) qual
def Tab1 (H : Hp) (P : Addr) (qual : Str) (pos : Pos) : Prop := ∃ c', H P = some (.tbl #[rawInt pos.line, rawInt pos.col, .ref c']) ∧ H c' = some (codeO c' qual)
def Tab0 (H : Hp) (P : Addr) (qual : Str) (pos : Pos) : Prop := H P = some (.tbl #[]) ∨ Tab1 H P qual pos
section
variable {X : Cx} {pins : List (Addr × Obj)} {σ : St} {H : Hp} {s : Shared}
theorem codeO_rec (I : Inv X pins σ H s) {c : Addr} {qual : Str} (e : H c = some (codeO c qual)) : s.heap.CodeRec (.ref c) qual := by
  obtain ⟨x, _, _⟩ : ObjOk X.prog X.w H s.heap c (codeO c qual) := I.hok c _ e
  exact x
theorem codeO_ok {P : Program} {w : World} {c : Addr} {qual : Str} {h : Heap} (x : h.CodeRec (.ref c) qual) : ObjOk P w H h c (codeO c qual) := by
  refine ⟨x, ?_, fun h1 h2 y k => ?_⟩
  · obtain ⟨d, o, vs, t, e, g, _⟩ := x
    cases e
    exact ⟨o, g⟩
  · obtain ⟨d, o, vs, t, e, g, r⟩ := y
    cases e
    exact ⟨c, o, vs, t, rfl, k o g, r⟩
theorem among1 (pos : Pos) (c : Addr) : codeAmong pos [rawInt pos.line, rawInt pos.col, .ref c] = some (.ref c) := by
  unfold rawInt codeAmong
  simp
theorem lam_make {E : Value → Shared → Prop} {qual : Str} {params : Arguments} {body : Expr} {scope : Scope} {clos : List (Str × Addr)} {c0 P : Addr} {pos : Pos} {Q : Value → Shared → Prop} (I : Inv X pins σ H s) (hcl : closureFor scope X.env = pure clos) (hcode : X.env.code = .ref c0) (C : PySem.W.CodeHd X.base c0 P) (B : BltAt X.mg X.base) (T : Tab0 H P qual pos)
    (h : ∀ f c' ctv pm H2 s2, Inv X pins σ H2 s2 → Kp [P] H H2 → Tab1 H2 P qual pos → H2 c' = some (codeO c' qual) → s2.heap.get? f = some (PySem.W.kla_obj "<lambda>" qual params body scope clos pm c' ctv) → FpOk X pins H2 f → Q (.ref f) s2) :
    wpAny (model X.prog X.w) X.A (makeFunction "<lambda>" qual params (.expr body) scope X.env [] [] [] pos pos.line) Q E s := by
  obtain ⟨bm, ob, b1, b2, b3, b4, b5, b6⟩ := B
  have tbl : ∃ ps, H P = some (.tbl ps) := by
    rcases T with e | ⟨c', e, _⟩
    · exact ⟨_, e⟩
    · exact ⟨_, e⟩
  obtain ⟨ps0, eP⟩ := tbl
  have pP : s.heap.get? P = some (PySem.W.tabObj ps0) := I.hok P _ eP
  have hgs : s.heap.Ns mainGlobals X.mg := I.mod.glob.keeps I.bk
  have hgP : mainGlobals ≠ P := fun q => by
    obtain ⟨o, es, ep, e, hd, _⟩ := hgs
    rw [q, pP] at e; cases e; cases hd
  have hbP : bm ≠ P := fun q => by
    have e := I.bk _ _ b3
    rw [q, pP] at e; cases e; cases b4
  have hbG : bm ≠ mainGlobals := fun q => by
    obtain ⟨o, es, ep, e, hd, _⟩ := I.mod.glob
    rw [q, e] at b3; cases b3; rw [hd] at b6; cases b6
  have hB : s.heap.BuiltinsAt X.mg P := ⟨bm, ob, b1, b2, hbG, hbP, I.bk _ _ b3, b4, b5, b6⟩
  rcases T with e | ⟨c', e, ec⟩
  · rw [e] at eP
    cases eP
    refine PySem.W.kla_makeFunction (mg := X.mg) hcl I.ok.glob hgs hcode (C.keeps I.bk) pP trivial rfl hgP hB fun c' ctv h' tk hx hge hlt hrec htb => ?_
    have htb : h'.get? P = some (PySem.W.tabObj #[rawInt pos.line, rawInt pos.col, .ref c']) := by simpa using htb
    have fc : H c' = none := I.hok.fresh hge
    have nPc : c' ≠ P := fun z => by rw [z, e] at fc; cases fc
    have hk : ∀ b o, b ≠ P → s.heap.get? b = some o → (h'.push (PySem.W.kla_obj "<lambda>" qual params body scope clos ((X.mg "__name__").getD .none) c' ctv)).get? b = some o := fun b o n q => Heap.get?_push_of_some _ (hx b o n q)
    have nP : ∀ b, H b = none → b ≠ P := fun b n z => by rw [z, e] at n; cases n
    have old : ∀ b, b ≠ P → b ≠ c' → upd (upd H P (.tbl #[rawInt pos.line, rawInt pos.col, .ref c'])) c' (codeO c' qual) b = H b := fun b n1 n2 => by rw [upd_ne n2, upd_ne n1]
    have eP2 : upd (upd H P (.tbl #[rawInt pos.line, rawInt pos.col, .ref c'])) c' (codeO c' qual) P = some (.tbl #[rawInt pos.line, rawInt pos.col, .ref c']) := by rw [upd_ne nPc.symm, upd_same]
    have ec2 : upd (upd H P (.tbl #[rawInt pos.line, rawInt pos.col, .ref c'])) c' (codeO c' qual) c' = some (codeO c' qual) := upd_same
    have un : Un (frs X.stack) [] H (upd (upd H P (.tbl #[rawInt pos.line, rawInt pos.col, .ref c'])) c' (codeO c' qual)) s.heap (h'.push (PySem.W.kla_obj "<lambda>" qual params body scope clos ((X.mg "__name__").getD .none) c' ctv)) := by
      refine ⟨fun b o q n _ _ => hk b o (nP b n) q, fun b o q n _ _ => ⟨o.slots, hk b o (nP b n) q⟩, fun b o q n _ => ?_, fun b o q _ => ?_, fun b xs q => ?_, fun b o u q => ?_, fun b ps q => ?_⟩
      · rw [old b (nP b n) (Nat.ne_of_lt (Nat.lt_of_lt_of_le (Heap.lt_size q) hge))]; exact n
      · by_cases z : b = P
        · rw [z]; exact ⟨_, Heap.get?_push_of_some _ htb⟩
        · exact ⟨o, hk b o z q⟩
      · rw [old b (fun z => by rw [z, e] at q; cases q) (fun z => by rw [z, fc] at q; cases q)]; exact q
      · rw [old b (fun z => by rw [z, e] at q; cases q) (fun z => by rw [z, fc] at q; cases q)]; exact q
      · by_cases z : b = P
        · rw [z, e] at q
          cases q
          exact ⟨#[rawInt pos.line, rawInt pos.col, .ref c'], by rw [z, eP2]; simp⟩
        · exact ⟨#[], by rw [old b z (fun z => by rw [z, fc] at q; cases q), q]; simp⟩
    have hok : HOk X.prog X.w (upd (upd H P (.tbl #[rawInt pos.line, rawInt pos.col, .ref c'])) c' (codeO c' qual)) (h'.push (PySem.W.kla_obj "<lambda>" qual params body scope clos ((X.mg "__name__").getD .none) c' ctv)) := fun b o q => by
      by_cases z1 : b = c'
      · subst z1
        rw [ec2] at q; cases q
        obtain ⟨d, oc, vs, t, e3, g, r⟩ := hrec
        exact codeO_ok ⟨d, oc, vs, t, e3, Heap.get?_push_of_some _ g, r⟩
      · by_cases z2 : b = P
        · subst z2
          rw [eP2] at q; cases q
          exact Heap.get?_push_of_some _ htb
        · rw [old b z2 z1] at q
          refine (I.hok b o q).stay (fun c v hc y => hk c v (fun z => ?_) y) (fun c y => ?_) fun c xs y => ?_
          · rcases hc with hc | hc
            · exact z2 (hc.symm.trans z)
            · rw [z, e] at hc; cases hc
          · rw [old c (fun z => by rw [z, e] at y; cases y) (fun z => by rw [z, fc] at y; cases y)]; exact y
          · rw [old c (fun z => by rw [z, e] at y; cases y) (fun z => by rw [z, fc] at y; cases y)]; exact y
    have J : Inv X pins σ (upd (upd H P (.tbl #[rawInt pos.line, rawInt pos.col, .ref c'])) c' (codeO c' qual)) { s with heap := h'.push (PySem.W.kla_obj "<lambda>" qual params body scope clos ((X.mg "__name__").getD .none) c' ctv), toks := tk } := I.call' rfl un hok I.bare fun b z => nomatch z
    have kp : Kp [P] H (upd (upd H P (.tbl #[rawInt pos.line, rawInt pos.col, .ref c'])) c' (codeO c' qual)) := fun b o q n => by
      rw [old b (fun z => n (by simp [z])) (fun z => by rw [z, fc] at q; cases q)]; exact q
    have fs : s.heap.objs.size ≤ h'.objs.size := Nat.le_trans hge (Nat.le_of_lt hlt)
    have ff : upd (upd H P (.tbl #[rawInt pos.line, rawInt pos.col, .ref c'])) c' (codeO c' qual) h'.objs.size = none := by
      have n1 : h'.objs.size ≠ P := fun z => by
        have := Heap.lt_size htb
        rw [← z] at this
        exact Nat.lt_irrefl _ this
      rw [old _ n1 (Nat.ne_of_gt hlt)]
      exact I.hok.fresh fs
    exact h h'.objs.size c' ctv _ _ _ J kp ⟨c', eP2, ec2⟩ ec2 (Heap.get?_push_size _ rfl) (I.fpOk fs ff)
  · rw [e] at eP
    cases eP
    refine PySem.W.kla_makeFunctionHit (mg := X.mg) hcl I.ok.glob hgs hcode (C.keeps I.bk) pP trivial (among1 pos c') hB fun ctv h' tk hk hsz => ?_
    have J : Inv X pins σ H { s with heap := h'.push (PySem.W.kla_obj "<lambda>" qual params body scope clos ((X.mg "__name__").getD .none) c' ctv), toks := tk } := I.kept fun b o q => Heap.get?_push_of_some _ (hk b o q)
    exact h h'.objs.size c' ctv _ _ _ J Kp.refl ⟨c', e, ec⟩ ec (Heap.get?_push_size _ rfl) (I.fpOk hsz (I.hok.fresh hsz))
end
end L2
set_option Elab.async false
set_option linter.all false
set_option maxRecDepth 100000
set_option maxHeartbeats 4000000
namespace L2
open PySem PySem.Spec PyProof.Rows
section
variable {X : Cx} {pins : List (Addr × Obj)} {σ : St} {H : Hp} {s : Shared}
theorem Inv.adopt {a : Addr} {o' : HO} (I : Inv X pins σ H s) (f : FpOk X pins H a) (new : ObjOk X.prog X.w (upd H a o') s.heap a o') : Inv X pins σ (upd H a o') s := by
  obtain ⟨f0, f1, f2, f3, f4, f5⟩ := f
  have ne : ∀ b u, H b = some u → b ≠ a := fun b u q z => by rw [z, f0] at q; cases q
  refine ⟨I.ok, I.os, I.bare, ⟨I.base.keep, I.base.slot, fun b o q n x => ?_, I.base.there, fun b xs q => ?_, fun b o v q => ?_, fun b ps q => ?_⟩, I.loc, I.cell, ?_, fun x c h => ?_, fun p hp => ?_, fun b o q => ?_, I.len⟩
  · have := I.base.free b o q n x
    have nb : b ≠ a := fun z => by
      rcases f3 with y | y
      · exact x (by rw [z]; exact y)
      · exact absurd (Nat.lt_of_lt_of_le (Heap.lt_size q) (by rw [z]; exact y)) (Nat.lt_irrefl _)
    rw [upd_ne nb]; exact this
  · have := I.base.tups b xs q
    rw [upd_ne (ne b _ this)]; exact this
  · have := I.base.frzs b o v q
    rw [upd_ne (ne b _ this)]; exact this
  · obtain ⟨more, this⟩ := I.base.tbls b ps q
    exact ⟨more, by rw [upd_ne (ne b _ this)]; exact this⟩
  · rw [upd_ne f1.symm]; exact I.free
  · rw [upd_ne (f4 x c h)]; exact I.freeC x c h
  · obtain ⟨h1, h2, h3⟩ := I.pin p hp
    exact ⟨h1, by rw [upd_ne (f5 p hp)]; exact h2, h3⟩
  · by_cases z : b = a
    · subst z; rw [upd_same] at q; cases q; exact new
    · rw [upd_ne z] at q
      refine (I.hok b o q).stay (fun c v _ y => y) (fun c y => ?_) fun c xs y => ?_
      · rw [upd_ne (ne c _ y)]; exact y
      · rw [upd_ne (ne c _ y)]; exact y
theorem FpOk.nstk {b : Addr} (I : Inv X pins σ H s) (f : FpOk X pins H b) : b ∉ frs X.stack := fun z => by
  obtain ⟨f0, f1, f2, _⟩ := f
  rcases List.mem_cons.mp (I.stkSub b z) with y | y
  · exact f1 y
  · exact f2 y
theorem Inv.cellAt {iy : Nat} {y : Str} {c : Addr} {vy : V} (I : Inv X pins σ H s) (hN : X.N[iy]? = some y) (hσ : σ[iy]? = some (some vy)) (hk : X.env.kindOf y = some .cell) (hy : X.env.cells.lookup y = some c) : ∃ u, RelV vy u ∧ s.heap.IsCell c (some u) := by
  obtain ⟨m, _, l⟩ := I.loc
  obtain ⟨u, r, lk⟩ := l iy y vy hN hσ (.inr (.inl hk))
  rcases lk with ⟨z, _⟩ | ⟨_, d, e, ic⟩
  · rw [hk] at z; cases z
  · rw [hy] at e; cases e
    exact ⟨u, r, ic⟩
def tSortK (ta : TA) (iy : Nat) (P : Addr) (qual : Str) (lp : Pos) (te : TE) : TE := fun σ H Q => ta σ H fun xs H1 => ∃ (a : Addr) (kvs : List (Key × V)) (ks : List Str) (g : Str → Int) (vy : V), xs = [.ref a] ∧ σ[iy]? = some (some vy) ∧ H1 a = some (.dK kvs) ∧ kvs.map (·.1) = ks.map Sum.inr ∧ ks.length < 64 ∧ Tab0 H1 P qual lp ∧
  ∀ H2, Kp [P] H1 H2 → Tab1 H2 P qual lp → (∀ x ∈ ks, te [some (.str x), some vy] H2 fun r H3 => r = .int (g x) ∧ H3 = H2) ∧ ∀ (b : Addr) (zs : List Str), H2 b = none → zs.Perm ks → zs.Pairwise (fun x y => g x ≤ g y) → Q (.ref b) (upd H2 b (.lst (zs.map V.str)))
theorem zip_strs {g : Str → Int} : ∀ {vs : List Value} {ks : List Str}, StrsAre vs ks → ∀ p ∈ (ks.map g).zip vs, ∃ x t, x ∈ ks ∧ p = (g x, .str x t)
  | _, _, .nil, p, hp => by simp at hp
  | _, _, .cons x t h, p, hp => by
    rw [List.map_cons, List.zip_cons_cons] at hp
    rcases List.mem_cons.mp hp with z | z
    · exact ⟨x, t, List.mem_cons_self, z⟩
    · obtain ⟨x', t', h1, h2⟩ := zip_strs h p z
      exact ⟨x', t', List.mem_cons_of_mem _ h1, h2⟩
theorem pe_sortedK {e : Expr} {ta : TA} {p pos kp lp : Pos} {params : Arguments} {body : Expr} {scope : Scope} {x y qual : Str} {c c0 P : Addr} {iy : Nat} {te : TE} {k : Nat} (hr : Room (k + 2) X.A) (hc' : X.calm = true) (hg : Gl X "sorted") (hm : X.mg "sorted" = none) (hb : bootBuiltins "sorted" = some (.builtin "sorted")) (ha : PA X [e] ta)
    (S : LamScope x y scope) (ne : x ≠ y) (hN : X.N[iy]? = some y) (hk : X.env.kindOf y = some .cell) (hy : X.env.cells.lookup y = some c) (hcl : closureFor scope X.env = pure [(y, c)]) (hq : X.env.qual ++ "<lambda>" = qual) (hcode : X.env.code = .ref c0) (C : PySem.W.CodeHd X.base c0 P) (B : BltAt X.mg X.base)
    (hdef : defaultsOf params X.env = ([], [])) (hbind : ∀ (pm : Value) (c' : Addr) (ctv u : Value), bindArgs (PySem.W.kla_fn "<lambda>" qual params body scope [(y, c)] pm (.ref c') ctv) ⟨[u], []⟩ = pure [(x, u)])
    (ht : ∀ (f : Addr) (cd : Value) (A : Around) (s : Shared) (H : Hp), A.units + 3 ≤ X.A.units + 6 → PE (cxLam X [x, y] qual scope f cd [(y, c)] A s H) body te) (hs : starEach [e] X.env = [(false, eval e X.env)] := by rfl) :
    PE X (.Call (.Name "sorted" p) [e] [⟨some (Str.ofString "key"), .Lambda params body scope lp, kp⟩] pos) (tSortK ta iy P qual lp te) := by
  intro pins s σ H Q I h
  refine wpAny_Call_Name_kw (ld_blt I hg hm hb ?_)
  refine callWith_builtin_kwB (by rw [hs]; rfl) rfl ?_
  have ha' := ha pos pins s σ H _ I h
  have e0 : backTo pos (starEach [e] X.env) = (false, eval e X.env) :: [] := by rw [hs]; rfl
  rw [e0] at ha' ⊢
  refine evalArgs_kwB rfl (thn ha' fun us s1 ⟨vs, H1, I1, r1, q1⟩ => ?_)
  obtain ⟨a, kvs, ks, g, vy, e1, hσ, ea, ek, hl64, T, q⟩ := q1
  subst e1
  obtain ⟨u, rfl, ru⟩ := r1.one
  cases ru
  show wpAny _ _ (evalAll ((do let v ← eval (.Lambda params body scope lp) X.env; standAt pos; pure v) :: [])) _ _ s1
  refine wpAny_evalAll_cons (wpAny_bind (PySem.W.kla_eval hdef ?_))
  rw [hq]
  refine lam_make I1 hcl hcode C B T fun f c' ctv pm H2 s2 I2 k2 T2 ec fo ff => ?_
  refine wpAny_bind (wpAny_standAt (wpAny_pure (wpAny_evalAll_nil ?_)))
  obtain ⟨qb, qr⟩ := q H2 k2 T2
  have naP : a ≠ P := fun z => by
    rcases T with t | ⟨_, t, _⟩
    · rw [z, t] at ea; cases ea
    · rw [z, t] at ea; cases ea
  have ea2 : H2 a = some (.dK kvs) := k2 a _ ea (by simp [naP])
  obtain ⟨z, hd, vs, rel, dd⟩ := dk_of I2.hok ea2
  obtain ⟨o, es, ep', y1, y2, y3, y4, y5, y6⟩ := id dd
  have len := rel.length
  have kl : ks.length = kvs.length := by have := congrArg List.length ek; simpa using this.symm
  have K0 := PySem.W.kdl_dict (prog := X.prog) (w := X.w) (knd := mixKind X.prog X.w) (d := a) (kvs := vs) (ep := ep') hd
  have hok : s2.heap.DictAt (mixKind X.prog X.w) a vs ep' := ⟨o, es, y1, y2, y3, y4, y5, y6⟩
  refine ST.w_sortedK
    (Jc := fun its s1 => StrsAre its ks ∧ ∃ h1 tk, s1 = { s2 with heap := h1, toks := tk } ∧ ∀ b o, s2.heap.get? b = some o → h1.get? b = some o)
    (PySem.W.kdu_collect (A := X.A.in1) K0 (I2.ok.hd hc') hok (by rw [sizeLine_eq]; omega) fun h' tk acc hk hacc => ⟨?_, h', tk, rfl, hk⟩) fun its s3 ⟨hS, h1, tk, v2, v3⟩ => ?_
  · refine strs_of _ ks (by rw [Array.length_toList, hacc.1]; omega) fun j v e => ?_
    obtain ⟨k, x, e1, e2⟩ := hacc.2 j v (by simpa using e)
    have jl : j < kvs.length := by rw [len]; exact (List.getElem?_eq_some_iff.mp e1).1
    obtain ⟨u, e3, _⟩ := kv_at rel (List.getElem?_eq_getElem jl)
    rw [e1] at e3
    have e3 : k = kvs[j].1 := by cases e3; rfl
    have e4 : (kvs.map (·.1))[j]? = (ks.map Sum.inr)[j]? := by rw [ek]
    rw [List.getElem?_map, List.getElem?_map, List.getElem?_eq_getElem jl, List.getElem?_eq_getElem (by omega)] at e4
    have e4 : kvs[j].1 = Sum.inr ks[j] := by simpa using e4
    rw [e3, e4] at e2
    obtain ⟨t, rfl⟩ : RelV (V.str ks[j]) v := rel_key e2
    exact ⟨ks[j], t, List.getElem?_eq_getElem (by omega), rfl⟩
  · subst v2
    have hln : its.length = ks.length := ST.strs_len hS
    have I3 : Inv X pins σ H2 { s2 with heap := h1, toks := tk } := I2.kept v3
    have fo3 : h1.get? f = some _ := v3 _ _ fo
    have flt : f < h1.objs.size := Heap.lt_size fo3
    have fa : FpOk X pins H2 h1.objs.size := I3.fpOk (Nat.le_refl _) (I3.hok.fresh (Nat.le_refl _))
    have fk : FpOk X pins H2 (h1.objs.size + 2) := I3.fpOk (Nat.le_add_right _ _) (I3.hok.fresh (Nat.le_add_right _ _))
    refine ⟨by omega, ks.map g, fun s' => Inv X pins σ H2 s' ∧ s'.heap.get? f = some (PySem.W.kla_obj "<lambda>" qual params body scope [(y, c)] pm c' ctv), by rw [List.length_map, hln], fun h' up => ⟨I3.kept (t' := tk) up, up _ _ fo3⟩, ?_, ?_, ?_⟩
    · rintro i v kx hv hkx s' ⟨I4, fo4⟩
      rw [List.getElem?_map] at hkx
      obtain ⟨x', ex', rfl⟩ := Option.map_eq_some_iff.mp hkx
      obtain ⟨t, rfl⟩ : ∃ t, v = .str x' t := by
        have h1 := hS.all v (List.mem_of_getElem? hv)
        obtain ⟨x2, t, rfl⟩ := h1
        have h2 : (its.map strOf)[i]? = some x2 := by rw [List.getElem?_map, hv]; rfl
        rw [hS.strs, ex'] at h2
        cases h2
        exact ⟨t, rfl⟩
      obtain ⟨uy, ry, iy'⟩ := I4.cellAt hN hσ hk hy
      have hr2 : Room k X.A.in1.in1 := Room.in1 (Room.in1 hr)
      refine wpAny_mono (lam_call (A := X.A.in1.in1) (vx := .str x') I4 I4.ok.frames hr2.hd hr2.depth fo4 (codeO_rec I4 ec) S ne (hbind _ _ _ _) hy iy' ry ⟨t, rfl⟩ (ht _ _ _ _ _ ?_) (qb x' (List.mem_of_getElem? ex'))) (fun r s5 hE => ?_) fun _ _ hF => hF
      · show X.A.in1.in1.units + 3 ≤ X.A.units + 6
        show X.A.units + 1 + 1 + 3 ≤ X.A.units + 6
        omega
      · obtain ⟨v, H5, os, bare, un, hok5, rv, qv, qh⟩ := hE
        subst qv qh
        obtain ⟨t', rfl⟩ := rv
        refine ⟨⟨t', rfl⟩, ⟨I4.call' os un hok5 bare (fun b z => nomatch z), un.keep _ _ fo4 ff.1 (ff.nstk I4) (by simp)⟩, fun b hb o qo => ?_⟩
        rcases hb with rfl | rfl
        · exact un.keep _ _ qo fk.1 (fk.nstk I4) (by simp)
        · exact un.keep _ _ qo fa.1 (fa.nstk I4) (by simp)
    · rintro s' h' ⟨I4, fo4⟩ kk
      refine ⟨I4.turned (t' := s'.toks) kk fk.1 fk.2.1 fk.2.2.2.1 fk.2.2.2.2.1 fk.2.2.2.2.2, kk _ _ (Nat.ne_of_lt (Nat.lt_of_lt_of_le flt (Nat.le_add_right _ _))) fo4⟩
    · rintro s' h' tk' out c2 ⟨I4, fo4⟩ kk gg ⟨ps, pp, po, pw⟩
      have hp' : ∀ p ∈ ps, ∃ x t, x ∈ ks ∧ p = (g x, .str x t) := fun p hp => zip_strs hS p (pp.mem_iff.mp hp)
      have hall : ∀ v ∈ out.toList, ∃ x t, v = .str x t := fun v hv => by
        rw [po] at hv
        obtain ⟨p, hp, rfl⟩ := List.mem_map.mp hv
        obtain ⟨x, t, _, e⟩ := hp' p hp
        exact ⟨x, t, by rw [e]⟩
      have hO := strsAre_map out.toList hall
      have hpz : (out.toList.map strOf).Perm ks := by
        have h1 : (ps.map Prod.snd).Perm its := by
          have := pp.map Prod.snd
          rwa [List.map_snd_zip (by rw [List.length_map, hln]; exact Nat.le_refl _)] at this
        rw [po]
        have := h1.map strOf
        rwa [hS.strs] at this
      have hsr : (out.toList.map strOf).Pairwise (fun x y => g x ≤ g y) := by
        rw [po, List.map_map, List.pairwise_map]
        refine pw.imp_of_mem fun {p q} hp hq z => ?_
        obtain ⟨x, t, _, e⟩ := hp' p hp
        obtain ⟨x', t', _, e'⟩ := hp' q hq
        subst e e'
        exact z
      have hz : ((out.toList.map strOf).map V.str).length ≤ sizeLine := by rw [List.length_map, hpz.length_eq, sizeLine_eq]; omega
      have un : Un (frs X.stack) [h1.objs.size + 2, h1.objs.size] H2 H2 s'.heap h' := by
        have k' : ∀ b o, b ∉ ([h1.objs.size + 2, h1.objs.size] : List Addr) → s'.heap.get? b = some o → h'.get? b = some o := fun b o n q => kk b o (fun z => n (by simp [z])) (fun z => n (by simp [z])) q
        exact ⟨fun b o q n _ x => k' b o x q, fun b o q n _ x => ⟨o.slots, k' b o x q⟩, fun b o q n _ => n, fun b o q x => ⟨o, k' b o x q⟩, fun _ _ q => q, fun _ _ _ q => q, fun b ps q => ⟨#[], by rw [q]; simp⟩⟩
      have hok2 : HOk X.prog X.w H2 h' := fun b o q => by
        refine (I4.hok b o q).stay (fun d v hd y => ?_) (fun _ y => y) fun _ _ y => y
        have nn : H2 d ≠ none := by
          rcases hd with rfl | hd
          · rw [q]; simp
          · rw [hd]; simp
        exact kk d v (fun z => nn (by rw [z]; exact fk.1)) (fun z => nn (by rw [z]; exact fa.1)) y
      have I5 : Inv X pins σ H2 { s' with heap := h', toks := tk' } := I4.call' rfl un hok2 I4.bare fun b hb => by
        have : b = h1.objs.size + 2 ∨ b = h1.objs.size := by simpa using hb
        rcases this with rfl | rfl
        · exact ⟨fk.2.2.2.1, fk.2.1, fk.2.2.2.2.1, fk.2.2.2.2.2⟩
        · exact ⟨fa.2.2.2.1, fa.2.1, fa.2.2.2.2.1, fa.2.2.2.2.2⟩
      have new : ObjOk X.prog X.w (upd H2 h1.objs.size (.lst ((out.toList.map strOf).map V.str))) h' h1.objs.size (.lst ((out.toList.map strOf).map V.str)) := ⟨hz, out.toList, c2, strs_vals hO, by simpa using gg⟩
      exact ⟨.ref h1.objs.size, _, I5.adopt fa new, rfl, qr _ _ fa.1 hpz hsr⟩
end
end L2
set_option Elab.async false
set_option linter.all false
set_option maxRecDepth 100000
set_option maxHeartbeats 4000000
namespace L2
open PySem PySem.Spec PyProof.Rows
theorem law_callT {P : Program} {w : World} {K : PySem.W.Frag} {mg mb : Str → Option Value} {CX : CXT} {k : Nat} {fa a : Addr} {fd : FuncData} {x : Str} {sp : Sp} {s₁ : Shared} {vs : List Value} {ns : List Int} {tabs : List (Addr × Addr)}
    (KX : K.In s₁.heap) (hns : s₁.heap.Ns mainGlobals mg) (hb : s₁.heap.Ns builtinsNs mb) (hbb : ∀ x : Str, x ≠ "__name__" → mb x = bootBuiltins x) (hlim : s₁.heap.NoLimit) (hg : s₁.gens = #[]) (hB : BltAt mg s₁.heap) (hT : PySem.W.TabsAt tabs s₁.heap) (hKT : ∀ q ∈ tabs, K.lookup q.2 = none)
    (ha : s₁.heap.get? a = some { cls := .type "list", data := .seq vs.toArray }) (hi : IntsAre vs ns) (hl : ns.length ≤ sizeLine) (hr : Room k callerA)
    (F : ∀ base : Heap, K.In base → base.Ns mainGlobals mg → BltAt mg base → (∀ q ∈ tabs, PySem.W.CodeHd base q.1 q.2) → FnOk P w K mg base CX k fa fd [x] sp) (hbind : ∀ (s : Shared) (u : Value), BindsTo s fd ⟨[u], []⟩ [(x, u)])
    (hsp : ∀ H : Hp, SqL K H a (ns.map V.int) → (∀ q ∈ tabs, H q.2 = some (.tbl #[])) → sp [.ref a] H (fun v _ => v = .bl true) fun _ _ _ => False)
    (hCX : ∀ H e s', CX [] H s₁ (fun _ _ _ => False) e s' → False) :
    codeAny (model P w) callerA (.call (.ref fa) ⟨[.ref a], []⟩) (fun r s' => r = .ok (.ret (.bool true)) ∧ OldK s₁.heap s'.heap ∧ s'.os = s₁.os ∧ AllBare s'.gens) s₁ := by
  have rv := vals_ints hi
  have lenV := hi.length
  have naT : ∀ q ∈ tabs, q.2 ≠ a := fun q hq z => by
    have := (hT q hq).2
    rw [z, ha] at this; cases this
  have core : ∀ H : Hp, (∀ b, H b = none ∨ (∃ o xs, H b = some (.frz o (.lst xs))) ∨ (H b = some (.tbl #[]) ∧ ∃ q ∈ tabs, q.2 = b)) → SqL K H a (ns.map V.int) → (∀ q ∈ tabs, H q.2 = some (.tbl #[])) → HOk P w H s₁.heap → (∀ b, H b ≠ none → b = a ∨ ∃ q ∈ tabs, q.2 = b) → (H a ≠ none → K.lookup a = none) →
      codeAny (model P w) callerA (.call (.ref fa) ⟨[.ref a], []⟩) (fun r s' => r = .ok (.ret (.bool true)) ∧ OldK s₁.heap s'.heap ∧ s'.os = s₁.os ∧ AllBare s'.gens) s₁ := by
    intro H hO hS hH hok hA hK
    have base_of : ∀ {b : Addr} {o : Obj}, s₁.heap.get? b = some o → H b = none → (hidT s₁.heap H).get? b = some o := fun e n => hidT_get e n
    have non : ∀ {b : Addr} {o : Obj}, s₁.heap.get? b = some o → (∀ xs n, o.data ≠ .seq xs n) → (∀ ps, o.data ≠ .fields ps ∨ o.cls ≠ .none) → H b = none := fun {b o} e n1 n2 => by
      cases q : H b with
      | none => rfl
      | some u =>
        rcases hA b (by rw [q]; simp) with z | ⟨r, hr, z⟩
        · subst z
          rw [ha] at e; cases e
          exact absurd rfl (n1 _ _)
        · subst z
          rw [(hT r hr).2] at e; cases e
          rcases n2 #[] with z | z <;> exact absurd rfl z
    have noA : ∀ {b : Addr} {o : Obj} {es : Array DictEntry} {ep : Nat}, s₁.heap.get? b = some o → o.data = .dict es ep → H b = none := fun {b o es ep} e d => non e (fun xs n z => by rw [d] at z; cases z) fun ps => .inl fun z => by rw [d] at z; cases z
    have nsK : ∀ {b : Addr} {m : Str → Option Value}, s₁.heap.Ns b m → (hidT s₁.heap H).Ns b m := fun {b m} ⟨o, es, ep, e, d, r⟩ => ⟨o, es, ep, base_of e (noA e d), d, r⟩
    have hKb : K.In (hidT s₁.heap H) := fun b o e => base_of (KX b o e) (by
      cases q : H b with
      | none => rfl
      | some u =>
        rcases hA b (by rw [q]; simp) with z | ⟨r, hr, z⟩
        · subst z
          rw [hK (by rw [q]; simp)] at e; cases e
        · subst z
          rw [hKT r hr] at e; cases e)
    have hBb : BltAt mg (hidT s₁.heap H) := by
      obtain ⟨bm, o, b1, b2, b3, b4, b5, b6⟩ := hB
      exact ⟨bm, o, b1, b2, base_of b3 (non b3 (fun xs n z => by rw [b6] at z; cases z) fun ps => .inl fun z => by rw [b6] at z; cases z), b4, b5, b6⟩
    have hCb : ∀ q ∈ tabs, PySem.W.CodeHd (hidT s₁.heap H) q.1 q.2 := fun q hq => by
      obtain ⟨o, vs', file, tf, flags, tg, inF, text, tt, c1, c2, c3, c4⟩ := (hT q hq).1
      exact ⟨o, vs', file, tf, flags, tg, inF, text, tt, base_of c1 (non c1 (fun xs n z => by rw [c3] at z; cases z) fun ps => .inr fun z => by rw [c2] at z; cases z), c2, c3, c4⟩
    have hM : Mod K mg (hidT s₁.heap H) := ⟨hKb, nsK hns, ⟨mb, nsK hb, hbb⟩, let ⟨mc, h1, h2⟩ := hlim; ⟨mc, nsK h1, h2⟩⟩
    have e0 : Env0 P w K mg (hidT s₁.heap H) callerA [] s₁ H := ⟨rfl, hM, fun b o e => of_hidT e, Nat.le_of_eq (hidT_size _ _), trivial, fun b hb => absurd (show b ∈ ([] : List Addr) from hb) (by simp), hok, .of_eq hg⟩
    refine codeAny_mono ((F _ hKb (nsK hns) hBb hCb).run callerA [] s₁ H ⟨[.ref a], []⟩ [.ref a] [.ref a] _ _ hr e0 (hbind s₁ (.ref a)) (.cons rfl .nil) (hsp H hS hH)) fun r s' h => ?_
    cases r with
    | error e => exact (hCX H e s' h).elim
    | ok fl =>
      cases fl with
      | next => exact False.elim h
      | brk => exact False.elim h
      | cont => exact False.elim h
      | ret u =>
        obtain ⟨v, H', os, bare, un, hok', r', q⟩ := h
        have q' : v = .bl true := q
        subst q'
        obtain rfl : u = Value.bool true := r'
        have kept : ∀ b o, s₁.heap.get? b = some o → (∀ r ∈ tabs, r.2 ≠ b) → s'.heap.get? b = some o := fun b o e nt => by
          cases q : H b with
          | none => exact un.keep b o e q (by intro z; exact absurd (show b ∈ ([] : List Addr) from z) (by simp)) (by simp)
          | some u =>
            rcases hO b with z | ⟨ob, xs, z⟩ | ⟨z, r, hr, y⟩
            · rw [q] at z; cases z
            · have z2 := un.frzs b ob _ z
              obtain ⟨e1, _⟩ := hok b _ z
              obtain ⟨e2, _⟩ := hok' b _ z2
              rw [e] at e1; cases e1
              exact e2
            · exact absurd y (nt r hr)
        refine ⟨rfl, ⟨fun b o e => ?_, fun b o e => ?_⟩, os, bare⟩
        · by_cases t : ∃ r ∈ tabs, r.2 = b
          · obtain ⟨r, hr, rfl⟩ := t
            obtain ⟨c1, c2⟩ := hT r hr
            rw [c2] at e; cases e
            obtain ⟨more, z⟩ := un.tbls _ _ (hH r hr)
            have z2 : s'.heap.get? r.2 = some { cls := .none, data := .fields (#[] ++ more) } := hok' _ _ z
            exact .inr (.inl ⟨(c1.tab c2).isCodeTable, rfl, #[], more, rfl, z2⟩)
          · exact .inl (kept b o e fun r hr z => t ⟨r, hr, z⟩)
        · by_cases t : ∃ r ∈ tabs, r.2 = b
          · obtain ⟨r, hr, rfl⟩ := t
            obtain ⟨more, z⟩ := un.tbls _ _ (hH r hr)
            exact ⟨_, hok' _ _ z⟩
          · exact ⟨o, kept b o e fun r hr z => t ⟨r, hr, z⟩⟩
  have hTb : ∀ b : Addr, (∃ q ∈ tabs, q.2 = b) → s₁.heap.get? b = some (PySem.W.tabObj #[]) := fun b ⟨q, hq, e⟩ => by rw [← e]; exact (hT q hq).2
  open Classical in
  cases hk : K.lookup a with
  | some o =>
    have e := KX a o hk
    rw [ha] at e
    cases e
    refine core (fun b => if (∃ q ∈ tabs, q.2 = b) then some (.tbl #[]) else none) (fun b => ?_) (.inr ⟨_, vs.toArray, _, hk, rfl, rfl, rfl, by rw [List.size_toArray, lenV]; exact hl, by simpa using rv⟩) (fun q hq => if_pos ⟨q, hq, rfl⟩) (fun b u z => ?_) (fun b z => ?_) fun z => ?_
    · by_cases t : ∃ q ∈ tabs, q.2 = b
      · exact .inr (.inr ⟨if_pos t, t⟩)
      · exact .inl (if_neg t)
    · by_cases t : ∃ q ∈ tabs, q.2 = b
      · have z' := (if_pos t).symm.trans z
        cases z'
        exact hTb b t
      · have z' := (if_neg t).symm.trans z
        cases z'
    · by_cases t : ∃ q ∈ tabs, q.2 = b
      · exact .inr t
      · exact absurd (if_neg t) z
    · by_cases t : ∃ q ∈ tabs, q.2 = a
      · obtain ⟨q, hq, e⟩ := t
        exact absurd e (naT q hq)
      · exact absurd (if_neg t) z
  | none =>
    have nta : ¬ ∃ q ∈ tabs, q.2 = a := fun ⟨q, hq, e⟩ => naT q hq e
    refine core (fun b => if b = a then some (.frz { cls := .type "list", data := .seq vs.toArray } (.lst (ns.map V.int))) else if (∃ q ∈ tabs, q.2 = b) then some (.tbl #[]) else none) (fun b => ?_) (.inl (.inr ⟨{ cls := .type "list", data := .seq vs.toArray }, if_pos rfl⟩)) (fun q hq => (if_neg (naT q hq)).trans (if_pos ⟨q, hq, rfl⟩)) (fun b u z => ?_) (fun b z => ?_) fun _ => hk
    · by_cases hb : b = a
      · exact .inr (.inl ⟨_, _, if_pos hb⟩)
      · by_cases t : ∃ q ∈ tabs, q.2 = b
        · exact .inr (.inr ⟨(if_neg hb).trans (if_pos t), t⟩)
        · exact .inl ((if_neg hb).trans (if_neg t))
    · by_cases hb : b = a
      · have z' := (if_pos hb).symm.trans z
        cases z'
        subst hb
        exact ⟨ha, by rw [List.length_map]; exact hl, vs, _, rv, ha⟩
      · by_cases t : ∃ q ∈ tabs, q.2 = b
        · have z' := ((if_neg hb).trans (if_pos t)).symm.trans z
          cases z'
          exact hTb b t
        · have z' := ((if_neg hb).trans (if_neg t)).symm.trans z
          cases z'
    · by_cases hb : b = a
      · exact .inl hb
      · by_cases t : ∃ q ∈ tabs, q.2 = b
        · exact .inr t
        · exact absurd ((if_neg hb).trans (if_neg t)) z
theorem walk_ofT {l : PySem.W.OpenLaw} {n k : Nat} {q : Program} {loose : List Str} {XP : (Str → Option Value) → Heap → Prop} {YP : World → Heap → Prop} {d : DefRec} {K : Params → PySem.W.Frag} {CX : World → CXT} {sp : World → Sp} {x : Str} {tabs : List (Addr × Addr)}
    (hn : l.most = some n) (hn2 : n ≤ sizeLine) (hdf : d.params.defaults = []) (hr : Room k callerA)
    (hY : ∀ (w : World) (h : Heap), YP w h → (K w.params).In h) (hT : ∀ (w : World) (h : Heap), YP w h → PySem.W.TabsAt tabs h) (hKT : ∀ (w : World), ∀ q ∈ tabs, (K w.params).lookup q.2 = none)
    (F : ∀ (w : World) (mg : Str → Option Value) (fa : Addr) (h : Heap), (K w.params).In h → h.Ns mainGlobals mg → mg d.name = some (.ref fa) →
      ∃ fd : FuncData, (∀ (s : Shared) (u : Value), BindsTo s fd ⟨[u], []⟩ [(x, u)]) ∧
        ∀ base : Heap, (K w.params).In base → base.Ns mainGlobals mg → BltAt mg base → (∀ q ∈ tabs, PySem.W.CodeHd base q.1 q.2) → FnOk l.prog w (K w.params) mg base (CX w) k fa fd [x] (sp w))
    (hsp : ∀ (w : World) (H : Hp) (a : Addr) (ns : List Int), ns.length ≤ n → SqL (K w.params) H a (ns.map V.int) → (∀ q ∈ tabs, H q.2 = some (.tbl #[])) → sp w [.ref a] H (fun v _ => v = .bl true) fun _ _ _ => False)
    (hCX : ∀ (w : World) (H : Hp) (s : Shared) (e : Value) (s' : Shared), CX w [] H s (fun _ _ _ => False) e s' → False) :
    PySem.W.WalkO q loose XP YP l.row.toRowW d [] (fun f vs => PySem.call f vs) := by
  refine Att.attach_call hn hdf fun w s₀ s₁ mg mb fa o pm cd doc a vs ns G Y ho hd hcd hmg hobj hints hlen hg => ?_
  have KX := hY w _ Y
  obtain ⟨fd, hb, hF⟩ := F w mg fa _ KX G.T.g hmg
  exact law_callT KX G.T.g G.T.b G.T.builtins G.T.nolimit hg G.T.bmain (hT w _ Y) (hKT w) hobj hints (Nat.le_trans hlen hn2) hr hF hb (fun H hS hH => hsp w H a ns hlen hS hH) fun H e s' => hCX w H s₁ e s'
end L2
set_option Elab.async false
set_option linter.all false
set_option maxRecDepth 100000
set_option maxHeartbeats 4000000
namespace RV
open PySem
theorem l_noga : typeLookup (.type "list") "__getattr__" = pure none := by rw [typeLookup_type, builtinLookup_eq_fast]; kernel_rfl
theorem l_nokeys : typeLookup (.type "list") "keys" = pure none := by rw [typeLookup_type, builtinLookup_eq_fast]; kernel_rfl
abbrev IsLst (h : Heap) (l : Addr) (ys : Array Value) (n : Nat) : Prop := h.get? l = some { cls := .type "list", dict := none, data := .seq ys n, slots := #[] }
theorem lmiss_m (l : Addr) (ys : Array Value) (n : Nat) (u : Tok) :
    Meets (Builtin.«object.__getattribute__» ⟨[.ref l, .str "keys" u], []⟩) (fun A R s => IsLst s.heap l ys n ∧ raisesAttr (.ref l) "keys" A R s) :=
  Meets.of_wp fun P w A R s hs => by
    obtain ⟨h0, g, d, tk, os⟩ := s
    obtain ⟨hx, hs⟩ := hs
    have hx : h0.get? l = some { cls := .type "list", dict := none, data := .seq ys n, slots := #[] } := hx
    have ty : Shared.TypeIs ⟨h0, g, d, tk, os⟩ (.ref l) "list" := ⟨_, hx, rfl⟩
    have nk := l_nokeys
    unfold Builtin.«object.__getattribute__»
    repeat (any_goals (first | assumption | wp_step))
    exact wpAny_raiseAttrError hs.1 hs.2 (attrMsg_fits (by decide +kernel) (by decide +kernel))
section
variable {P : Program} {w : World} {A : Around} {E : Value → Shared → Prop} {s : Shared}
theorem lmiss_keys {l : Addr} {ys : Array Value} {n : Nat} {Q : Option Value → Shared → Prop} (hh : A.handled = none) (hr : IsLst s.heap l ys n) (q : ∀ k tk, (∀ b o, s.heap.get? b = some o → k.get? b = some o) → Q none { s with heap := k, toks := tk }) :
    wpAny (model P w) A (getAttr? (.ref l) "keys") Q E s := by
  obtain ⟨h0, g, d, tk, os⟩ := s
  have hr : h0.get? l = some { cls := .type "list", dict := none, data := .seq ys n, slots := #[] } := hr
  have ty : ∀ t, Shared.TypeIs ⟨h0, g, d, t, os⟩ (.ref l) "list" := fun _ => ⟨_, hr, rfl⟩
  have f1 := sub_AttributeError
  have f3 := F.slot_list_getattribute.lookup
  have f4 := F.slot_list_getattribute.bind (.ref l)
  have f5 := l_noga
  unfold getAttr? getAttrBy? getAttrBy
  repeat (any_goals (first | assumption | exact ty _ | ((with_reducible show wpAny _ _ (call (Value.builtin "list.__getattribute__") _ _) _ _ _); refine call_meets F.slot_list_getattribute (ty _) am_entry_list_getattribute (F.args_list_getattribute_2 _ _) (lmiss_m l ys n _) ⟨hr, hh, fun h' tk' e hx' => ?_⟩) | wp_step))
  obtain ⟨t', u', he⟩ := hx'.there
  show wpAny _ _ (getattributeRaised _ _ _ _ _ _ _) _ _ _
  unfold getattributeRaised
  repeat (any_goals (first | assumption | wp_step))
  exact q _ _ hx'.keeps
theorem lfill {K : Type} [DecidableEq K] {knd : KeyKind P w K} {R : Result → Shared → Prop} {d r l : Addr} {ys : Array Value} {vs : List (K × Value)} {res : Value} (hh : A.handled = none) (dr : d ≠ r) (nd : (vs.map (·.1)).Nodup) (sz : vs.length ≤ sizeLine) :
    ∀ (j i : Nat) (s : Shared) (c : Int), vs.length - i = j → i ≤ vs.length → s.heap.IsListIter r l i → s.heap.IsList l ys → PairsIn knd s.heap ys vs → s.heap.DictOf knd d (vs.take i) →
    (∀ k tk, (∀ b o, b ≠ d → b ≠ r → s.heap.get? b = some o → k.get? b = some o) → k.DictOf knd d vs → R (.ok (.ret res)) { s with heap := k, toks := tk }) →
    codeAny (model P w) A (.builtin "dict.update.loop" ⟨[.ref d, .ref r, .int c 0, res], []⟩) R s := by
  intro j
  induction j with
  | zero =>
    intro i s c hj hi hr hl hp hd q
    have e : i = vs.length := by omega
    subst e
    refine codeAny_builtin e_loop ?_
    rw [Around.under_plainId p_loop _]
    unfold Builtin.«dict.update.loop»
    refine wpAny_bind (wpAny_pyNext_list_end (A := A.in1) hh hr hl (by rw [← hp.1]; simp) fun k hk => ?_)
    refine wpAny_bind (wpAny_pure (wpAny_pure ?_))
    rw [List.take_length] at hd
    exact q k s.toks (fun b o _ n y => hk b o n y) (hd.at fun o y => hk _ o dr y)
  | succ j ih =>
    intro i s c hj hi hr hl hp hd q
    obtain ⟨h0, g, dd, tk, os⟩ := s
    refine codeAny_builtin e_loop ?_
    rw [Around.under_plainId p_loop _]
    unfold Builtin.«dict.update.loop»
    have hlt : i < vs.length := by omega
    obtain ⟨t, key, n, e1, e2, ot, e3, e3c, e3d⟩ := hp.2 i (vs[i]).1 (vs[i]).2 (List.getElem?_eq_getElem hlt)
    have hr0 := hr
    refine wpAny_bind (wpAny_pyNext_list_item hr hl e1 fun k hr1 sb => ?_)
    have sb : Heap.SameBut r h0 k := sb
    have nr : ∀ t o, h0.get? t = some o → o.cls ≠ .type "list_iterator" → t ≠ r := fun t o y n z => by
      obtain ⟨o', y', c', _⟩ := hr0
      rw [z] at y
      have := y.symm.trans y'
      cases this
      exact n c'
    have e4 : k.get? t = some ot := (sb.2 t (nr t ot e3 (by rw [e3c]; simp))).trans e3
    have hd1 : k.DictOf knd d (vs.take i) := hd.at fun o y => (sb.2 d dr).trans y
    refine wpAny_bind ?_
    refine wpAny_holding ?_
    refine wpAny_bind (wpAny_tryCatch ?_)
    unfold Builtin.Dict.pairItems
    refine wpAny_bind (wpAny_typeOf (T := "tuple") ⟨_, e4, e3c⟩ ?_)
    rw [if_pos (by decide)]
    refine wpAny_bind (wpAny_seqItems e4 e3d (wpAny_pure ?_))
    have tk1 : vs.take (i + 1) = vs.take i ++ [((vs[i]).1, (vs[i]).2)] := by rw [List.take_succ_eq_append_getElem hlt]
    have nw : (vs[i]).1 ∉ (vs.take i).map (·.1) := by
      have n1 : ((vs.take (i + 1)).map (·.1)).Nodup := nd.sublist ((List.take_sublist _ _).map _)
      rw [tk1, List.map_append] at n1
      intro z
      exact (List.nodup_append.mp n1).2.2 _ z _ (by simp) rfl
    have tl : (vs.take i).length = i := by rw [List.length_take]; omega
    show wpAny _ _ (holding [key, (vs[i]).2] (dictSet d key (vs[i]).2)) _ _ _
    refine wpAny_holding (wpAny_dictSet_pairs e2 hd1 (fun k2 hd2 sb2 => ?_) (by omega))
    have sb2 : Heap.SameBut d k k2 := sb2
    rw [stored_new nw, ← tk1] at hd2
    have nd' : ∀ t o, h0.get? t = some o → o.cls ≠ .type "dict" → t ≠ d := fun t o y n z => by
      obtain ⟨o', es, ep, y', ex, _⟩ := hd
      rw [z] at y
      have := y.symm.trans y'
      cases this
      exact n ex.1
    have ll : ∀ o, h0.get? l = some o → k2.get? l = some o := fun o y => by
      obtain ⟨o', y', c', _⟩ := hl
      have hc : o.cls = .type "list" := by
        have := y.symm.trans y'
        cases this
        exact c'
      exact (sb2.2 l (nd' l o y (by rw [hc]; simp))).trans ((sb.2 l (nr l o y (by rw [hc]; simp))).trans y)
    refine wpAny_pure ⟨plainId_quiet p_loop _, ih (i + 1) ⟨k2, g, dd, tk + 1, os⟩ (c + 1) (by omega) hlt (Heap.IsListIter.at hr1 fun o y => (sb2.2 r dr.symm).trans y) (hl.at ll) ⟨hp.1, fun j kk v e => ?_⟩ hd2 fun k3 tk3 k4 hd3 => ?_⟩
    · obtain ⟨t', key', n', e1', e2', o', e3', e4', e5'⟩ := hp.2 j kk v e
      exact ⟨t', key', n', e1', e2', o', (sb2.2 t' (nd' t' o' e3' (by rw [e4']; simp))).trans ((sb.2 t' (nr t' o' e3' (by rw [e4']; simp))).trans e3'), e4', e5'⟩
    · exact q k3 tk3 (fun b o h1 h2 y => k4 b o h1 h2 ((sb2.2 b h1).trans ((sb.2 b h2).trans y))) hd3
theorem dict_lst {K : Type} [DecidableEq K] {knd : KeyKind P w K} {l : Addr} {ys : Array Value} {n : Nat} {vs : List (K × Value)} {Q : Value → Shared → Prop} (hh : A.handled = none) (hr : IsLst s.heap l ys n) (hp : PairsIn knd s.heap ys vs) (nd : (vs.map (·.1)).Nodup) (sz : vs.length ≤ sizeLine)
    (q : ∀ k tk, (∀ b o, s.heap.get? b = some o → k.get? b = some o) → k.DictOf knd s.heap.objs.size vs → Q (.ref s.heap.objs.size) { s with heap := k, toks := tk }) : wpAny (model P w) A (call (.type "dict") [.ref l]) Q E s := by
  refine callType_codes (Q₁ := fun obj s₁ => obj = .ref s.heap.objs.size ∧ s₁ = { s with heap := s.heap.push { cls := .type "dict", data := .dict #[] } }) F.kt_called_dict (F.kt_typeCall_dict_1 _) F.entry_dict_init (kt_code_dict_new _ ⟨rfl, rfl⟩) fun obj s1 h1 => ?_
  obtain ⟨rfl, rfl⟩ := h1
  have hnew : (s.heap.push { cls := .type "dict", data := .dict #[] }).DictOf knd s.heap.objs.size [] := Heap.DictOf.new s.heap
  refine ⟨hnew.typeIs, F.args_dict_init_2 _ _, ?_⟩
  unfold Builtin.«dict.__init__»
  refine wpAny_bind ?_
  unfold Builtin.Dict.selfAndRest
  refine wpAny_bind (wpAny_notOrdered_dict hnew.typeIs ?_)
  show wpAny _ _ (pure (s.heap.objs.size, [Value.ref l])) _ _ _
  refine wpAny_pure ?_
  show wpAny _ _ (Builtin.Dict.updateFrom "dict.__init__" s.heap.objs.size (.ref l) [] .none) _ _ _
  unfold Builtin.Dict.updateFrom
  have hr1 : IsLst (s.heap.push { cls := .type "dict", data := .dict #[] }) l ys n := Heap.get?_push_of_some _ hr
  refine wpAny_bind (wpAny_typeOf (T := "list") ⟨_, hr1, rfl⟩ ?_)
  rw [if_pos (by decide)]
  refine wpAny_bind (lmiss_keys (A := A.in1.in1) hh hr1 fun k tk hk => ?_)
  have hk : ∀ b o, (s.heap.push { cls := .type "dict", data := .dict #[] }).get? b = some o → k.get? b = some o := hk
  simp only [Option.isNone_none, if_true]
  refine wpAny_bind (wpAny_rule ?_)
  have hr2 : IsLst k l ys n := hk _ _ hr1
  have hl2 : k.IsList l ys := ⟨_, hr2, rfl, n, rfl⟩
  refine wpAny_bind (wpAny_pyIter_list (s := { s with heap := k, toks := tk }) hl2 ?_)
  have up : ∀ b o, s.heap.get? b = some o → k.get? b = some o := fun b o y => hk b o (Heap.get?_push_of_some _ y)
  have hd2 : k.DictOf knd s.heap.objs.size [] := hnew.at fun o y => hk _ o y
  have dlt : s.heap.objs.size < k.objs.size := by
    obtain ⟨o, es, ep, y, _⟩ := hd2
    exact Heap.lt_size y
  have kp : ∀ b o, k.get? b = some o → (k.push { cls := .type "list_iterator", data := .fields #[.ref l, .int 0 0] }).get? b = some o := fun b o y => Heap.get?_push_of_some _ y
  refine wpAny_pure ⟨plainId_quiet p_loop _, lfill (A := A.in1) (knd := knd) (vs := vs) (l := l) (ys := ys) (r := k.objs.size) hh (Nat.ne_of_lt dlt) nd sz vs.length 0 _ 0 (by omega) (Nat.zero_le _) ⟨_, Heap.get?_push_size _ rfl, rfl, rfl⟩ (hl2.at fun o y => kp l o y) ⟨hp.1, fun j kk v e => ?_⟩ (by rw [List.take_zero]; exact hd2.at fun o y => kp _ o y) fun k2 tk2 k3 hd => ?_⟩
  · obtain ⟨t', key', n', e1', e2', o', e3', e4'⟩ := hp.2 j kk v e
    exact ⟨t', key', n', e1', e2', o', kp _ _ (up _ _ e3'), e4'⟩
  · refine ⟨rfl, q k2 tk2 (fun b o y => k3 b o (Nat.ne_of_lt (Heap.lt_size y)) (Nat.ne_of_lt (Nat.lt_of_lt_of_le (Heap.lt_size y) (Nat.le_of_lt dlt))) (kp b o (up b o y))) hd⟩
end
end RV
namespace L2
open PySem PySem.Spec PyProof.Rows
def Itv (a : Addr) (o : Obj) (kvs : List (Key × V)) : It :=
  ⟨fun i H => H a = some (.frz o (.dK kvs)) ∧ i < kvs.length, fun i H v H' => H' = H ∧ ∃ k, kvs[i]? = some (k, v), fun i H => H a = some (.frz o (.dK kvs)) ∧ kvs.length ≤ i⟩
theorem turn_vals {P : Program} {w : World} {K : PySem.W.Frag} {tg : Expr} (a it : Addr) (o : Obj) (es : Array DictEntry) (ep : Nat) (kvs : List (Key × V)) (hd : o.data = .dict es ep) : Turn P w K tg (Itv a o kvs) [it] it (fun i h => h.IsValIter it a i kvs.length ep) where
  mem := by simp
  obj := fun i h ⟨o, st, c, dt⟩ b hb => by
    have : b = it := by simpa using hb
    subst this
    exact ⟨_, st, fun v y => by rw [dt] at y; cases y⟩
  keep := fun i h h' st k => st.at fun o e => k it (by simp) o e
  item := by
    intro X hP hw hK hc i pins s σ H E I hf st hg
    subst hP hw hK
    obtain ⟨e, hi⟩ := hg
    obtain ⟨vs, es', ep', rel, hd', _, da, _, _, ho, _⟩ := frz_at I e
    have ee : ep' = ep := by rw [hd] at hd'; cases hd'; rfl
    subst ee
    have len := rel.length
    have ek : kvs[i]? = some (kvs[i].1, kvs[i].2) := List.getElem?_eq_getElem hi
    obtain ⟨v, ev, rv⟩ := kv_at rel ek
    rw [len] at st
    obtain ⟨f0, f1, f2, f3, f4, f5⟩ := hf it (by simp)
    refine wpAny_pyNext_values_item st da ev fun h' st' sb => ?_
    have I1 : Inv X pins σ H { s with heap := h', toks := s.toks } := I.turned (t' := s.toks) (fun b o hb y => sb.extBut b o hb y) f0 f1 f3 f4 f5
    rw [← len] at st'
    obtain ⟨o2, g1, g2, g3⟩ := id st'
    exact ⟨_, rfl, go_of (s := { s with heap := h' }) (n := "dict_valueiterator") g1 g2 g3 (by decide) ⟨kvs[i].2, H, I1, rv, ⟨rfl, _, ek⟩, st', fun b hb => (hf b hb).1⟩⟩
  done := by
    intro X hP hw hK hc i pins s σ H E I hf st hg
    subst hP hw hK
    obtain ⟨e, hi⟩ := hg
    obtain ⟨vs, es', ep', rel, hd', _, da, _, _, ho, _⟩ := frz_at I e
    have ee : ep' = ep := by rw [hd] at hd'; cases hd'; rfl
    subst ee
    have len := rel.length
    rw [len] at st
    obtain ⟨f0, f1, f2, f3, f4, f5⟩ := hf it (by simp)
    exact wpAny_pyNext_values_end (I.ok.hd hc) st da (by simp; omega) fun h' eb => ⟨rfl, I.turned (t' := s.toks) (fun b o hb y => eb b o hb y) f0 f1 f3 f4 f5⟩
  self := fun _ _ _ _ _ st h => wpAny_pyIter_valiter st h
section
variable {X : Cx}
theorem pi_vals {tg o : Expr} {to : TE} {apos cpos : Pos} (ho : PE X o to) (hbase : attributeBase o "values" X.env (eval o X.env) = eval o X.env := by rfl) (hline : (apos.endLine == cpos.line) = true := by rfl) :
    PI X tg (.Call (.Attribute o "values" apos) [] [] cpos) (fun σ H R => to σ H fun x H1 => ∃ a ob kvs, x = .ref a ∧ H1 a = some (.frz ob (.dK kvs)) ∧ R (Itv a ob kvs) H1) := by
  intro pins s σ H R I h
  refine wpAny_Call_method0_late hbase hline (thn (ho pins s σ H _ I h) fun v s1 ⟨x, H1, I1, r1, a, ob, kvs, ex, e, q⟩ => ?_)
  subst ex
  cases r1
  obtain ⟨vs, es, ep, rel, hd, sz, da, nsys, z, hget, exd⟩ := frz_at I1 e
  have ty : s1.TypeIs (.ref a) "dict" := ⟨_, hget, exd.1⟩
  have len := rel.length
  refine ⟨"dict", "dict.values", PySem.F.plainAttrs_dict, PySem.F.slot_dict_values, PySem.F.type_dict_values, ty, (fun b y => by cases y; exact ⟨ob, hget, exd.2.1⟩), Calls.callWith_builtin rfl (PySem.evalArgs_none ?_)⟩
  obtain ⟨o2, es2, y1, y2, y3, y4, y5, y6⟩ := id da
  refine wpAny_call (codeAny_call_builtin PySem.F.slot_dict_values.plain PySem.F.entry_dict_values (PySem.F.slot_dict_values.check _ _ _ _ _ _ _ _ ty (PySem.F.args_dict_values_1 _) (meets_dict_values (mixKind X.prog X.w) a nsys X.A (wants (fun v s1 => wpAny (model X.prog X.w) X.A (pyIter v) (PIE X pins σ tg R) X.xe s1) X.xe) s1 ⟨⟨vs, o2, es2, ep, y1, y2, y3, y4, y5, y6⟩, ?_⟩)))
  show wpAny _ _ (pyIter _) _ _ _
  have hv : (s1.heap.push { cls := .type "dict_values", data := .fields #[.ref a] }).IsValuesView s1.heap.objs.size a := ⟨_, Heap.get?_push_size _ rfl, rfl, rfl⟩
  have da' : (s1.heap.push { cls := .type "dict_values", data := .fields #[.ref a] }).DictAt (mixKind X.prog X.w) a vs ep := ⟨o2, es2, Heap.get?_push_of_some _ y1, y2, y3, y4, y5, y6⟩
  refine wpAny_pyIter_values (s := { s1 with heap := s1.heap.push { cls := .type "dict_values", data := .fields #[.ref a] } }) hv da' ?_
  have k1 : ∀ b u, s1.heap.get? b = some u → ((s1.heap.push { cls := .type "dict_values", data := .fields #[.ref a] }).push { cls := .type "dict_valueiterator", data := .fields #[.ref a, .int 0 0, .int vs.length 0, .int ep 0] }).get? b = some u := fun b u y => Heap.get?_push_of_some _ (Heap.get?_push_of_some _ y)
  refine ⟨_, [(s1.heap.push { cls := .type "dict_values", data := .fields #[.ref a] }).objs.size], _, _, H1, rfl, I1.kept (t' := s1.toks) k1, turn_vals a _ ob es ep kvs hd, ⟨_, Heap.get?_push_size _ rfl, rfl, by rw [len]; rfl⟩, fun b hb => ?_, q⟩
  have : b = (s1.heap.push { cls := .type "dict_values", data := .fields #[.ref a] }).objs.size := by simpa using hb
  subst this
  have ge : s1.heap.objs.size ≤ (s1.heap.push { cls := .type "dict_values", data := .fields #[.ref a] }).objs.size := by rw [Heap.size_push]; exact Nat.le_succ _
  exact I1.fpOk ge (I1.hok.fresh ge)
theorem comp_vals {a : Addr} {o : Obj} {kvs : List (Key × V)} {ix : List (Option Nat)} {g : TG} {tt : TT} {te : TE} {QD : Hp → Prop} {σ : St} {H1 : Hp} {D : Addr} (Pv : Nat → List V → St → Hp → Prop) (h0 : Pv 0 [] (blkSt σ ix) (upd H1 D (.lst [])))
    (hl : ∀ i ys τ H, Pv i ys τ H → H a = some (.frz o (.dK kvs)))
    (hs : ∀ i k v ys τ H, kvs[i]? = some (k, v) → Pv i ys τ H → g v τ H fun τ' H4 => tt τ' H4 fun b H5 => if b = true then te τ' H5 fun v H6 => H6 D = some (.lst ys) ∧ ys.length < sizeLine ∧ Pv (i + 1) (ys ++ [v]) τ' (upd H6 D (.lst (ys ++ [v]))) else Pv (i + 1) ys τ' H5)
    (hd : ∀ ys τ H, Pv kvs.length ys τ H → QD H) :
    ∃ W : Nat → Nat → List V → St → Hp → Prop, (∃ m, W 0 m [] (blkSt σ ix) (upd H1 D (.lst []))) ∧ ∀ i m ys τ H2, W i m ys τ H2 →
      ((Itv a o kvs).stop i H2 ∧ QD H2) ∨ ((Itv a o kvs).go i H2 ∧ ∃ N : List V → St → Hp → Prop, (∀ ys' τ' H', N ys' τ' H' → ∃ m', m' < m ∧ W (i + 1) m' ys' τ' H') ∧ ∀ x H3, (Itv a o kvs).yld i H2 x H3 → g x τ H3 fun τ' H4 => tt τ' H4 fun b H5 =>
        if b = true then te τ' H5 fun v H6 => H6 D = some (.lst ys) ∧ ys.length < sizeLine ∧ N (ys ++ [v]) τ' (upd H6 D (.lst (ys ++ [v])))
        else N ys τ' H5) := by
  refine ⟨fun i m ys τ H => m = kvs.length - i ∧ i ≤ kvs.length ∧ Pv i ys τ H, ⟨kvs.length, by simp, Nat.zero_le _, h0⟩, ?_⟩
  rintro i m ys τ H ⟨rfl, hi, p⟩
  by_cases hlt : i < kvs.length
  · refine .inr ⟨⟨hl i ys τ H p, hlt⟩, Pv (i + 1), fun ys' τ' H' p' => ⟨_, ?_, rfl, hlt, p'⟩, fun x H' y => ?_⟩
    · show kvs.length - (i + 1) < kvs.length - i
      omega
    · obtain ⟨rfl, k, ek⟩ := y
      exact hs i k x ys τ H' ek p
  · have e : i = kvs.length := by omega
    subst e
    exact .inl ⟨⟨hl _ ys τ H p, Nat.le_refl _⟩, hd ys τ H p⟩
theorem call_dictL (hc : X.calm = true) : CallR X (.type "dict") (fun xs H Q => ∃ (l : Addr) (ts : List Addr) (kvs : List (Key × V)), xs = [.ref l] ∧ H l = some (.lst (ts.map V.ref)) ∧ ts.length = kvs.length ∧ (kvs.map (·.1)).Nodup ∧
    (∀ (j : Nat) (t : Addr) (k : Key) (v : V), ts[j]? = some t → kvs[j]? = some (k, v) → H t = some (.tup [kV k, v])) ∧ ∀ p, H p = none → Q (.ref p) (upd H p (.dK kvs))) := by
  intro pins s σ H xs us Q I rv h
  obtain ⟨l, ts, kvs, rfl, el, len, nd, tu, q⟩ := h
  obtain ⟨u, rfl, ru⟩ := rv.one
  cases ru
  obtain ⟨z, its, n, rel, hl⟩ : ObjOk X.prog X.w H s.heap l (.lst (ts.map V.ref)) := I.hok l _ el
  have hi := valsRefs ts rel
  subst hi
  obtain ⟨vs, kv, vt⟩ := pairs_of I len tu
  have kl := kv.length
  have z' : vs.length ≤ sizeLine := by rw [List.length_map] at z; omega
  have nd' : (vs.map (·.1)).Nodup := by rw [← kv_keys kv]; exact nd
  refine RV.dict_lst (knd := mixKind X.prog X.w) (l := l) (ys := (ts.map Value.ref).toArray) (vs := vs) (I.ok.hd hc) hl ⟨by simp; omega, fun j k v e => ?_⟩ nd' z' fun k tk ko kd => ?_
  · have jl : j < ts.length := by have := (List.getElem?_eq_some_iff.mp e).1; omega
    obtain ⟨key, n, o, h1, h2⟩ := vt j ts[j] k v (List.getElem?_eq_getElem jl) e
    exact ⟨ts[j], key, n, by simp [jl], h1, o, h2⟩
  · exact ⟨.ref s.heap.objs.size, _, I.laid (t' := tk) ko (Nat.le_refl _) (dk_new (by omega) (beq_eq_false_iff_ne.mpr (Ne.symm (Nat.ne_of_lt I.big))) kv kd), rfl, q _ (I.hok.fresh (Nat.le_refl _))⟩
end
end L2
set_option Elab.async false
set_option linter.all false
set_option maxRecDepth 100000
set_option maxHeartbeats 4000000
local macro_rules | `(tactic| walk_at "lc") => `(tactic| first | exact Or.inl rfl | exact Or.inr rfl)
local macro_rules | `(tactic| walk_at "nm") => `(tactic| first | assumption | exact List.not_mem_nil | (refine L2.nm1 ?_; walk_at "ne") | (refine L2.nm2 ?_ ?_ <;> walk_at "ne") | (refine L2.nm3 ?_ ?_ ?_ <;> walk_at "ne"))
local macro_rules | `(tactic| walk_at "lk") => `(tactic| first | assumption | exact L2.upd_same | (refine (L2.upd_ne ?_).trans ?_; walk_at "ne"; walk_at "lk") | (refine L2.Kp.look (by assumption) ?_ ?_; walk_at "lk"; walk_at "nm"))
local macro_rules | `(tactic| walk_at "ne") => `(tactic| first | assumption | (refine Ne.symm ?_; assumption) | (refine L2.ne_fre (by assumption) ?_; walk_at "lk") | (refine Ne.symm (L2.ne_fre (by assumption) ?_); walk_at "lk"))
local macro_rules | `(tactic| walk_at "bd") => `(tactic| first | decide | omega | (dsimp only; first | decide | omega))
local macro_rules | `(tactic| walk_at "ml") => `(tactic| first | exact Or.inr ⟨by decide, by decide⟩ | exact Or.inl ⟨by omega, by omega⟩ | exact Or.inr ⟨by omega, by omega⟩)
local macro_rules | `(tactic| walk_at "ln") => `(tactic| first | decide | (have hsz := PySem.sizeLine_eq; simp only [List.length_cons, List.length_nil, List.length_map, List.length_append] at *; omega))
local macro_rules | `(tactic| walk_at "ix") => `(tactic| first | rfl | assumption | (refine L2.atI_natc ?_; assumption))
local macro_rules | `(tactic| walk_at "vs") => `(tactic| first | exact Or.inl rfl | exact Or.inr (Or.inl rfl) | exact Or.inr (Or.inr rfl))
local macro_rules | `(tactic| walk_at "vk") => `(tactic| first | exact Or.inl rfl | exact Or.inr rfl)
local macro_rules | `(tactic| walk_at "vf") => `(tactic| first | decide +kernel | (simp only [List.mem_cons]; decide))
namespace My
open PySem L2
def top (i : Nat) : Stmt := PySem.Challenge.pw_levelbench_k75_whole_windows_moved.main.body.getD i (.Pass ⟨0, 0, 0, 0⟩)
structure Txt (K : PySem.W.Frag) (mg : Str → Option Value) : Prop where
  z_len : mg "len" = none
  z_max : mg "max" = none
  z_range : mg "range" = none
  z_int : mg "int" = none
  z_list : mg "list" = none
  z_min : mg "min" = none
  z_dict : mg "dict" = none
  z_enumerate : mg "enumerate" = none
  z_bool : mg "bool" = none
  z_sum : mg "sum" = none
  z_sorted : mg "sorted" = none
  z_str : mg "str" = none
  z_all : mg "all" = none
  z_tuple : mg "tuple" = none
  z_isinstance : mg "isinstance" = none
  c_LONGEST_NAME : ∃ t, mg "LONGEST_NAME" = some (.int 8 t)
  c_MOST_WINDOWS : ∃ t, mg "MOST_WINDOWS" = some (.int 20 t)
section
variable {P : Program} {w : World} {K : PySem.W.Frag} {mg : Str → Option Value} {base : Heap}
def Purse (H : Hp) (p : Addr) : Prop := ∃ a b : Int, H p = some (.lst [.int a, .int b]) ∧ 0 ≤ a ∧ 0 ≤ b ∧ b < 2147483629
theorem Purse.kp {M : List Addr} {H H' : Hp} {p : Addr} (h : Purse H p) (k : Kp M H H') (n : p ∉ M) : Purse H' p := by
  obtain ⟨a, b, e, r⟩ := h
  exact ⟨a, b, k p _ e n, r⟩
def spTake : Sp := fun vs H Q _ => ∃ (p : Addr) (m : Int), vs = [.ref p, .int m] ∧ Purse H p ∧ 1 ≤ m ∧ m < 10 ^ 100 ∧ ∀ (d : Int) (H' : Hp), 0 ≤ d → d < m → Purse H' p → Kp [p] H H' → Q (.int d) H'
abbrev s_take : Stmt := top 20
theorem sc_take : FnScope ["_law_purse_here", "_law_many", "_law_digit"] ["_law_purse_here", "_law_many"] (defScope s_take) := ⟨rfl, rfl, rfl, by decide +kernel, rfl, by decide +kernel, by decide +kernel⟩
theorem ok_take {f : Addr} {fd : FuncData} (F : Fun K "_law_take" "_law_take" s_take f fd) : FnOk P w K mg base CX0 1 f fd ["_law_purse_here", "_law_many"] spTake := by
  refine F.ok sc_take (fun vs H Q E h => ?_) (fun cdv A outer s H vs Q E hr h => ?_)
  · obtain ⟨p, m, rfl, _⟩ := h
    rfl
  · obtain ⟨p, m, rfl, ⟨a, b, hp, ha, hb, hb'⟩, hm, hm', k⟩ := h
    refine ⟨_, (pss_cons (ps_if (pt_cmpR op_gt (pe_ix ix_list (pv 0) pe_int (fun _ _ => rfl)) pe_int (nomark _))
        (pss_cons (ps_set (i := 2) sc_take.nd rfl (by walk_at "lc") (pe_op op_mod (pe_ix ix_list (pv 0) pe_int (fun _ _ => rfl)) (pv 1)))
        (pss_cons (ps_asg (pe_op op_fdivB (pe_ix ix_list (pv 0) pe_int (fun _ _ => rfl)) (pv 1)) (pg_sub (pv 0) pe_int set_list))
        (pss_one (ps_ret (pv 2)))))
        pss_nil)
      (pss_cons (ps_asg (pe_op op_mod (pe_op op_add (pe_op op_mul (pe_ix ix_list (pv 0) pe_int (fun _ _ => rfl)) pe_int) pe_int) pe_int) (pg_sub (pv 0) pe_int set_list))
      (pss_one (ps_ret (pe_op op_mod (pe_op op_fdiv (pe_op op_mod (pe_op op_mul (pe_ix ix_list (pv 0) pe_int (fun _ _ => rfl)) (pe_ix ix_list (pv 0) pe_int (fun _ _ => rfl))) pe_int) pe_int) (pv 1)))))), ?_⟩
    refine ⟨_, rfl, _, _, _, _, rfl, rfl, SqL.of (by walk_at "lk"), (by walk_at "ix"), _, _, rfl, rfl, _, rfl, ?_⟩
    refine ite2 (fun c => ?_) (fun c => ?_)
    · have c' : 0 < a := by simpa using c
      refine ⟨_, rfl, _, _, _, _, rfl, rfl, SqL.of (by walk_at "lk"), (by walk_at "ix"), _, rfl, _, _, rfl, rfl, (by walk_at "bd"), ?_⟩
      refine ⟨_, rfl, _, _, _, _, rfl, rfl, SqL.of (by walk_at "lk"), (by walk_at "ix"), _, rfl, _, _, rfl, rfl, ⟨by walk_at "bd", hm'⟩, _, rfl, _, _, _, _, rfl, rfl, (by walk_at "lk"), (by walk_at "ix"), ?_⟩
      refine ⟨_, rfl, ?_⟩
      refine k _ _ (Int.emod_nonneg _ (by omega)) (Int.emod_lt_of_pos _ (by omega)) ⟨a / m, b, upd_same, Int.ediv_nonneg ha (by omega), hb, hb'⟩ (Kp.put Kp.refl (by simp))
    · refine ⟨_, rfl, _, _, _, _, rfl, rfl, SqL.of (by walk_at "lk"), (by walk_at "ix"), _, _, rfl, rfl, (by walk_at "ml"), _, _, rfl, rfl, _, _, rfl, rfl, (by walk_at "bd"), _, rfl, _, _, _, _, rfl, rfl, (by walk_at "lk"), (by walk_at "ix"), ?_⟩
      have h1 := Int.emod_nonneg (b * 39373 + 7919) (show (2147483629 : Int) ≠ 0 by decide)
      have h2 := Int.emod_lt_of_pos (b * 39373 + 7919) (show (0 : Int) < 2147483629 by decide)
      refine ⟨_, rfl, _, _, _, _, rfl, rfl, SqL.of (by walk_at "lk"), (by walk_at "ix"), _, rfl, _, _, _, _, rfl, rfl, SqL.of (by walk_at "lk"), (by walk_at "ix"), _, _, rfl, rfl, (by walk_at "ml"), _, _, rfl, rfl, (by walk_at "bd"), _, _, rfl, rfl, ⟨by walk_at "bd", by walk_at "bd"⟩, _, rfl, _, _, rfl, rfl, (by walk_at "bd"), ?_⟩
      refine k _ _ (Int.emod_nonneg _ (by omega)) (Int.emod_lt_of_pos _ (by omega)) ⟨a, _, upd_same, ha, h1, h2⟩ (Kp.put Kp.refl (by simp))
def spPurse : Sp := fun vs H Q _ => ∃ (c k : Int), vs = [.int c, .int k] ∧ -(2 ^ 31) < k ∧ k < 2 ^ 31 ∧ ∀ (p : Addr) (H' : Hp), Fre H p → Purse H' p → Kp [] H H' → Q (.ref p) H'
abbrev s_purse : Stmt := top 19
theorem sc_purse : FnScope ["_law_cell_here", "_law_k", "_law_number"] ["_law_cell_here", "_law_k"] (defScope s_purse) := ⟨rfl, rfl, rfl, by decide +kernel, rfl, by decide +kernel, by decide +kernel⟩
theorem ok_purse {f : Addr} {fd : FuncData} (F : Fun K "_law_purse" "_law_purse" s_purse f fd) (T : Txt K mg) : FnOk P w K mg base CX0 1 f fd ["_law_cell_here", "_law_k"] spPurse := by
  refine F.ok sc_purse (fun vs H Q E h => ?_) (fun cdv A outer s H vs Q E hr h => ?_)
  · obtain ⟨p, m, rfl, _⟩ := h
    rfl
  · obtain ⟨c, n, rfl, hn, hn', k⟩ := h
    refine ⟨_, (pss_cons (ps_set (i := 2) sc_purse.nd rfl (by walk_at "lc") (pe_op op_mod (pe_op op_add (pe_op op_add (pe_op op_mul (pe_op op_mod (pv 0) pe_int) pe_int) (pe_op op_mul (pe_op op_mul (pv 1) (pv 1)) pe_int)) pe_int) pe_int))
      (pss_one (ps_ret (pe_lst (pa_cons (pe_callB (call_max2 rfl) (by rfl) T.z_max bo_max (pa_cons pe_int (pa_cons (pe_op op_sub (pv 0) (pe_op op_pow pe_int pe_int)) pa_nil))) (pa_cons (pe_op op_mod (pe_op op_mul (pv 2) (pv 2)) pe_int) pa_nil)))))), ?_⟩
    refine ⟨_, rfl, _, _, rfl, rfl, (by walk_at "bd"), _, _, rfl, rfl, (by walk_at "ml"), _, rfl, _, rfl, _, _, rfl, rfl, (by walk_at "ml"), _, _, rfl, rfl, (by walk_at "ml"), _, _, rfl, rfl, _, _, rfl, rfl, _, _, rfl, rfl, (by walk_at "bd"), ?_⟩
    generalize c % 2147483629 * 48271 + n * n * 69623 + 11 = y
    have h1 := Int.emod_nonneg y (show (2147483647 : Int) ≠ 0 by decide)
    have h2 := Int.emod_lt_of_pos y (show (0 : Int) < 2147483647 by decide)
    refine ⟨_, rfl, _, _, rfl, rfl, ⟨by decide, by decide, by decide⟩, _, _, rfl, rfl, _, _, rfl, _, rfl, _, rfl, _, _, rfl, rfl, (by walk_at "ml"), _, _, rfl, rfl, (by walk_at "bd"), (by walk_at "ln"), fun p hp => ?_⟩
    refine k p _ hp ⟨_, _, upd_same, ?_, Int.emod_nonneg _ (by decide), Int.emod_lt_of_pos _ (by decide)⟩ (Kp.new Kp.refl hp)
    split <;> omega
def spCell (K : PySem.W.Frag) : Sp := fun vs H Q _ => ∃ (a : Addr) (ns : List Int) (k : Int), vs = [.ref a, .int k] ∧ SqL K H a (ns.map V.int) ∧ 0 ≤ k ∧ ∀ c : Int, Q (.int c) H
abbrev s_cell : Stmt := top 22
theorem sc_cell : FnScope ["_law_script", "_law_k"] ["_law_script", "_law_k"] (defScope s_cell) := ⟨rfl, rfl, rfl, by decide +kernel, rfl, by decide +kernel, by decide +kernel⟩
theorem ok_cell {f : Addr} {fd : FuncData} (F : Fun K "_law_cell" "_law_cell" s_cell f fd) (T : Txt K mg) : FnOk P w K mg base CX0 1 f fd ["_law_script", "_law_k"] (spCell K) := by
  refine F.ok sc_cell (fun vs H Q E h => ?_) (fun cdv A outer s H vs Q E hr h => ?_)
  · obtain ⟨p, m, n, rfl, _⟩ := h
    rfl
  · obtain ⟨a, ns, n, rfl, hS, hn, k⟩ := h
    refine ⟨_, (pss_one (ps_ret (pe_ifExp (pt_cmpR op_lt (pv 1) (pe_callB call_len_seq (by rfl) T.z_len bo_len (pa_cons (pv 0) pa_nil)) (nomark _)) (pe_ix ix_list (pv 0) (pv 1) (fun _ _ => rfl)) pe_int))), ?_⟩
    refine ⟨_, rfl, _, rfl, _, _, rfl, .inl hS, _, _, rfl, rfl, _, rfl, ?_⟩
    refine ite2 (fun c => ?_) (fun c => ?_)
    · have c' : n < ns.length := by simpa using c
      have hx : (ns.map V.int)[n.toNat]? = some (V.int (ns[n.toNat]'(by omega))) := by simp
      refine ⟨_, rfl, _, rfl, _, _, _, _, rfl, rfl, hS, atI_at hn hx, k _⟩
    · exact k _
end
end My
set_option Elab.async false
set_option linter.all false
set_option maxRecDepth 100000
set_option maxHeartbeats 4000000
namespace My
open PySem L2
def NameS (s : Str) : Prop := 1 ≤ s.length ∧ s.length ≤ 8 ∧ ∀ c ∈ s.cps.toList, 97 ≤ c ∧ c ≤ 122
def WordS (n : Nat) (s : Str) : Prop := s.length = n ∧ ∀ c ∈ s.cps.toList, 97 ≤ c ∧ c ≤ 122
theorem len_app (a b : Str) : (a ++ b).length = a.length + b.length := by
  show (a ++ b).cps.size = _
  rw [Str.cps_append, Array.size_append]; rfl
theorem WordS.more {n : Nat} {s : Str} (h : WordS n s) {c : Nat} (h1 : 97 ≤ c) (h2 : c ≤ 122) : WordS (n + 1) (s ++ ⟨#[c]⟩) := by
  refine ⟨by rw [len_app, h.1]; rfl, fun x hx => ?_⟩
  rw [Str.cps_append, Array.toList_append] at hx
  rcases List.mem_append.mp hx with z | z
  · exact h.2 x z
  · have : x = c := by simpa using z
    omega
def letters : Str := "abcdefghijklmnopqrstuvwxyz"
theorem letters_list : letters.cps.toList = (List.range 26).map (97 + ·) := by decide +kernel
theorem letters_at {d : Int} (h0 : 0 ≤ d) (h1 : d < 26) : atI letters.cps.toList d = some (97 + d.toNat) := by
  refine atI_at h0 ?_
  have : d.toNat < 26 := by omega
  rw [letters_list, List.getElem?_map, List.getElem?_range this]
  rfl
theorem one_sign_le (a c : Nat) : (!(decide (([c] : List Nat) < [a]))) = decide (a ≤ c) := by
  have : (([c] : List Nat) < [a]) ↔ c < a := by
    constructor
    · intro h
      cases h with
      | rel h => exact h
      | cons h => cases h
    · intro h
      exact List.Lex.rel h
  by_cases h : c < a
  · rw [decide_eq_true (this.mpr h), decide_eq_false (by omega)]; rfl
  · rw [decide_eq_false (fun z => h (this.mp z)), decide_eq_true (by omega)]; rfl
section
variable {P : Program} {w : World} {K : PySem.W.Frag} {mg : Str → Option Value} {base : Heap}
def nameB (s : Str) : Bool := decide (1 ≤ s.length) && decide (s.length ≤ 8) && s.cps.toList.all fun c => decide (97 ≤ c) && decide (c ≤ 122)
theorem nameB_iff (s : Str) : nameB s = true ↔ NameS s := by
  unfold nameB NameS
  simp only [Bool.and_eq_true, decide_eq_true_eq, List.all_eq_true]
  exact ⟨fun ⟨⟨a, b⟩, c⟩ => ⟨a, b, c⟩, fun ⟨a, b, c⟩ => ⟨⟨a, b⟩, c⟩⟩
def spIsName : Sp := fun vs H Q _ => ∃ (x : Str), vs = [.str x] ∧ x.length ≤ 1000000 ∧ ∀ H', Kp [] H H' → Q (.bl (nameB x)) H'
abbrev s_is_name : Stmt := top 8
theorem sc_is_name : FnScope ["thing"] ["thing"] (defScope s_is_name) := ⟨rfl, rfl, rfl, by decide +kernel, rfl, by decide +kernel, by decide +kernel⟩
theorem ok_is_name {f : Addr} {fd : FuncData} (F : Fun K "is_name" "is_name" s_is_name f fd) (T : Txt K mg) : FnOk P w K mg base CX0 1 f fd ["thing"] spIsName := by
  refine F.ok sc_is_name (fun vs H Q E h => ?_) (fun cdv A outer s H vs Q E hr h => ?_)
  · obtain ⟨x, rfl, _⟩ := h
    rfl
  · obtain ⟨x, rfl, hx, k⟩ := h
    obtain ⟨tL, hL⟩ := T.c_LONGEST_NAME
    refine ⟨_, (pss_cons (ps_if (PW.pt (pw_or (pt_not (pt_val (pe_callB call_isT (by rfl) T.z_isinstance bo_isinstance (pa_cons (pv 0) (pa_cons (pe_bltn (by rfl) T.z_str bo_str (v := .ty "str") rfl) pa_nil))))) (pw_or1 (pt_not (pt_chain op_le op_le pe_int (pe_callB call_len_str (by rfl) T.z_len bo_len (pa_cons (pv 0) pa_nil)) (pe_glob rfl hL (v := .int 8) ⟨_, rfl⟩))))))
        (pss_one (ps_ret pe_bl))
        pss_nil)
      (pss_one (ps_ret (pe_callB (call_all _ rfl) (by rfl) T.z_all bo_all (pa_cons (pe_comp rfl (blk_mk (sc := defScope s_is_name) rfl (by decide +kernel)) (Draws.own (x := "sign") Draws.nil) (pi_str (pv 0)) (fun C s₀ H₀ ex => (pg_name (i := 0) (show List.Nodup (["sign"] : List Str) by decide +kernel) rfl (by walk_at "lc"))) (fun C s₀ H₀ ex => pts_nil) (fun C s₀ H₀ ex => (pe_chain op_le_str op_le_str pe_str (pv 0) pe_str))) pa_nil))))), ?_⟩
    refine ⟨_, rfl, _, _, _, _, rfl, TyOf.str x, kit_same, _, rfl, iteF ?_⟩
    refine ⟨_, rfl, _, rfl, ?_, _, _, rfl, rfl, _, rfl, ?_⟩
    · rw [sizeLine_eq]; omega
    refine ite2 (fun c => ?_) (fun c => ?_)
    · have c1 : 1 ≤ x.length := by
        have := of_decide_eq_true c
        omega
      refine ⟨_, _, rfl, rfl, _, rfl, ?_⟩
      refine ite2 (fun c => ?_) (fun c => ?_)
      · -- too long
        have c2 : ¬ (x.length ≤ 8) := fun z => by
          have : decide ((x.length : Int) ≤ 8) = true := decide_eq_true (by omega)
          rw [this] at c; cases c
        have e : nameB x = false := by
          unfold nameB
          rw [decide_eq_false c2]; simp
        rw [← e]; exact k H Kp.refl
      · have c2 : x.length ≤ 8 := by
          by_cases z : (x.length : Int) ≤ 8
          · omega
          · rw [decide_eq_false z] at c; exact absurd rfl c
        refine ⟨_, rfl, _, rfl, fun D hD => comp_str0 (z := x) (fun i ys τ H' => (∃ o0, τ = [o0]) ∧ ys = ((x.cps.toList.take i).map fun c => V.bl (decide (97 ≤ c) && decide (c ≤ 122))) ∧ H' = upd H D (.lst ys)) ⟨⟨_, rfl⟩, rfl, rfl⟩ ?_ ?_⟩
        · rintro i c ys τ H' hc ⟨⟨o0, rfl⟩, rfl, rfl⟩
          have ei : x.cps.toList.take (i + 1) = x.cps.toList.take i ++ [c] := by rw [List.take_succ, hc]; rfl
          have hi : i < x.cps.toList.length := (List.getElem?_eq_some_iff.mp hc).1
          have hlen : x.cps.toList.length = x.length := by simp [Str.length]
          have fin : ∀ b : Bool, b = (decide (97 ≤ c) && decide (c ≤ 122)) → (upd H D (.lst ((x.cps.toList.take i).map fun c => V.bl (decide (97 ≤ c) && decide (c ≤ 122))))) D = some (.lst ((x.cps.toList.take i).map fun c => V.bl (decide (97 ≤ c) && decide (c ≤ 122)))) ∧ ((x.cps.toList.take i).map fun c => V.bl (decide (97 ≤ c) && decide (c ≤ 122))).length < sizeLine ∧
              ((∃ o0, ([some (V.str ⟨#[c]⟩)] : St) = [o0]) ∧ ((x.cps.toList.take i).map fun c => V.bl (decide (97 ≤ c) && decide (c ≤ 122))) ++ [V.bl b] = ((x.cps.toList.take (i + 1)).map fun c => V.bl (decide (97 ≤ c) && decide (c ≤ 122))) ∧
              upd (upd H D (.lst ((x.cps.toList.take i).map fun c => V.bl (decide (97 ≤ c) && decide (c ≤ 122))))) D (.lst (((x.cps.toList.take i).map fun c => V.bl (decide (97 ≤ c) && decide (c ≤ 122))) ++ [V.bl b])) = upd H D (.lst (((x.cps.toList.take i).map fun c => V.bl (decide (97 ≤ c) && decide (c ≤ 122))) ++ [V.bl b]))) := fun b hb => by
            refine ⟨upd_same, ?_, ⟨_, rfl⟩, ?_, upd_upd⟩
            · rw [List.length_map, List.length_take, sizeLine_eq]; omega
            · rw [ei, List.map_append, hb]; rfl
          refine ⟨_, rfl, _, _, rfl, rfl, _, rfl, ?_⟩
          refine ite2 (fun c1 => ?_) (fun c1 => ?_)
          · refine ⟨_, _, rfl, rfl, fin _ ?_⟩
            have c1 : (!(decide (([c] : List Nat) < [97]))) = true := c1
            rw [one_sign_le] at c1
            show (!(decide (([122] : List Nat) < [c]))) = _
            rw [one_sign_le, c1]; rfl
          · refine fin _ ?_
            have c1 : ¬ (!(decide (([c] : List Nat) < [97]))) = true := c1
            rw [one_sign_le] at c1
            rw [Bool.not_eq_true] at c1
            rw [c1]; rfl
        · rintro ys τ H' ⟨⟨o0, rfl⟩, rfl, rfl⟩
          have hlen : x.cps.toList.take x.length = x.cps.toList := List.take_of_length_le (by simp [Str.length])
          refine ⟨D, x.cps.toList.map (fun c => decide (97 ≤ c) && decide (c ≤ 122)), rfl, SqL.of ?_, ?_⟩
          · rw [upd_same, hlen, List.map_map]; rfl
          · have e : ((x.cps.toList.map (fun c => decide (97 ≤ c) && decide (c ≤ 122))).all id) = nameB x := by
              unfold nameB
              rw [decide_eq_true c1, decide_eq_true c2, List.all_map]; rfl
            rw [e]
            exact k _ (Kp.new Kp.refl hD)
    · -- empty
      have c1 : ¬ (1 ≤ x.length) := fun z => c (decide_eq_true (by omega))
      refine ⟨_, rfl, ?_⟩
      refine iteT ?_
      have e : nameB x = false := by
        unfold nameB
        rw [decide_eq_false c1]; simp
      rw [← e]; exact k H Kp.refl
end
end My
set_option Elab.async false
set_option linter.all false
set_option maxRecDepth 100000
set_option maxHeartbeats 4000000
namespace My
open PySem L2
abbrev Txs (H : Hp) (l : Addr) (ns : List Str) : Prop := H l = some (.lst (ns.map V.str))
theorem inV_str (x : Str) (ns : List Str) : inV (.str x) (ns.map V.str) = decide (x ∈ ns) := by
  unfold inV
  induction ns with
  | nil => rfl
  | cons n r ih =>
    rw [List.map_cons, List.any_cons, ih]
    show ((n == x) || _) = _
    by_cases e : n = x
    · subst e; simp
    · have e' : ¬ x = n := fun z => e z.symm
      rw [beq_eq_false_iff_ne.mpr e]
      simp [e']
theorem flat_strs (ns : List Str) : (ns.map V.str).all flatV = true := by simp [flatV]
theorem take_snoc {α : Type} {xs : List α} {i : Nat} {x : α} (h : xs[i]? = some x) : xs.take (i + 1) = xs.take i ++ [x] := by rw [List.take_succ, h]; rfl
theorem str_at {ns : List Str} {i : Nat} {v : V} (h : (ns.map V.str)[i]? = some v) : ∃ n, ns[i]? = some n ∧ v = .str n := by
  rw [List.getElem?_map] at h
  obtain ⟨n, e, r⟩ := Option.map_eq_some_iff.mp h
  exact ⟨n, e, r.symm⟩
theorem sub_len : ∀ {A B : List Str}, A.Nodup → (∀ x ∈ A, x ∈ B) → A.length ≤ B.length
  | [], B, _, _ => Nat.zero_le _
  | a :: A, B, h, hs => by
    obtain ⟨h1, h2⟩ := List.nodup_cons.mp h
    have hb := hs a List.mem_cons_self
    have := sub_len (B := B.erase a) h2 fun x hx => (List.mem_erase_of_ne fun e => h1 (by rw [← e]; exact hx)).mpr (hs x (List.mem_cons_of_mem _ hx))
    rw [List.length_erase_of_mem hb] at this
    have := List.length_pos_of_mem hb
    rw [List.length_cons]; omega
theorem filt_yes {α : Type} {p : α → Bool} {xs : List α} {i : Nat} {x : α} (e : xs[i]? = some x) (h : p x = true) : (xs.take (i + 1)).filter p = (xs.take i).filter p ++ [x] := by
  rw [take_snoc e, List.filter_append, List.filter_cons, if_pos h]; rfl
theorem filt_no {α : Type} {p : α → Bool} {xs : List α} {i : Nat} {x : α} (e : xs[i]? = some x) (h : ¬ p x = true) : (xs.take (i + 1)).filter p = (xs.take i).filter p := by
  rw [take_snoc e, List.filter_append, List.filter_cons, if_neg h]; simp
theorem filt_len {α : Type} {p : α → Bool} {xs : List α} {i : Nat} (h : xs.length ≤ 4096) : (((xs.take i).filter p)).length < sizeLine := by
  have h1 := List.length_filter_le p (xs.take i)
  rw [List.length_take] at h1
  rw [sizeLine_eq]; omega
def singles : List Str := letters.cps.toList.map fun c => ⟨#[c]⟩
theorem singles_len : singles.length = 26 := by
  unfold singles
  rw [letters_list]; simp
theorem singles_nd : singles.Nodup := by decide +kernel
theorem single_ok {x : Str} (h : x ∈ singles) : NameS x := by
  unfold singles at h
  rw [letters_list] at h
  obtain ⟨c, hc, rfl⟩ := List.mem_map.mp h
  obtain ⟨i, hi, rfl⟩ := List.mem_map.mp hc
  have := List.mem_range.mp hi
  refine ⟨Nat.le_refl 1, by show 1 ≤ 8; decide, fun d hd => ?_⟩
  have : d = 97 + i := by simpa using hd
  omega
theorem some_single {found : List Str} (h : found.length ≤ 20) : (singles.filter fun x => decide (x ∉ found)) ≠ [] := fun z => by
  have : singles.length ≤ found.length := sub_len singles_nd fun x hx => by
    apply Classical.byContradiction
    intro y
    have : x ∈ singles.filter fun x => decide (x ∉ found) := List.mem_filter.mpr ⟨hx, decide_eq_true y⟩
    rw [z] at this; exact nomatch this
  rw [singles_len] at this
  omega
section
variable {P : Program} {w : World} {K : PySem.W.Frag} {mg : Str → Option Value} {base : Heap}
def spLNames : Sp := fun vs H Q _ => ∃ (p : Addr) (m : Int), vs = [.ref p, .int m] ∧ Purse H p ∧ 0 ≤ m ∧ m ≤ 20 ∧ ∀ (l : Addr) (ns : List Str) (H' : Hp), Fre H l → Txs H' l ns → ns.length = m.toNat → ns.Nodup → (∀ n ∈ ns, NameS n) → Purse H' p → Kp [p] H H' → Q (.ref l) H'
abbrev s_names : Stmt := top 21
theorem sc_names : FnScope ["_law_purse_here", "_law_many", "_law_letters", "_law_found", "_law_k", "_law_word", "_law_j"] ["_law_purse_here", "_law_many"] (defScope s_names) := ⟨rfl, rfl, rfl, by decide +kernel, rfl, by decide +kernel, by decide +kernel⟩
theorem ok_names {f : Addr} {fd : FuncData} (F : Fun K "_law_names" "_law_names" s_names f fd) (T : Txt K mg) (C_take : Cal P w K mg base "_law_take" 1 ["_law_purse_here", "_law_many"] spTake) : FnOk P w K mg base CX0 2 f fd ["_law_purse_here", "_law_many"] spLNames := by
  refine F.ok sc_names (fun vs H Q E h => ?_) (fun cdv A outer s H vs Q E hr h => ?_)
  · obtain ⟨p, m, rfl, _⟩ := h
    rfl
  · obtain ⟨p, m, rfl, hP, h0, h1, k⟩ := h
    have HR_take := hr
    refine ⟨_, (pss_cons (ps_set (i := 2) sc_names.nd rfl (by walk_at "lc") pe_str)
      (pss_cons (ps_set (i := 3) sc_names.nd rfl (by walk_at "lc") (pe_lst pa_nil))
      (pss_cons (ps_for PassesOwn.never rfl (pi_range1 rfl T.z_range (pa_cons (pv 1) pa_nil)) (pg_name (i := 4) sc_names.nd rfl (by walk_at "lc"))
        (pss_cons (ps_set (i := 5) sc_names.nd rfl (by walk_at "lc") pe_str)
        (pss_cons (ps_for PassesOwn.never rfl (pi_range1 rfl T.z_range (pa_cons (pe_op op_add pe_int (pe_op op_mul (pe_callC C_take HR_take rfl (pa_cons (pv 0) (pa_cons pe_int pa_nil))) (pe_callC C_take HR_take rfl (pa_cons (pv 0) (pa_cons pe_int pa_nil))))) pa_nil)) (pg_name (i := 6) sc_names.nd rfl (by walk_at "lc"))
          (pss_one (ps_set (i := 5) sc_names.nd rfl (by walk_at "lc") (pe_op op_add_str (pv 5) (pe_ix ix_str (pv 2) (pe_callC C_take HR_take rfl (pa_cons (pv 0) (pa_cons pe_int pa_nil))) (fun _ _ => rfl))))))
        (pss_cons (ps_if (pt_cmpR op_in_seq (pv 5) (pv 3) (by rfl))
          (pss_one (ps_set (i := 5) sc_names.nd rfl (by walk_at "lc") (pe_ix ix_list (pe_comp rfl (blk_mk (sc := defScope s_names) rfl (by decide +kernel)) (Draws.own (x := "_law_letter") (Draws.tk (i := 3) rfl (by walk_at "vs") (by walk_at "vk") (by walk_at "vf") Draws.nil)) (pi_str (pv 2)) (fun C s₀ H₀ ex => (pg_name (i := 0) (show List.Nodup (["_law_letter", "_law_found"] : List Str) by decide +kernel) rfl (by walk_at "lc"))) (fun C s₀ H₀ ex => (pts_one (pt_cmpR (op_notIn_seqK (K := K)) (pv 0) (pv 1) (by rfl)))) (fun C s₀ H₀ ex => (pv 0))) pe_int (fun _ _ => rfl))))
          pss_nil)
        (pss_one (ps_expr (pe_bm PySem.F.plainAttrs_list PySem.F.slot_list_append PySem.F.type_list_append mt_append (pv 3) (pa_cons (pv 5) pa_nil))))))))
      (pss_one (ps_ret (pv 3)))))), ?_⟩
    refine ⟨(by walk_at "ln"), fun l hl => ?_⟩
    have fl : Fre H l := hl
    have npl : p ≠ l := by obtain ⟨a, b, e, _⟩ := hP; exact ne_fre fl e
    have hP1 : Purse (upd H l (.lst [])) p := hP.kp (M := []) (Kp.new Kp.refl fl) (by simp)
    refine ⟨_, rfl, _, rfl, by omega, by omega, for_range (lo := 0) (n := m.toNat) (fun i σ H2 => ∃ (o4 o5 o6 : Option V) (ws : List Str), σ = [some (.ref p), some (.int m), some (.str letters), some (.ref l), o4, o5, o6] ∧ Purse H2 p ∧ Kp [p] H H2 ∧ Txs H2 l ws ∧ ws.length = i ∧ ws.Nodup ∧ ∀ s ∈ ws, NameS s)
      ⟨none, none, none, [], rfl, hP1, Kp.new Kp.refl fl, upd_same, rfl, List.nodup_nil, fun s h => nomatch h⟩ ?_ ?_⟩
    · rintro i σ H2 hi ⟨o4, o5, o6, ws, rfl, P2, K2, R2, e2, n2, q2⟩
      refine ⟨_, rfl, p, 2, rfl, P2, by decide, by decide, fun d1 H3 a0 a1 P3 K3 => ?_⟩
      refine ⟨_, rfl, p, 8, rfl, P3, by decide, by decide, fun d2 H4 b0 b1 P4 K4 => ?_⟩
      have hm0 : 0 ≤ d1 * d2 := Int.mul_nonneg a0 b0
      have hm1 : d1 * d2 ≤ 7 := by
        have : d1 * d2 ≤ 1 * 7 := Int.mul_le_mul (by omega) (by omega) b0 (by decide)
        omega
      have K24 : Kp [p] H2 H4 := K3.trans K4
      refine ⟨_, _, rfl, rfl, (by walk_at "ml"), _, _, rfl, rfl, _, rfl, by omega, by omega, for_range (lo := 0) (n := (1 + d1 * d2).toNat) (fun n σ H7 => ∃ (o4 o6 : Option V) (x : Str), σ = [some (.ref p), some (.int m), some (.str letters), some (.ref l), o4, some (.str x), o6] ∧ Purse H7 p ∧ Kp [p] H2 H7 ∧ WordS n x)
        ⟨_, _, _, rfl, P4, K24, rfl, (fun c h => absurd (show c ∈ ([] : List Nat) from h) (by simp))⟩ ?_ ?_⟩
      · rintro n σ H7 hn ⟨o4, o6, x, rfl, P8, K7, W⟩
        refine ⟨_, rfl, _, rfl, _, rfl, p, 26, rfl, P8, by decide, by decide, fun d4 H8 e0 e1 P9 K8 => ?_⟩
        refine ⟨_, _, _, rfl, rfl, by decide, letters_at e0 e1, _, _, rfl, rfl, ?_, ?_⟩
        · rw [W.1]
          show n + 1 ≤ sizeLine
          rw [sizeLine_eq]; omega
        · exact ⟨_, _, _, rfl, P9, K7.trans K8, W.more (by omega) (by omega)⟩
      · rintro σ H7 ⟨o4, o6, x, rfl, P8, K7, W⟩
        have h7 : Txs H7 l ws := K7 l _ R2 (nm1 npl.symm)
        have NX : NameS x := ⟨by have := W.1; omega, by have := W.1; omega, W.2⟩
        refine ⟨_, rfl, _, rfl, _, _, rfl, .inl (SqL.of h7), rfl, flat_strs ws, _, rfl, ?_⟩
        rw [if_neg (by decide), inV_str]
        refine if_mid (fun σ H8 => ∃ (y : Str), σ = [some (.ref p), some (.int m), some (.str letters), some (.ref l), o4, some (.str y), o6] ∧ Kp [] H7 H8 ∧ NameS y ∧ y ∉ ws) (fun N hN => ite2 (fun c => ?_) (fun c => ?_)) ?_
        · -- _law_word = [..][0]
          refine ⟨_, rfl, _, rfl, fun B hB => comp_str (z := letters) (fun i ys τ H8 => (∃ o0, τ = [o0, some (.ref l)]) ∧ ys = ((singles.take i).filter fun x => decide (x ∉ ws)).map V.str ∧ H8 = upd H7 B (.lst ys)) ⟨⟨_, rfl⟩, rfl, rfl⟩ ?_ ?_⟩
          · rintro i c ys τ H8 hc ⟨⟨o0, rfl⟩, rfl, rfl⟩
            have en : singles[i]? = some ⟨#[c]⟩ := by unfold singles; rw [List.getElem?_map, hc]; rfl
            refine ⟨_, rfl, _, rfl, _, _, rfl, .inl (SqL.of ((upd_ne (ne_fre (show Fre H7 B from hB) h7)).trans h7)), rfl, flat_strs ws, _, rfl, ?_⟩
            rw [if_pos rfl, inV_str]
            have ed : (!decide ((⟨#[c]⟩ : Str) ∈ ws)) = decide ((⟨#[c]⟩ : Str) ∉ ws) := by
              by_cases z : (⟨#[c]⟩ : Str) ∈ ws
              · simp [z]
              · simp [z]
            rw [ed]
            refine ite2 (fun c => ?_) (fun c => ?_)
            · refine ⟨_, rfl, upd_same, ?_, ⟨_, rfl⟩, ?_, upd_upd⟩
              · rw [List.length_map]; exact filt_len (by rw [singles_len]; decide)
              · rw [filt_yes (p := fun x => decide (x ∉ ws)) en c, List.map_append]; rfl
            · refine ⟨⟨_, rfl⟩, ?_, ?_⟩
              · rw [filt_no (p := fun x => decide (x ∉ ws)) en c]
              · rfl
          · rintro ys τ H8 ⟨_, rfl, rfl⟩
            have eT : singles.take letters.length = singles := List.take_of_length_le (by rw [singles_len]; decide)
            rw [eT]
            have hne := some_single (found := ws) (by omega)
            have hmm : ∀ y, y ∈ (singles.filter fun x => decide (x ∉ ws)) → NameS y ∧ y ∉ ws := fun y hy => by
              have := List.mem_filter.mp hy
              exact ⟨single_ok this.1, of_decide_eq_true this.2⟩
            generalize (singles.filter fun x => decide (x ∉ ws)) = L at hne hmm
            obtain ⟨y, r, rfl⟩ : ∃ y r, L = y :: r := by
              cases L with
              | nil => exact absurd rfl hne
              | cons y r => exact ⟨y, r, rfl⟩
            refine ⟨_, _, _, .str y, rfl, rfl, SqL.of upd_same, atI_at (by decide) rfl, ?_⟩
            exact hN _ _ ⟨y, rfl, Kp.new Kp.refl hB, (hmm y List.mem_cons_self).1, (hmm y List.mem_cons_self).2⟩
        · exact hN _ _ ⟨x, rfl, Kp.refl, NX, fun z => c (decide_eq_true z)⟩
        · rintro σ H8 ⟨y, rfl, K8, NY, ny⟩
          have h8 : Txs H8 l ws := K8 l _ h7 (by simp)
          refine ⟨_, rfl, .inl ⟨rfl, _, SqL.of h8⟩, _, rfl, _, _, _, rfl, rfl, h8, ?_, ?_⟩
          · rw [sizeLine_eq, List.length_map]; omega
          · refine ⟨_, _, _, ws ++ [y], rfl, (P8.kp K8 (by simp)).kp (M := [l]) (Kp.put Kp.refl (by simp)) (nm1 npl), Kp.new (K2.trans (K7.trans (K8.weak (by simp)))) fl, ?_, by simp [e2], ?_, fun s hs => ?_⟩
            · show upd H8 l _ l = some (.lst ((ws ++ [y]).map V.str))
              rw [upd_same, List.map_append]; rfl
            · refine List.nodup_append.mpr ⟨n2, by simp, fun a ha b hb => ?_⟩
              rw [List.mem_singleton.mp hb]
              rintro rfl
              exact ny ha
            · rcases List.mem_append.mp hs with z | z
              · exact q2 s z
              · rw [List.mem_singleton.mp z]; exact NY
    · rintro σ H2 ⟨o4, o5, o6, ws, rfl, P2, K2, R2, e2, n2, q2⟩
      exact ⟨_, rfl, k l ws H2 fl R2 e2 n2 q2 P2 K2⟩
end
end My
set_option Elab.async false
set_option linter.all false
set_option maxRecDepth 100000
set_option maxHeartbeats 4000000
namespace My
open PySem L2
theorem lt_big {n : Int} (h : n < 1000) : n < 10 ^ 100 := Int.lt_trans h (by decide +kernel)
theorem ifT {a b : Prop} (h : a) : (if true = true then a else b) := by rw [if_pos rfl]; exact h
theorem kp_drop {M : List Addr} {e : Addr} {H H1 H2 : Hp} (a : Kp M H H1) (f : Fre H e) (b : Kp [e] H1 H2) : Kp M H H2 := fun c o h n => b c o (a c o h n) (nm1 (ne_fre f h))
theorem bo_sorted : bootBuiltins "sorted" = some (.builtin "sorted") := by decide +kernel
theorem kit_ib {K : PySem.W.Frag} : PySem.W.kitOne K (.type "int") (.type "bool") = some false := by rfl
theorem thaw_kp {H H2 : Hp} {d : Addr} {kvs : List (Key × V)} (hd : H d = some (.dK kvs)) (k : Kp [d] H H2) : Kp [] H (upd H2 d (.dK kvs)) := fun c o h n => by
  by_cases e : c = d
  · subst e
    rw [hd] at h; cases h
    exact upd_same
  · rw [upd_ne e]; exact k c o h (nm1 e)
section
variable {P : Program} {w : World} {K : PySem.W.Frag} {mg : Str → Option Value} {base : Heap}
def spWhole : Sp := fun vs H Q _ => ∃ i : Int, vs = [.int i] ∧ Q (.bl true) H
abbrev s_is_whole : Stmt := top 7
theorem sc_is_whole : FnScope ["thing"] ["thing"] (defScope s_is_whole) := ⟨rfl, rfl, rfl, by decide +kernel, rfl, by decide +kernel, by decide +kernel⟩
theorem ok_is_whole {f : Addr} {fd : FuncData} (F : Fun K "is_whole" "is_whole" s_is_whole f fd) (T : Txt K mg) : FnOk P w K mg base CX0 1 f fd ["thing"] spWhole := by
  refine F.ok sc_is_whole (fun vs H Q E h => ?_) (fun cdv A outer s H vs Q E hr h => ?_)
  · obtain ⟨v, rfl, _⟩ := h
    rfl
  · obtain ⟨i, rfl, k⟩ := h
    refine ⟨_, (pss_one (ps_ret (pe_and (pe_callB call_isT (by rfl) T.z_isinstance bo_isinstance (pa_cons (pv 0) (pa_cons (pe_bltn (by rfl) T.z_int bo_int (v := .ty "int") rfl) pa_nil))) (pe_one (pe_not (pe_callB call_isT (by rfl) T.z_isinstance bo_isinstance (pa_cons (pv 0) (pa_cons (pe_bltn (by rfl) T.z_bool bo_bool (v := .ty "bool") rfl) pa_nil)))))))), ?_⟩
    refine ⟨_, rfl, _, _, _, _, rfl, TyOf.int i, kit_same, _, rfl, iteT ?_⟩
    exact ⟨_, rfl, _, _, _, _, rfl, TyOf.int i, kit_ib, _, rfl, k⟩
def spCheckB : Sp := fun vs H Q _ => ∃ i : Int, vs = [.int i] ∧ 1 ≤ i ∧ Q .non H
abbrev s_check_benches : Stmt := top 9
theorem sc_check_benches : FnScope ["benches"] ["benches"] (defScope s_check_benches) := ⟨rfl, rfl, rfl, by decide +kernel, rfl, by decide +kernel, by decide +kernel⟩
theorem ok_check_benches {f : Addr} {fd : FuncData} (F : Fun K "check_benches" "check_benches" s_check_benches f fd) (C_is_whole : Cal P w K mg base "is_whole" 1 ["thing"] spWhole) : FnOk P w K mg base CX0 2 f fd ["benches"] spCheckB := by
  refine F.ok sc_check_benches (fun vs H Q E h => ?_) (fun cdv A outer s H vs Q E hr h => ?_)
  · obtain ⟨v, rfl, _⟩ := h
    rfl
  · obtain ⟨i, rfl, hi, k⟩ := h
    have HR_is_whole := hr
    refine ⟨_, (pss_one (ps_if (PW.pt (pw_or (pt_not (pt_val (pe_callC C_is_whole HR_is_whole rfl (pa_cons (pv 0) pa_nil)))) (pw_or1 (pt_cmpR op_lt (pv 0) pe_int (nomark _)))))
        (pss_one ps_never)
        pss_nil)), ?_⟩
    refine ⟨_, rfl, i, rfl, _, rfl, iteF ?_⟩
    refine ⟨_, rfl, _, _, rfl, rfl, _, rfl, ?_⟩
    refine ite2 (fun c => ?_) (fun c => ?_)
    · have := of_decide_eq_true c
      omega
    · exact k
end
end My
set_option Elab.async false
set_option linter.all false
set_option maxRecDepth 100000
set_option maxHeartbeats 4000000
namespace My
open PySem L2
theorem kp_drop2 {H H1 H2 : Hp} {p d : Addr} (a : Kp [p] H H1) (f : Fre H d) (b : Kp [p, d] H1 H2) : Kp [p] H H2 := fun c o h n => b c o (a c o h n) (by
  have n1 : c ≠ p := fun e => n (by simp [e])
  have n2 := ne_fre f h
  simp [n1, n2])
theorem fre_back {H H' : Hp} {p d : Addr} (P : Purse H' p) (k : Kp [p] H H') (f : Fre H' d) : Fre H d := by
  cases z : H d with
  | none => exact z
  | some o =>
    by_cases c : d = p
    · subst c
      obtain ⟨x, y, e, _⟩ := P
      rw [show H' d = none from f] at e; cases e
    · have := k d o z (nm1 c)
      rw [show H' d = none from f] at this; cases this
theorem nd_map {α β : Type} {f : α → β} (hf : ∀ a b, f a = f b → a = b) : ∀ {l : List α}, l.Nodup → (l.map f).Nodup
  | [], _ => List.nodup_nil
  | x :: l, h => by
    obtain ⟨h1, h2⟩ := List.nodup_cons.mp h
    rw [List.map_cons]
    refine List.nodup_cons.mpr ⟨fun z => ?_, nd_map hf h2⟩
    obtain ⟨y, hy, e⟩ := List.mem_map.mp z
    exact h1 (by rw [← hf _ _ e]; exact hy)
section
variable {P : Program} {w : World} {K : PySem.W.Frag} {mg : Str → Option Value} {base : Heap}
def spLBenches : Sp := fun vs H Q _ => ∃ p : Addr, vs = [.ref p] ∧ Purse H p ∧ ∀ (b : Int) (H' : Hp), 1 ≤ b → b < 10 ^ 60 → Purse H' p → Kp [p] H H' → Q (.int b) H'
abbrev s_benches : Stmt := top 23
theorem sc_benches : FnScope ["_law_purse_here"] ["_law_purse_here"] (defScope s_benches) := ⟨rfl, rfl, rfl, by decide +kernel, rfl, by decide +kernel, by decide +kernel⟩
theorem ok_benches {f : Addr} {fd : FuncData} (F : Fun K "_law_benches" "_law_benches" s_benches f fd) (C_take : Cal P w K mg base "_law_take" 1 ["_law_purse_here", "_law_many"] spTake) : FnOk P w K mg base CX0 2 f fd ["_law_purse_here"] spLBenches := by
  refine F.ok sc_benches (fun vs H Q E h => ?_) (fun cdv A outer s H vs Q E hr h => ?_)
  · obtain ⟨p, rfl, _⟩ := h
    rfl
  · obtain ⟨p, rfl, hP, k⟩ := h
    have HR_take := hr
    refine ⟨_, (pss_cons (ps_if (pt_cmpR op_eq (pe_callC C_take HR_take rfl (pa_cons (pv 0) (pa_cons pe_int pa_nil))) pe_int (nomark _))
        (pss_one (ps_ret (pe_op op_add pe_int (pe_callC C_take HR_take rfl (pa_cons (pv 0) (pa_cons (pe_op op_sub (pe_op op_pow pe_int pe_int) pe_int) pa_nil))))))
        pss_nil)
      (pss_one (ps_ret (pe_op op_add pe_int (pe_callC C_take HR_take rfl (pa_cons (pv 0) (pa_cons pe_int pa_nil))))))), ?_⟩
    refine ⟨_, rfl, p, 8, rfl, hP, by decide, by decide, fun d1 H1 a0 a1 P1 K1 => ?_⟩
    refine ⟨rfl, _, rfl, ?_⟩
    have t1 : (10 : Int) < 10 ^ 60 := by decide +kernel
    refine ite2 (fun c => ?_) (fun c => ?_)
    · refine ⟨_, rfl, _, _, rfl, rfl, ⟨by decide, by decide, by decide⟩, _, _, rfl, rfl, p, _, rfl, P1, by decide +kernel, by decide +kernel, fun d2 H2 b0 b1 P2 K2 => ?_⟩
      have b1 : d2 < 10 ^ 60 - 1 := b1
      exact ⟨_, _, rfl, rfl, k _ H2 (by omega) (by omega) P2 (K1.trans K2)⟩
    · refine ⟨_, rfl, p, 4, rfl, P1, by decide, by decide, fun d2 H2 b0 b1 P2 K2 => ?_⟩
      exact ⟨_, _, rfl, rfl, k _ H2 (by omega) (by omega) P2 (K1.trans K2)⟩
theorem val_of {k : Key} {v : V} : ∀ {kvs : List (Key × V)}, (kvs.map (·.1)).Nodup → (k, v) ∈ kvs → valV kvs k = some v
  | y :: r, nd, h => by
    obtain ⟨n1, n2⟩ := List.nodup_cons.mp nd
    show ((y :: r).find? fun kv => decide (kv.1 = k)).map (·.2) = some v
    rw [List.find?_cons]
    rcases List.mem_cons.mp h with z | z
    · subst z; simp
    · have : y.1 ≠ k := fun e => n1 (List.mem_map.mpr ⟨_, z, e.symm⟩)
      rw [decide_eq_false this]
      exact val_of n2 z
end
end My
set_option Elab.async false
set_option linter.all false
set_option maxRecDepth 100000
set_option maxHeartbeats 4000000
namespace My
open PySem L2
abbrev Wn := Str × Addr × Int × Int
def kvW (rs : List Wn) : List (Key × V) := rs.map fun r => (Sum.inr r.1, V.ref r.2.1)
structure WinAt (H : Hp) (d : Addr) (rs : List Wn) : Prop where
  top : H d = some (.dK (kvW rs))
  row : ∀ r ∈ rs, H r.2.1 = some (.tup [.int r.2.2.1, .int r.2.2.2])
structure WinOk (B : Nat) (rs : List Wn) : Prop where
  nd : (rs.map (·.1)).Nodup
  nm : ∀ r ∈ rs, NameS r.1
  bs : ∀ r ∈ rs, r.2.2.1.natAbs < B
  be : ∀ r ∈ rs, r.2.2.2.natAbs < B
  len : rs.length ≤ 20
theorem WinOk.mono {B B' : Nat} {rs : List Wn} (h : WinOk B rs) (l : B ≤ B') : WinOk B' rs := ⟨h.nd, h.nm, fun r hr => Nat.lt_of_lt_of_le (h.bs r hr) l, fun r hr => Nat.lt_of_lt_of_le (h.be r hr) l, h.len⟩
theorem kvW_keys (rs : List Wn) : (kvW rs).map (·.1) = (rs.map (·.1)).map Sum.inr := by simp [kvW]
theorem kvW_len (rs : List Wn) : (kvW rs).length = rs.length := by simp [kvW]
theorem kvW_at {rs : List Wn} {i : Nat} {k : Key} {v : V} (h : (kvW rs)[i]? = some (k, v)) : ∃ r, rs[i]? = some r ∧ k = Sum.inr r.1 ∧ v = .ref r.2.1 := by
  unfold kvW at h
  rw [List.getElem?_map] at h
  obtain ⟨r, e, q⟩ := Option.map_eq_some_iff.mp h
  cases q
  exact ⟨r, e, rfl, rfl⟩
theorem valW {rs : List Wn} (nd : (rs.map (·.1)).Nodup) {r : Wn} (hr : r ∈ rs) : valV (kvW rs) (Sum.inr r.1) = some (.ref r.2.1) := by
  refine val_of ?_ (by unfold kvW; exact List.mem_map.mpr ⟨r, hr, rfl⟩)
  rw [kvW_keys]
  exact nd_map (fun a b e => Sum.inr.inj e) nd
theorem WinAt.kp {M : List Addr} {H H' : Hp} {d : Addr} {rs : List Wn} (h : WinAt H d rs) (k : Kp M H H') (n : d ∉ M) (n' : ∀ r ∈ rs, r.2.1 ∉ M) : WinAt H' d rs :=
  ⟨k d _ h.top n, fun r hr => k _ _ (h.row r hr) (n' r hr)⟩
theorem WinAt.kp0 {H H' : Hp} {d : Addr} {rs : List Wn} (h : WinAt H d rs) (k : Kp [] H H') : WinAt H' d rs := h.kp k (by simp) (fun _ _ => by simp)
structure WinFz (H : Hp) (d : Addr) (o : Obj) (rs : List Wn) : Prop where
  top : H d = some (.frz o (.dK (kvW rs)))
  row : ∀ r ∈ rs, H r.2.1 = some (.tup [.int r.2.2.1, .int r.2.2.2])
theorem WinAt.fz {H : Hp} {d : Addr} {rs : List Wn} (h : WinAt H d rs) (o : Obj) : WinFz (upd H d (.frz o (.dK (kvW rs)))) d o rs :=
  ⟨upd_same, fun r hr => by
    rw [upd_ne (fun e => by have := h.row r hr; rw [e, h.top] at this; cases this)]
    exact h.row r hr⟩
theorem WinFz.kp0 {H H' : Hp} {d : Addr} {o : Obj} {rs : List Wn} (h : WinFz H d o rs) (k : Kp [] H H') : WinFz H' d o rs :=
  ⟨k d _ h.top (by simp), fun r hr => k _ _ (h.row r hr) (by simp)⟩
theorem WinFz.get {H : Hp} {d : Addr} {o : Obj} {rs : List Wn} (h : WinFz H d o rs) (nd : (rs.map (·.1)).Nodup) {r : Wn} (hr : r ∈ rs) : DGet H d (.str r.1) (some (.ref r.2.1)) :=
  .inl ⟨kvW rs, Sum.inr r.1, .inr ⟨o, h.top⟩, rfl, (valW nd hr).symm⟩
theorem WinAt.get {H : Hp} {d : Addr} {rs : List Wn} (h : WinAt H d rs) (nd : (rs.map (·.1)).Nodup) {r : Wn} (hr : r ∈ rs) : DGet H d (.str r.1) (some (.ref r.2.1)) :=
  .inl ⟨kvW rs, Sum.inr r.1, .inl h.top, rfl, (valW nd hr).symm⟩
def mx (a : Int) : Int := if 0 > a then 0 else a
def inW (s e : Int) (q : Int × Int) : Bool := decide (s ≤ q.1) && decide (q.2 ≤ e)
def crowdP (b : Int) (ps : List (Int × Int)) : Bool := ps.any fun r => ps.any fun q => decide (((ps.filter (inW r.1 q.2)).length : Int) > b * mx (q.2 - r.1 + 1))
def rowW (rs : List Wn) (s e : Int) : List Wn := rs.filter fun r => inW s e r.2.2
def crowdB (b : Int) (rs : List Wn) : Bool := crowdP b (rs.map (·.2.2))
theorem rowW_len (rs : List Wn) (s e : Int) : (rowW rs s e).length = ((rs.map (·.2.2)).filter (inW s e)).length := by
  unfold rowW
  rw [List.filter_map, List.length_map]; rfl
section
variable {P : Program} {w : World} {K : PySem.W.Frag} {mg : Str → Option Value} {base : Heap}
def spIsWin : Sp := fun vs H Q _ => ∃ (a : Addr) (x y : Int), vs = [.ref a] ∧ H a = some (.tup [.int x, .int y]) ∧ ∀ H', Kp [] H H' → Q (.bl true) H'
abbrev s_is_window : Stmt := top 13
theorem sc_is_window : FnScope ["thing"] ["thing"] (defScope s_is_window) := ⟨rfl, rfl, rfl, by decide +kernel, rfl, by decide +kernel, by decide +kernel⟩
theorem ok_is_window {f : Addr} {fd : FuncData} (F : Fun K "is_window" "is_window" s_is_window f fd) (T : Txt K mg) (C_is_whole : Cal P w K mg base "is_whole" 1 ["thing"] spWhole) : FnOk P w K mg base CX0 2 f fd ["thing"] spIsWin := by
  refine F.ok sc_is_window (fun vs H Q E h => ?_) (fun cdv A outer s H vs Q E hr h => ?_)
  · obtain ⟨a, x, y, rfl, _⟩ := h
    rfl
  · obtain ⟨a, x, y, rfl, ha, k⟩ := h
    have HR_is_whole := hr
    refine ⟨_, (pss_one (ps_ret (pe_and (pe_callB call_isT (by rfl) T.z_isinstance bo_isinstance (pa_cons (pv 0) (pa_cons (pe_bltn (by rfl) T.z_tuple bo_tuple (v := .ty "tuple") rfl) pa_nil))) (pe_and (pe_cmpR op_eq (pe_callB call_len_seq (by rfl) T.z_len bo_len (pa_cons (pv 0) pa_nil)) pe_int (nomark _)) (pe_one (pe_callB (call_all _ rfl) (by rfl) T.z_all bo_all (pa_cons (pe_comp rfl (blk_mk (sc := defScope s_is_window) rfl (by decide +kernel)) (Draws.own (x := "part") Draws.nil) (pi_tup (pv 0)) (fun C s₀ H₀ ex => (pg_name (i := 0) (show List.Nodup (["part"] : List Str) by decide +kernel) rfl (by walk_at "lc"))) (fun C s₀ H₀ ex => pts_nil) (fun C s₀ H₀ ex => (pe_callC C_is_whole HR_is_whole rfl (pa_cons (pv 0) pa_nil)))) pa_nil))))))), ?_⟩
    refine ⟨_, rfl, _, _, _, _, rfl, TyOf.tup ha, kit_same, _, rfl, iteT ?_⟩
    refine ⟨_, rfl, _, _, rfl, .inr (SqT.of ha), rfl, _, rfl, iteT ?_⟩
    refine ⟨_, rfl, _, rfl, ⟨_, SqT.of ha⟩, fun D hD => comp_tup [.int x, .int y] (fun i ys τ H4 => (∃ o0, τ = [o0]) ∧ ys = List.replicate i (.bl true) ∧ H4 = upd H D (.lst ys)) ⟨⟨_, rfl⟩, rfl, rfl⟩ (fun i ys τ H4 ⟨_, _, z⟩ => by subst z; exact SqT.of ((Kp.new (M := []) Kp.refl hD) _ _ ha (by simp))) ?_ ?_⟩
    · rintro i v ys τ H4 hv ⟨⟨o0, rfl⟩, rfl, rfl⟩
      have hi : i < 2 := (List.getElem?_eq_some_iff.mp hv).1
      obtain ⟨z, rfl⟩ : ∃ z, v = .int z := by
        match i, hv with
        | 0, hv => cases hv; exact ⟨x, rfl⟩
        | 1, hv => cases hv; exact ⟨y, rfl⟩
        | n + 2, hv => simp at hv
      unfold gName tTrue
      refine ifT ⟨_, rfl, z, rfl, upd_same, by rw [List.length_replicate, sizeLine_eq]; omega, ⟨_, rfl⟩, by rw [List.replicate_succ'], upd_upd⟩
    · rintro ys τ H4 ⟨_, rfl, rfl⟩
      exact ⟨D, [true, true], rfl, SqL.of upd_same, k _ (Kp.new Kp.refl hD)⟩
def spCheckW : Sp := fun vs H Q _ => ∃ (d : Addr) (rs : List Wn) (B : Nat), vs = [.ref d] ∧ WinAt H d rs ∧ WinOk B rs ∧ ∀ H', Kp [] H H' → Q .non H'
abbrev s_check_windows : Stmt := top 12
theorem sc_check_windows : FnScope ["windows", "name", "window"] ["windows"] (defScope s_check_windows) := ⟨rfl, rfl, rfl, by decide +kernel, rfl, by decide +kernel, by decide +kernel⟩
theorem ok_check_windows {f : Addr} {fd : FuncData} (F : Fun K "check_windows" "check_windows" s_check_windows f fd) (T : Txt K mg) (C_is_name : Cal P w K mg base "is_name" 1 ["thing"] spIsName) (C_is_window : Cal P w K mg base "is_window" 2 ["thing"] spIsWin) : FnOk P w K mg base CX0 3 f fd ["windows"] spCheckW := by
  refine F.ok sc_check_windows (fun vs H Q E h => ?_) (fun cdv A outer s H vs Q E hr h => ?_)
  · obtain ⟨d, rs, B, rfl, _⟩ := h
    rfl
  · obtain ⟨d, rs, B, rfl, hd, ok, k⟩ := h
    have HR_is_window := hr
    have HR_is_name := hr.mono (j := 1) (by decide)
    obtain ⟨tL, hL⟩ := T.c_MOST_WINDOWS
    refine ⟨_, (pss_cons (ps_if (pt_cmpR op_gt (pe_callB call_lenD (by rfl) T.z_len bo_len (pa_cons (pv 0) pa_nil)) (pe_glob rfl hL (v := .int 20) ⟨_, rfl⟩) (nomark _))
        (pss_one ps_never)
        pss_nil)
      (pss_one (ps_frz (ps_for PassesOwn.never rfl (pi_items (pv 0)) (pg_tup rfl (pgs_cons (pg_name (i := 1) sc_check_windows.nd rfl (by walk_at "lc")) (pgs_cons (pg_name (i := 2) sc_check_windows.nd rfl (by walk_at "lc")) pgs_nil)))
        (pss_cons (ps_if (pt_not (pt_val (pe_callC C_is_name HR_is_name rfl (pa_cons (pv 1) pa_nil))))
          (pss_one ps_never)
          pss_nil)
        (pss_one (ps_if (pt_not (pt_val (pe_callC C_is_window HR_is_window rfl (pa_cons (pv 2) pa_nil))))
          (pss_one ps_never)
          pss_nil))))))), ?_⟩
    refine ⟨_, rfl, _, _, rfl, hd.top, _, _, rfl, rfl, _, rfl, ?_⟩
    refine ite2 (fun c => ?_) (fun c => ?_)
    · have := of_decide_eq_true c
      have := ok.len
      rw [kvW_len] at *
      omega
    refine ⟨d, kvW rs, hd.top, fun o => ?_⟩
    have Z0 := hd.fz o
    have kf : Kp [d] H (upd H d (.frz o (.dK (kvW rs)))) := Kp.put Kp.refl (by simp)
    refine ⟨_, rfl, d, o, kvW rs, rfl, upd_same, for_items (fun i σ H2 => (∃ o1 o2, σ = [some (.ref d), o1, o2]) ∧ Kp [d] H H2 ∧ WinFz H2 d o rs) ⟨⟨_, _, rfl⟩, kf, Z0⟩ (fun i σ H2 _ h => h.2.2.top) ?_ ?_⟩
    · rintro i kk v σ H2 t hv ⟨⟨o1, o2, rfl⟩, k2, Z2⟩ ht
      have ft : Fre H2 t := ht
      obtain ⟨r, ei, rfl, rfl⟩ := kvW_at hv
      have mr : r ∈ rs := List.mem_of_getElem? ei
      have kt : Kp [] H2 (upd H2 t (.tup [kV (Sum.inr r.1), .ref r.2.1])) := Kp.new Kp.refl ft
      refine ⟨_, _, rfl, .inl (.inl upd_same), rfl, _, _, rfl, _, _, rfl, rfl, ?_⟩
      have Z3 := Z2.kp0 kt
      have k3 : Kp [d] H (upd H2 t (.tup [kV (Sum.inr r.1), .ref r.2.1])) := k2.trans (kt.weak (by simp))
      generalize upd H2 t (.tup [kV (Sum.inr r.1), .ref r.2.1]) = H3 at k3 Z3
      refine ⟨_, rfl, r.1, rfl, by have := (ok.nm _ mr).2.1; omega, fun H4 k4 => ?_⟩
      rw [(nameB_iff r.1).mpr (ok.nm _ mr)]
      refine ⟨_, rfl, iteF ?_⟩
      have Z4 := Z3.kp0 k4
      refine ⟨_, rfl, r.2.1, _, _, rfl, Z4.row r mr, fun H5 k5 => ?_⟩
      exact ⟨_, rfl, iteF ⟨⟨_, _, rfl⟩, k3.trans ((k4.trans k5).weak (by simp)), Z4.kp0 k5⟩⟩
    · rintro σ H2 ⟨⟨o1, o2, rfl⟩, k2, Z2⟩
      exact ⟨Z2.top, k _ (thaw_kp hd.top k2)⟩
def spFind : Sp := fun vs H Q _ => ∃ (b : Int) (d : Addr) (rs : List Wn), vs = [.int b, .ref d] ∧ WinAt H d rs ∧ WinOk (10 ^ 80) rs ∧ 1 ≤ b ∧ b < 10 ^ 80 ∧
  (crowdB b rs = false → ∀ H', Kp [] H H' → Q .non H') ∧
  (crowdB b rs = true → ∀ (t l : Addr) (s e : Int) (H' : Hp), Kp [] H H' → H' t = some (.tup [.str "crowd", .int s, .int e, .ref l]) → H' l = some (.lst ((rowW rs s e).map fun r => V.str r.1)) → ((rowW rs s e).length : Int) > b * mx (e - s + 1) → Q (.ref t) H')
abbrev s_find_crowd : Stmt := top 15
theorem sc_find_crowd : FnScope ["benches", "windows", "start", "end", "row"] ["benches", "windows"] (defScope s_find_crowd) := ⟨rfl, rfl, rfl, by decide +kernel, rfl, by decide +kernel, by decide +kernel⟩
theorem mx_big {s e : Int} (hs : s.natAbs < 10 ^ 80) (he : e.natAbs < 10 ^ 80) : (mx (e - s + 1)).natAbs < 10 ^ 100 := by
  have t : 2 * (10 : Nat) ^ 80 + 1 < 10 ^ 100 := by decide +kernel
  unfold mx
  split <;> omega
theorem b_big {b : Int} (h1 : 1 ≤ b) (h2 : b < 10 ^ 80) : b.natAbs < 10 ^ 100 := by
  have t : (10 : Int) ^ 80 < 10 ^ 100 := by decide +kernel
  omega
theorem int_at {ns : List Int} {i : Nat} {v : V} (h : (ns.map V.int)[i]? = some v) : ∃ n, ns[i]? = some n ∧ v = .int n := by
  rw [List.getElem?_map] at h
  obtain ⟨n, e, r⟩ := Option.map_eq_some_iff.mp h
  exact ⟨n, e, r.symm⟩
theorem ok_find_crowd {f : Addr} {fd : FuncData} (F : Fun K "find_crowd" "find_crowd" s_find_crowd f fd) (T : Txt K mg) : FnOk P w K mg base CX0 1 f fd ["benches", "windows"] spFind := by
  refine F.ok sc_find_crowd (fun vs H Q E h => ?_) (fun cdv A outer s H vs Q E hr h => ?_)
  · obtain ⟨b, d, rs, rfl, _⟩ := h
    rfl
  · obtain ⟨b, d, rs, rfl, hd, ok, b1, b2, kN, kC⟩ := h
    have hu := hu_of hr
    refine ⟨_, (pss_cons (ps_frz (ps_for PassesOwn.never rfl (pi_list (pe_comp rfl (blk_mk (sc := defScope s_find_crowd) rfl (by decide +kernel)) (Draws.own (x := "window") Draws.nil) (pi_vals (pv 1)) (fun C s₀ H₀ ex => (pg_name (i := 0) (show List.Nodup (["window"] : List Str) by decide +kernel) rfl (by walk_at "lc"))) (fun C s₀ H₀ ex => pts_nil) (fun C s₀ H₀ ex => (pe_ix (ix_tupK (K := K)) (pv 0) pe_int (fun _ _ => rfl))))) (pg_name (i := 2) sc_find_crowd.nd rfl (by walk_at "lc"))
        (pss_one (ps_for PassesOwn.never rfl (pi_list (pe_comp rfl (blk_mk (sc := defScope s_find_crowd) rfl (by decide +kernel)) (Draws.own (x := "window") Draws.nil) (pi_vals (pv 1)) (fun C s₀ H₀ ex => (pg_name (i := 0) (show List.Nodup (["window"] : List Str) by decide +kernel) rfl (by walk_at "lc"))) (fun C s₀ H₀ ex => pts_nil) (fun C s₀ H₀ ex => (pe_ix (ix_tupK (K := K)) (pv 0) pe_int (fun _ _ => rfl))))) (pg_name (i := 3) sc_find_crowd.nd rfl (by walk_at "lc"))
          (pss_cons (ps_comp (i := 4) rfl (blk_mk (sc := defScope s_find_crowd) rfl (by decide +kernel)) (Draws.own (x := "name") (Draws.tk (i := 2) rfl (by walk_at "vs") (by walk_at "vk") (by walk_at "vf") (Draws.tk (i := 3) rfl (by walk_at "vs") (by walk_at "vk") (by walk_at "vf") (Draws.tk (i := 1) rfl (by walk_at "vs") (by walk_at "vk") (by walk_at "vf") Draws.nil)))) (pi_keys (pv 1)) (fun C s₀ H₀ ex => (pg_name (i := 0) (show List.Nodup (["name", "start", "end", "windows"] : List Str) by decide +kernel) rfl (by walk_at "lc"))) (fun C s₀ H₀ ex => (pts_one (PW.pt (pw_and (pt_cmpR op_le (pv 1) (pe_ix (ix_tupK (K := K)) (pe_dget hu (pv 3) (pv 0) (fun _ _ => rfl)) pe_int (fun _ _ => rfl)) (nomark _)) (pw_and1 (pt_cmpR op_le (pe_ix (ix_tupK (K := K)) (pe_dget hu (pv 3) (pv 0) (fun _ _ => rfl)) pe_int (fun _ _ => rfl)) (pv 2) (nomark _))))))) (fun C s₀ H₀ ex => (pv 0)) sc_find_crowd.nd rfl rfl)
          (pss_one (ps_if (pt_cmpR op_gt (pe_callB call_len_seq (by rfl) T.z_len bo_len (pa_cons (pv 4) pa_nil)) (pe_op op_mulB (pv 0) (pe_callB (call_max2 rfl) (by rfl) T.z_max bo_max (pa_cons (pe_op op_add (pe_op op_sub (pv 3) (pv 2)) pe_int) (pa_cons pe_int pa_nil)))) (nomark _))
            (pss_one (ps_ret (pe_tup (pa_cons pe_str (pa_cons (pv 2) (pa_cons (pv 3) (pa_cons (pv 4) pa_nil)))))))
            pss_nil)))))))
      (pss_one (ps_ret pe_non))), ?_⟩
    refine ⟨d, kvW rs, hd.top, fun o => ?_⟩
    have Z0 := hd.fz o
    have kf : Kp [d] H (upd H d (.frz o (.dK (kvW rs)))) := Kp.put Kp.refl (by simp)
    generalize upd H d (.frz o (.dK (kvW rs))) = H1 at kf Z0
    have rl := ok.len
    have vals : ∀ (j : Int) (hj : j = 0 ∨ j = 1) (H2 : Hp) (Z2 : WinFz H2 d o rs) (D : Addr) (hD : H2 D = none) (QD : Hp → Prop), (∀ H3, Kp [] H2 H3 → H3 D = some (.lst ((rs.map fun r => if j = 0 then r.2.2.1 else r.2.2.2).map V.int)) → QD H3) →
        ∀ {ix : List (Option Nat)} {σ : St} (hix : (blkSt σ ix).length = 1), ∃ W : Nat → Nat → List V → St → Hp → Prop, (∃ m, W 0 m [] (blkSt σ ix) (upd H2 D (.lst []))) ∧ ∀ i m ys τ H3, W i m ys τ H3 →
          ((Itv d o (kvW rs)).stop i H3 ∧ QD H3) ∨ ((Itv d o (kvW rs)).go i H3 ∧ ∃ N : List V → St → Hp → Prop, (∀ ys' τ' H', N ys' τ' H' → ∃ m', m' < m ∧ W (i + 1) m' ys' τ' H') ∧ ∀ x H4, (Itv d o (kvW rs)).yld i H3 x H4 → gName 0 x τ H4 fun τ' H5 => tTrue τ' H5 fun b H6 =>
            if b = true then (tOp (rIxT K) (tVar 0) (tC (.int j))) τ' H6 fun v H7 => H7 D = some (.lst ys) ∧ ys.length < sizeLine ∧ N (ys ++ [v]) τ' (upd H7 D (.lst (ys ++ [v]))) else N ys τ' H6) := by
      intro j hj H2 Z2 D hD QD hQ ix σ hix
      refine comp_vals (fun i ys τ H3 => (∃ o0, τ = [o0]) ∧ ys = (((rs.map fun r => if j = 0 then r.2.2.1 else r.2.2.2).take i).map V.int) ∧ H3 = upd H2 D (.lst ys)) ⟨?_, rfl, rfl⟩ (fun i ys τ H3 ⟨_, _, z⟩ => by subst z; exact (Kp.new (M := []) Kp.refl hD) _ _ Z2.top (by simp)) ?_ ?_
      · match h : blkSt σ ix, hix with
        | [a], _ => exact ⟨a, rfl⟩
      · rintro i kk v ys τ H3 hv ⟨⟨o0, rfl⟩, rfl, rfl⟩
        obtain ⟨r, ei, rfl, rfl⟩ := kvW_at hv
        have mr : r ∈ rs := List.mem_of_getElem? ei
        have il := (List.getElem?_eq_some_iff.mp ei).1
        have hr3 := (Kp.new (M := []) (l := D) (o := .lst ((((rs.map fun r => if j = 0 then r.2.2.1 else r.2.2.2).take i).map V.int))) Kp.refl hD) _ _ (Z2.row r mr) (by simp)
        unfold gName tTrue
        refine ifT ⟨_, rfl, _, _, _, (if j = 0 then .int r.2.2.1 else .int r.2.2.2), rfl, rfl, SqT.of hr3, by rcases hj with rfl | rfl <;> rfl, upd_same, by rw [List.length_map, List.length_take, sizeLine_eq]; omega, ⟨_, rfl⟩, ?_, upd_upd⟩
        rw [take_snoc (x := if j = 0 then r.2.2.1 else r.2.2.2) (by rw [List.getElem?_map, ei]; rfl), List.map_append]
        rcases hj with rfl | rfl <;> rfl
      · rintro ys τ H3 ⟨_, rfl, rfl⟩
        have eT : (rs.map fun r => if j = 0 then r.2.2.1 else r.2.2.2).take (kvW rs).length = rs.map fun r => if j = 0 then r.2.2.1 else r.2.2.2 := List.take_of_length_le (by rw [kvW_len, List.length_map]; exact Nat.le_refl _)
        rw [eT]
        exact hQ _ (Kp.new Kp.refl hD) upd_same
    refine ⟨_, rfl, d, o, kvW rs, rfl, Z0.top, fun D hD => vals 0 (.inl rfl) H1 Z0 D hD _ (fun H2 k2 hD2 => ?_) rfl⟩
    have Z2 := Z0.kp0 k2
    rw [show (rs.map fun r => if (0 : Int) = 0 then r.2.2.1 else r.2.2.2) = rs.map (fun r => r.2.2.1) from rfl] at hD2
    have K2 : Kp [d] H H2 := kf.trans (k2.weak (by simp))
    refine ⟨_, rfl, ⟨_, SqL.of hD2⟩, for_list (xs := (rs.map fun r => r.2.2.1).map V.int) (fun i σ H3 => (∃ o2 o3 o4, σ = [some (.int b), some (.ref d), o2, o3, o4]) ∧ Kp [] H2 H3 ∧ ∀ r ∈ rs.take i, ∀ q ∈ rs, ¬ (((rowW rs r.2.2.1 q.2.2.2).length : Int) > b * mx (q.2.2.2 - r.2.2.1 + 1))) ⟨⟨_, _, _, rfl⟩, Kp.refl, fun r hr => by simp at hr⟩ (fun i σ H3 _ ⟨_, k3, _⟩ => SqL.of (k3 D _ hD2 (by simp))) ?_ ?_⟩
    · rintro i v σ H3 hv ⟨⟨o2, o3, o4, rfl⟩, k3, no3⟩
      obtain ⟨s1, es, rfl⟩ := int_at hv
      rw [List.getElem?_map] at es
      obtain ⟨r, er, rfl⟩ := Option.map_eq_some_iff.mp es
      have mr : r ∈ rs := List.mem_of_getElem? er
      have Z3 := Z2.kp0 k3
      refine ⟨_, rfl, d, o, kvW rs, rfl, Z3.top, fun D2 hD2' => vals 1 (.inr rfl) H3 Z3 D2 hD2' _ (fun H4 k4 hD4 => ?_) rfl⟩
      rw [show (rs.map fun r => if (1 : Int) = 0 then r.2.2.1 else r.2.2.2) = rs.map (fun r => r.2.2.2) from rfl] at hD4
      refine ⟨_, rfl, ⟨_, SqL.of hD4⟩, for_list (xs := (rs.map fun r => r.2.2.2).map V.int) (fun j σ H5 => (∃ o3 o4, σ = [some (.int b), some (.ref d), some (.int r.2.2.1), o3, o4]) ∧ Kp [] H4 H5 ∧ ∀ q ∈ rs.take j, ¬ (((rowW rs r.2.2.1 q.2.2.2).length : Int) > b * mx (q.2.2.2 - r.2.2.1 + 1))) ⟨⟨_, _, rfl⟩, Kp.refl, fun r hr => by simp at hr⟩ (fun i σ H5 _ ⟨_, k5, _⟩ => SqL.of (k5 D2 _ hD4 (by simp))) ?_ ?_⟩
      · rintro j v σ H5 hv ⟨⟨o3, o4, rfl⟩, k5, no5⟩
        obtain ⟨e1, ee, rfl⟩ := int_at hv
        rw [List.getElem?_map] at ee
        obtain ⟨q, eq, rfl⟩ := Option.map_eq_some_iff.mp ee
        have mq : q ∈ rs := List.mem_of_getElem? eq
        have Z5 := (Z3.kp0 k4).kp0 k5
        refine ⟨_, rfl, d, o, kvW rs, rfl, Z5.top, fun B hB => comp_keys (fun m ys τ H6 => (∃ o0, τ = [o0, some (.int r.2.2.1), some (.int q.2.2.2), some (.ref d)]) ∧ ys = ((rs.take m).filter (fun z => inW r.2.2.1 q.2.2.2 z.2.2)).map (fun z => V.str z.1) ∧ H6 = upd H5 B (.lst ys)) ⟨⟨_, rfl⟩, rfl, rfl⟩ (fun m ys τ H6 ⟨_, _, z⟩ => by subst z; exact (Kp.new (M := []) Kp.refl hB) _ _ Z5.top (by simp)) ?_ ?_⟩
        · rintro m kk v ys τ H6 hv ⟨⟨o0, rfl⟩, rfl, rfl⟩
          obtain ⟨z, ez, rfl, rfl⟩ := kvW_at hv
          have mz : z ∈ rs := List.mem_of_getElem? ez
          have Z6 := Z5.kp0 (Kp.new (M := []) (l := B) (o := .lst (((rs.take m).filter (fun z => inW r.2.2.1 q.2.2.2 z.2.2)).map (fun z => V.str z.1))) Kp.refl hB)
          have fin : ∀ c : Bool, c = inW r.2.2.1 q.2.2.2 z.2.2 → (if c = true then (upd H5 B (.lst (((rs.take m).filter (fun z => inW r.2.2.1 q.2.2.2 z.2.2)).map (fun z => V.str z.1)))) B = some (.lst (((rs.take m).filter (fun z => inW r.2.2.1 q.2.2.2 z.2.2)).map (fun z => V.str z.1))) ∧ (((rs.take m).filter (fun z => inW r.2.2.1 q.2.2.2 z.2.2)).map (fun z => V.str z.1)).length < sizeLine ∧ ((∃ o0, ([some (V.str z.1), some (.int r.2.2.1), some (.int q.2.2.2), some (.ref d)] : St) = [o0, some (.int r.2.2.1), some (.int q.2.2.2), some (.ref d)]) ∧ ((rs.take m).filter (fun z => inW r.2.2.1 q.2.2.2 z.2.2)).map (fun z => V.str z.1) ++ [V.str z.1] = ((rs.take (m + 1)).filter (fun z => inW r.2.2.1 q.2.2.2 z.2.2)).map (fun z => V.str z.1) ∧ upd (upd H5 B (.lst (((rs.take m).filter (fun z => inW r.2.2.1 q.2.2.2 z.2.2)).map (fun z => V.str z.1)))) B (.lst (((rs.take m).filter (fun z => inW r.2.2.1 q.2.2.2 z.2.2)).map (fun z => V.str z.1) ++ [V.str z.1])) = upd H5 B (.lst (((rs.take m).filter (fun z => inW r.2.2.1 q.2.2.2 z.2.2)).map (fun z => V.str z.1) ++ [V.str z.1])))
              else ((∃ o0, ([some (V.str z.1), some (.int r.2.2.1), some (.int q.2.2.2), some (.ref d)] : St) = [o0, some (.int r.2.2.1), some (.int q.2.2.2), some (.ref d)]) ∧ ((rs.take m).filter (fun z => inW r.2.2.1 q.2.2.2 z.2.2)).map (fun z => V.str z.1) = ((rs.take (m + 1)).filter (fun z => inW r.2.2.1 q.2.2.2 z.2.2)).map (fun z => V.str z.1) ∧ upd H5 B (.lst (((rs.take m).filter (fun z => inW r.2.2.1 q.2.2.2 z.2.2)).map (fun z => V.str z.1))) = upd H5 B (.lst (((rs.take m).filter (fun z => inW r.2.2.1 q.2.2.2 z.2.2)).map (fun z => V.str z.1))))) := fun c hc => by
            subst hc
            refine ite2 (fun c => ⟨upd_same, by rw [List.length_map]; exact filt_len (by omega), ⟨_, rfl⟩, ?_, upd_upd⟩) (fun c => ⟨⟨_, rfl⟩, ?_, rfl⟩)
            · rw [filt_yes ez c, List.map_append]; rfl
            · rw [filt_no ez c]
          refine ⟨_, rfl, _, rfl, _, rfl, d, _, rfl, Z6.get ok.nd mz, _, _, _, _, rfl, rfl, SqT.of (Z6.row z mz), rfl, _, _, rfl, rfl, _, rfl, ?_⟩
          refine ite2 (fun c => ?_) (fun c => ?_)
          · refine ⟨_, rfl, _, rfl, d, _, rfl, Z6.get ok.nd mz, _, _, _, _, rfl, rfl, SqT.of (Z6.row z mz), rfl, _, rfl, _, _, rfl, rfl, _, rfl, ?_⟩
            have h1 : decide (r.2.2.1 ≤ z.2.2.1) = true := c
            have := fin (decide (z.2.2.2 ≤ q.2.2.2)) (by unfold inW; rw [h1]; rfl)
            refine ite2 (fun c2 => ?_) (fun c2 => ?_)
            · rw [if_pos c2] at this
              exact ⟨_, rfl, this⟩
            · rw [if_neg c2] at this
              exact this
          · have h1 : decide (r.2.2.1 ≤ z.2.2.1) = false := by
              cases h : decide (r.2.2.1 ≤ z.2.2.1) with
              | true => exact absurd h c
              | false => rfl
            have := fin false (by unfold inW; rw [h1]; rfl)
            rw [if_neg (by simp)] at this
            exact this
        · rintro ys τ H6 ⟨_, rfl, rfl⟩
          have eT : rs.take (kvW rs).length = rs := by rw [kvW_len, List.take_length]
          rw [eT]
          have fB : Fre H5 B := hB
          have kB : Kp [] H5 (upd H5 B (.lst ((rowW rs r.2.2.1 q.2.2.2).map fun z => V.str z.1))) := Kp.new Kp.refl fB
          have eB : upd H5 B (.lst ((rowW rs r.2.2.1 q.2.2.2).map fun z => V.str z.1)) B = some (.lst ((rowW rs r.2.2.1 q.2.2.2).map fun z => V.str z.1)) := upd_same
          have Z6 := Z5.kp0 kB
          generalize hH6 : upd H5 B (.lst ((rowW rs r.2.2.1 q.2.2.2).map fun z => V.str z.1)) = H6 at kB eB Z6
          have hH6' : upd H5 B (.lst ((rs.filter fun z => inW r.2.2.1 q.2.2.2 z.2.2).map fun z => V.str z.1)) = H6 := hH6
          rw [hH6']
          refine ⟨_, rfl, _, _, rfl, .inl (SqL.of eB), _, rfl, _, rfl, _, rfl, _, _, rfl, rfl, _, _, rfl, rfl, _, _, rfl, _, _, rfl, rfl, ⟨b_big b1 b2, mx_big (ok.bs r mr) (ok.be q mq)⟩, _, _, rfl, rfl, _, rfl, ?_⟩
          refine ite2 (fun c => ?_) (fun c => ?_)
          · have c := of_decide_eq_true c
            rw [List.length_map] at c
            refine ⟨_, rfl, _, rfl, _, rfl, (by walk_at "ln"), fun t ht => ?_⟩
            have ft : Fre H6 t := ht
            have k7 : Kp [] H6 (upd H6 t (.tup [.str "crowd", .int r.2.2.1, .int q.2.2.2, .ref B])) := Kp.new Kp.refl ft
            have e7 : upd H6 t (.tup [.str "crowd", .int r.2.2.1, .int q.2.2.2, .ref B]) t = some (.tup [.str "crowd", .int r.2.2.1, .int q.2.2.2, .ref B]) := upd_same
            generalize upd H6 t (.tup [.str "crowd", .int r.2.2.1, .int q.2.2.2, .ref B]) = H7 at k7 e7
            have Z7 := Z6.kp0 k7
            have B7 := k7 B _ eB (by simp)
            have ntd : t ≠ d := fun z => by rw [z, Z7.top] at e7; cases e7
            have nBd : B ≠ d := fun z => by rw [z, Z7.top] at B7; cases B7
            have KK : Kp [d] H H7 := K2.trans (((((k3.trans k4).trans k5).trans kB).trans k7).weak (by simp))
            have cb : crowdB b rs = true := by
              unfold crowdB crowdP
              rw [List.any_eq_true]
              refine ⟨r.2.2, List.mem_map.mpr ⟨r, mr, rfl⟩, ?_⟩
              rw [List.any_eq_true]
              refine ⟨q.2.2, List.mem_map.mpr ⟨q, mq, rfl⟩, decide_eq_true ?_⟩
              rw [← rowW_len]; exact c
            exact ⟨Z7.top, kC cb t B _ _ _ (thaw_kp hd.top KK) (by rw [upd_ne ntd]; exact e7) (by rw [upd_ne nBd]; exact B7) c⟩
          · have c : ¬ (((rowW rs r.2.2.1 q.2.2.2).length : Int) > b * mx (q.2.2.2 - r.2.2.1 + 1)) := fun z => c (decide_eq_true (by rw [List.length_map]; exact z))
            refine ⟨⟨_, _, rfl⟩, k5.trans kB, fun q' hq' => ?_⟩
            rw [take_snoc eq] at hq'
            rcases List.mem_append.mp hq' with z | z
            · exact no5 q' z
            · have : q' = q := by simpa using z
              rw [this]; exact c
      · rintro σ H5 ⟨⟨o3, o4, rfl⟩, k5, no5⟩
        rw [List.length_map, List.length_map, List.take_length] at no5
        refine ⟨⟨_, _, _, rfl⟩, (k3.trans k4).trans k5, fun r' hr' => ?_⟩
        rw [take_snoc er] at hr'
        rcases List.mem_append.mp hr' with z | z
        · exact no3 r' z
        · have : r' = r := by simpa using z
          rw [this]; exact no5
    · rintro σ H3 ⟨⟨o2, o3, o4, rfl⟩, k3, no3⟩
      rw [List.length_map, List.length_map, List.take_length] at no3
      have cb : crowdB b rs = false := by
        cases h : crowdB b rs with
        | false => rfl
        | true =>
          unfold crowdB crowdP at h
          rw [List.any_eq_true] at h
          obtain ⟨p, hp, h⟩ := h
          rw [List.any_eq_true] at h
          obtain ⟨p', hp', h⟩ := h
          obtain ⟨r, hr, rfl⟩ := List.mem_map.mp hp
          obtain ⟨q, hq, rfl⟩ := List.mem_map.mp hp'
          have h := of_decide_eq_true h
          rw [← rowW_len] at h
          exact absurd h (no3 r hr q hq)
      exact ⟨(Z2.kp0 k3).top, kN cb _ (thaw_kp hd.top (K2.trans (k3.weak (by simp))))⟩
end
end My
set_option Elab.async false
set_option linter.all false
set_option maxRecDepth 100000
set_option maxHeartbeats 4000000
namespace My
open PySem L2
def lamQ : Str := Str.ofString "soonest_end_first" ++ ".<locals>." ++ "<lambda>"
def lamPos : Pos := ⟨49, 31, 49, 60⟩
abbrev TabA (H : Hp) (Pt : Addr) : Prop := Tab0 H Pt lamQ lamPos
theorem TabA.kp {H H' : Hp} {Pt : Addr} (h : TabA H Pt) (k : Kp [] H H') : TabA H' Pt := by
  rcases h with e | ⟨c, e, ec⟩
  · exact .inl (k _ _ e (by simp))
  · exact .inr ⟨c, k _ _ e (by simp), k _ _ ec (by simp)⟩
theorem TabA.tbl {H : Hp} {Pt : Addr} (h : TabA H Pt) : ∃ ps, H Pt = some (.tbl ps) := by
  rcases h with e | ⟨c, e, _⟩
  · exact ⟨_, e⟩
  · exact ⟨_, e⟩
theorem WinAt.kpT {H H' : Hp} {d Pt : Addr} {rs : List Wn} (h : WinAt H d rs) (k : Kp [Pt] H H') (t : TabA H Pt) : WinAt H' d rs := by
  obtain ⟨ps, e⟩ := t.tbl
  exact h.kp k (nm1 fun z => by have := h.top; rw [z, e] at this; cases this) fun r hr => nm1 fun z => by have := h.row r hr; rw [z, e] at this; cases this
theorem okC {P : Program} {w : World} {K : PySem.W.Frag} {mg : Str → Option Value} {base : Heap} {x qual : Str} {st : Stmt} {f c0 : Addr} {oc : Value} {od an : Option Addr} {osl : Array (Option Value)} {kV doc pm ct : Value} {N ps : List Str} {k : Nat} {sp : Sp}
    (lk : K.lookup f = some ⟨oc, od, .func (PySem.W.fnOf x qual (defArgs st) (defBody st) (defScope st) .none kV doc pm an (.ref c0) ct), osl⟩) (hcd : PySem.W.codeIn K (.ref c0) qual = true) (S : FnScope N ps (defScope st)) (len : ∀ vs H Q E, sp vs H Q E → vs.length = ps.length)
    (hbody : ∀ (A : Around) (outer : List Env) (s : Shared) (H : Hp) (vs : List V) (Q : VK) (E : XK), Room k (A.deeper (PyProof.Rows.envOfC qual (defScope st) s.heap.objs.size f (.ref c0))) → sp vs H Q E →
      ∃ t, PSs (cxOf CX0 P w K mg base N qual (defScope st) f (.ref c0) A outer s H E).nox (defBody st) t ∧ t { nx := fun _ H' => Q .non H', rt := Q } (L2.start N vs) H) : FnOk P w K mg base CX0 (k + 1) f (PySem.W.fnOf x qual (defArgs st) (defBody st) (defScope st) .none kV doc pm an (.ref c0) ct) ps sp := by
  refine fn_of lk hcd S len fun A outer s H vs Q E hr hsp => ?_
  obtain ⟨t, h, q⟩ := hbody A outer s H vs Q E hr hsp
  exact ⟨t, h.nox, q⟩
def wOf (rs : List Wn) (x : Str) : Int × Int := match rs.find? fun r => decide (r.1 = x) with
  | some r => r.2.2
  | none => (0, 0)
theorem wOf_at : ∀ {rs : List Wn}, (rs.map (·.1)).Nodup → ∀ {r : Wn}, r ∈ rs → wOf rs r.1 = r.2.2
  | q :: rs, nd, r, hr => by
    rw [List.map_cons] at nd
    obtain ⟨n1, n2⟩ := List.nodup_cons.mp nd
    unfold wOf
    rw [List.find?_cons]
    rcases List.mem_cons.mp hr with z | z
    · subst z; simp
    · have : q.1 ≠ r.1 := fun e => n1 (by rw [e]; exact List.mem_map.mpr ⟨r, z, rfl⟩)
      rw [decide_eq_false this]
      have := wOf_at n2 z
      unfold wOf at this
      exact this
def lenAt (i : Nat) (σ : St) (H : Hp) : Nat := match (σ[i]? : Option (Option V)) with
  | some (some (.ref a)) => match H a with
    | some (.lst xs) => xs.length
    | _ => 0
  | _ => 0
theorem filt_lt {α : Type} {p : α → Bool} : ∀ {l : List α} {y : α}, y ∈ l → ¬ p y = true → (l.filter p).length < l.length
  | x :: l, y, hy, hp => by
    rcases List.mem_cons.mp hy with z | z
    · subst z
      rw [List.filter_cons, if_neg hp, List.length_cons]
      have := List.length_filter_le p l
      omega
    · have := filt_lt z hp
      rw [List.filter_cons]
      split
      · rw [List.length_cons, List.length_cons]; omega
      · rw [List.length_cons]; omega
structure TurnsAt (H : Hp) (tl : Addr) (as : List Addr) : Prop where
  top : H tl = some (.lst (as.map V.ref))
  row : ∀ a ∈ as, ∃ (z : Int) (r : Addr), H a = some (.tup [.int z, .ref r])
theorem TurnsAt.kp0 {H H' : Hp} {tl : Addr} {as : List Addr} (h : TurnsAt H tl as) (k : Kp [] H H') : TurnsAt H' tl as :=
  ⟨k _ _ h.top (by simp), fun a ha => by obtain ⟨z, r, e⟩ := h.row a ha; exact ⟨z, r, k _ _ e (by simp)⟩⟩
section
variable {P : Program} {w : World} {K : PySem.W.Frag} {mg : Str → Option Value} {base : Heap}
def spNext : Sp := fun vs H Q _ => ∃ (tl sl : Addr) (as : List Addr) (ns : List Int), vs = [.ref tl, .ref sl] ∧ TurnsAt H tl as ∧ H sl = some (.lst (ns.map V.int)) ∧ ns ≠ [] ∧ ∀ t : Int, (∃ n ∈ ns, n ≤ t) → Q (.int t) H
abbrev s_next_turn : Stmt := top 17
theorem sc_next_turn : FnScope ["turns", "starts"] ["turns", "starts"] (defScope s_next_turn) := ⟨rfl, rfl, rfl, by decide +kernel, rfl, by decide +kernel, by decide +kernel⟩
theorem at_last {as : List Addr} (h : as ≠ []) : ∃ a ∈ as, atI (as.map V.ref) (-1) = some (.ref a) := by
  refine ⟨as.getLast h, List.getLast_mem h, ?_⟩
  have e : as.map V.ref = as.dropLast.map V.ref ++ [.ref (as.getLast h)] := by
    rw [← List.map_singleton (f := V.ref), ← List.map_append, List.dropLast_concat_getLast]
  rw [e]
  exact atI_last _ _
theorem ok_next_turn {f : Addr} {fd : FuncData} (F : Fun K "next_turn" "next_turn" s_next_turn f fd) (T : Txt K mg) : FnOk P w K mg base CX0 1 f fd ["turns", "starts"] spNext := by
  refine F.ok sc_next_turn (fun vs H Q E h => ?_) (fun cdv A outer s H vs Q E hr h => ?_)
  · obtain ⟨tl, sl, as, ns, rfl, _⟩ := h
    rfl
  · obtain ⟨tl, sl, as, ns, rfl, ht, hs, ne, k⟩ := h
    refine ⟨_, (pss_cons (ps_if (pt_not (pt_truth (pv 0) (fun _ => rfl)))
        (pss_one (ps_ret (pe_callB (call_min1 rfl) (by rfl) T.z_min bo_min (pa_cons (pv 1) pa_nil))))
        pss_nil)
      (pss_one (ps_ret (pe_callB (call_max2 rfl) (by rfl) T.z_max bo_max (pa_cons (pe_op op_add (pe_ix ix_tup (pe_ix ix_list (pv 0) (pe_un un_neg pe_int) (fun _ _ => rfl)) pe_int (fun _ _ => rfl)) pe_int) (pa_cons (pe_callB (call_min1 rfl) (by rfl) T.z_min bo_min (pa_cons (pv 1) pa_nil)) pa_nil)))))), ?_⟩
    refine ⟨_, rfl, _, .inl ⟨_, SqL.of ht.top, rfl⟩, ?_⟩
    refine ite2 (fun c => ?_) (fun c => ?_)
    · exact ⟨_, rfl, sl, ns, rfl, SqL.of hs, ne, fun M hM _ => k M ⟨M, hM, Int.le_refl _⟩⟩
    · have na : as ≠ [] := fun z => c (by rw [z]; rfl)
      obtain ⟨a, ma, ea⟩ := at_last na
      obtain ⟨z, r, e⟩ := ht.row a ma
      refine ⟨_, rfl, _, rfl, _, _, _, _, rfl, rfl, SqL.of ht.top, ea, _, _, _, _, rfl, rfl, SqT.of e, rfl, _, _, rfl, rfl, _, rfl, sl, ns, rfl, SqL.of hs, ne, fun M hM _ => ?_⟩
      refine ⟨_, _, rfl, k _ ⟨M, hM, ?_⟩⟩
      split <;> omega
def spSoon (Pt : Addr) : Sp := fun vs H Q _ => ∃ (b : Int) (d : Addr) (rs : List Wn), vs = [.int b, .ref d] ∧ WinAt H d rs ∧ WinOk (10 ^ 80) rs ∧ 1 ≤ b ∧ TabA H Pt ∧ ∀ (t : Addr) (H' : Hp), Kp [Pt] H H' → TabA H' Pt → Q (.ref t) H'
abbrev s_soonest_end_first : Stmt := top 16
theorem sc_soonest_end_first : FnScope ["benches", "windows", "turns", "left", "turn", "row"] ["benches", "windows"] (defScope s_soonest_end_first) := ⟨rfl, rfl, rfl, by decide +kernel, rfl, by decide +kernel, by decide +kernel⟩
theorem ok_soonest {f c0 Pt : Addr} {oc : Value} {od an : Option Addr} {osl : Array (Option Value)} {kV doc pm ct : Value} (lk : K.lookup f = some ⟨oc, od, .func (PySem.W.fnOf "soonest_end_first" "soonest_end_first" (defArgs s_soonest_end_first) (defBody s_soonest_end_first) (defScope s_soonest_end_first) .none kV doc pm an (.ref c0) ct), osl⟩) (hcd : PySem.W.codeIn K (.ref c0) "soonest_end_first" = true) (T : Txt K mg) (B : BltAt mg base) (C : PySem.W.CodeHd base c0 Pt)
    (C_next_turn : Cal P w K mg base "next_turn" 1 ["turns", "starts"] spNext) : FnOk P w K mg base CX0 4 f (PySem.W.fnOf "soonest_end_first" "soonest_end_first" (defArgs s_soonest_end_first) (defBody s_soonest_end_first) (defScope s_soonest_end_first) .none kV doc pm an (.ref c0) ct) ["benches", "windows"] (spSoon Pt) := by
  refine okC lk hcd sc_soonest_end_first (fun vs H Q E h => ?_) (fun A outer s H vs Q E hr h => ?_)
  · obtain ⟨b, d, rs, rfl, _⟩ := h
    rfl
  · obtain ⟨b, d, rs, rfl, hd, ok, b1, T0, k⟩ := h
    have hr1 := hr.mono (j := 1) (by decide)
    have hr2 := hr.mono (j := 0 + 2) (by decide)
    have hu := hu_of hr
    have hun := hr.units
    refine ⟨_, (pss_cons (ps_set (i := 2) sc_soonest_end_first.nd rfl (by walk_at "lc") (pe_lst pa_nil))
      (pss_cons (ps_set (i := 3) sc_soonest_end_first.nd rfl (by walk_at "lc") (pe_sortedK (x := "name") (y := "windows") (iy := 1) (P := Pt) (c0 := c0) (qual := lamQ) hr2 rfl (by rfl) T.z_sorted bo_sorted (pa_cons (pv 1) pa_nil) (by exact ⟨rfl, rfl, rfl, rfl, rfl, by decide +kernel, by decide +kernel⟩) (by decide) rfl rfl rfl rfl rfl rfl C B rfl (fun _ _ _ _ => rfl) (fun f' cd' A' s' H' hA => pe_ix (ix_tupK (K := K)) (pe_dget (show A'.units + 3 + 1 < cLine by have hA' : A'.units + 3 ≤ (A.deeper (PyProof.Rows.envOfC "soonest_end_first" (defScope s_soonest_end_first) s.heap.objs.size f (.ref c0))).units + 6 := hA; omega) (pv 1) (pv 0) (fun _ _ => rfl)) pe_int (fun _ _ => rfl))))
      (pss_cons (ps_while PassesOwn.never (pt_truth (pv 3) (fun _ => rfl))
        (pss_cons (ps_set (i := 4) sc_soonest_end_first.nd rfl (by walk_at "lc") (pe_callC C_next_turn hr1 rfl (pa_cons (pv 2) (pa_cons (pe_comp rfl (blk_mk (sc := defScope s_soonest_end_first) rfl (by decide +kernel)) (Draws.own (x := "name") (Draws.tk (i := 1) rfl (by walk_at "vs") (by walk_at "vk") (by walk_at "vf") Draws.nil)) (pi_list (pv 3)) (fun C s₀ H₀ ex => (pg_name (i := 0) (show List.Nodup (["name", "windows"] : List Str) by decide +kernel) rfl (by walk_at "lc"))) (fun C s₀ H₀ ex => pts_nil) (fun C s₀ H₀ ex => (pe_ix (ix_tupK (K := K)) (pe_dget hu (pv 1) (pv 0) (fun _ _ => rfl)) pe_int (fun _ _ => rfl)))) pa_nil))))
        (pss_cons (ps_set (i := 5) sc_soonest_end_first.nd rfl (by walk_at "lc") (pe_slice sl_list (pe_comp rfl (blk_mk (sc := defScope s_soonest_end_first) rfl (by decide +kernel)) (Draws.own (x := "name") (Draws.tk (i := 4) rfl (by walk_at "vs") (by walk_at "vk") (by walk_at "vf") (Draws.tk (i := 1) rfl (by walk_at "vs") (by walk_at "vk") (by walk_at "vf") Draws.nil))) (pi_list (pv 3)) (fun C s₀ H₀ ex => (pg_name (i := 0) (show List.Nodup (["name", "turn", "windows"] : List Str) by decide +kernel) rfl (by walk_at "lc"))) (fun C s₀ H₀ ex => (pts_one (pt_cmpR op_le (pe_ix (ix_tupK (K := K)) (pe_dget hu (pv 2) (pv 0) (fun _ _ => rfl)) pe_int (fun _ _ => rfl)) (pv 1) (nomark _)))) (fun C s₀ H₀ ex => (pv 0))) po_none (po_some (pv 0))))
        (pss_cons (ps_expr (pe_bm PySem.F.plainAttrs_list PySem.F.slot_list_append PySem.F.type_list_append mt_append (pv 2) (pa_cons (pe_tup (pa_cons (pv 4) (pa_cons (pv 5) pa_nil))) pa_nil)))
        (pss_one (ps_comp (i := 3) rfl (blk_mk (sc := defScope s_soonest_end_first) rfl (by decide +kernel)) (Draws.own (x := "name") (Draws.tk (i := 5) rfl (by walk_at "vs") (by walk_at "vk") (by walk_at "vf") Draws.nil)) (pi_list (pv 3)) (fun C s₀ H₀ ex => (pg_name (i := 0) (show List.Nodup (["name", "row"] : List Str) by decide +kernel) rfl (by walk_at "lc"))) (fun C s₀ H₀ ex => (pts_one (pt_cmpR (op_notIn_seqK (K := K)) (pv 0) (pv 1) (by rfl)))) (fun C s₀ H₀ ex => (pv 0)) sc_soonest_end_first.nd rfl rfl))))))
      (pss_one (ps_ret (pv 2)))))), ?_⟩
    refine ⟨(by walk_at "ln"), fun tl htl => ?_⟩
    have ftl : Fre H tl := htl
    have k1 : Kp [] H (upd H tl (.lst [])) := Kp.new Kp.refl ftl
    have e1 : upd H tl (.lst []) tl = some (.lst []) := upd_same
    generalize upd H tl (.lst []) = H1 at k1 e1
    have W1 := hd.kp0 k1
    have T1 := T0.kp k1
    have rl := ok.len
    obtain ⟨ps1, eT1⟩ := T1.tbl
    refine ⟨_, rfl, d, kvW rs, rs.map (·.1), fun x => (wOf rs x).2, .ref d, rfl, rfl, W1.top, kvW_keys rs, by rw [List.length_map]; omega, T1, fun H2 k2 T2 => ⟨fun x hx => ?_, fun lf zs hlf pz _ => ?_⟩⟩
    · have W2 := W1.kpT k2 T1
      obtain ⟨r, hr', rfl⟩ := List.mem_map.mp hx
      refine ⟨_, rfl, _, rfl, d, _, rfl, W2.get ok.nd hr', _, _, _, _, rfl, rfl, SqT.of (W2.row r hr'), rfl, ?_, rfl⟩
      show V.int r.2.2.2 = V.int (wOf rs r.1).2
      rw [wOf_at ok.nd hr']
    have W2 := W1.kpT k2 T1
    have ntP : tl ≠ Pt := fun z => by rw [z, eT1] at e1; cases e1
    have e2 := k2 tl _ e1 (nm1 ntP)
    have flf : Fre H2 lf := hlf
    have k3 : Kp [] H2 (upd H2 lf (.lst (zs.map V.str))) := Kp.new Kp.refl flf
    have e3 : upd H2 lf (.lst (zs.map V.str)) lf = some (.lst (zs.map V.str)) := upd_same
    generalize upd H2 lf (.lst (zs.map V.str)) = H3 at k3 e3
    have K3 : Kp [Pt] H H3 := ((k1.weak (by simp)).trans k2).trans (k3.weak (by simp))
    have TA3 : TabA H3 Pt := TabA.kp (.inr T2) k3
    show tWhile (fun σ H Q => tVar 3 σ H fun x H' => ∃ k, TruV K x H' k ∧ Q k H') _ _ _ _
    refine while_by (fun σ H4 => ∃ (lf : Addr) (L : List Str) (as : List Addr) (o4 o5 : Option V), σ = [some (.int b), some (.ref d), some (.ref tl), some (.ref lf), o4, o5] ∧ Kp [Pt] H H4 ∧ TabA H4 Pt ∧ WinAt H4 d rs ∧ Txs H4 lf L ∧ (∀ x ∈ L, ∃ r ∈ rs, r.1 = x) ∧ TurnsAt H4 tl as ∧ as.length + L.length ≤ 20) (lenAt 3)
      ⟨lf, zs, [], none, none, rfl, K3, TA3, W2.kp0 k3, e3, fun x hx => by
        obtain ⟨r, hr', e⟩ := List.mem_map.mp (pz.mem_iff.mp hx)
        exact ⟨r, hr', e⟩, ⟨k3 tl _ e2 (by simp), fun a ha => nomatch ha⟩, by rw [pz.length_eq, List.length_map]; simpa using rl⟩ ?_ (fun σ H Q Q' hq hc => by
        obtain ⟨x, e, b, t, q⟩ := hc
        exact ⟨x, e, b, t, hq _ _ q⟩)
    rintro σ H4 ⟨lf, L, as, o4, o5, rfl, K4, TA4, W4, hL, hin, R4, hlen⟩
    refine ⟨_, rfl, _, .inl ⟨_, SqL.of hL, rfl⟩, ?_⟩
    refine ite2 (fun c => ?_) (fun c => ?_)
    · have cL : L ≠ [] := fun z => by rw [z] at c; simp at c
      refine ⟨_, rfl, _, rfl, _, rfl, ⟨_, SqL.of hL⟩, fun D hD => comp_list0 (L.map V.str) (fun i ys τ H5 => (∃ o0, τ = [o0, some (.ref d)]) ∧ ys = ((L.take i).map fun x => V.int (wOf rs x).1) ∧ H5 = upd H4 D (.lst ys)) ⟨⟨_, rfl⟩, rfl, rfl⟩ (fun i ys τ H5 ⟨_, _, z⟩ => by subst z; exact SqL.of ((Kp.new (M := []) Kp.refl hD) _ _ hL (by simp))) ?_ ?_⟩
      · rintro i v ys τ H5 hv ⟨⟨o0, rfl⟩, rfl, rfl⟩
        obtain ⟨x, ex, rfl⟩ := str_at hv
        obtain ⟨r, hr', rfl⟩ := hin x (List.mem_of_getElem? ex)
        have W5 := W4.kp0 (Kp.new (M := []) (l := D) (o := .lst ((L.take i).map fun x => V.int (wOf rs x).1)) Kp.refl hD)
        refine ⟨_, rfl, _, rfl, d, _, rfl, W5.get ok.nd hr', _, _, _, _, rfl, rfl, SqT.of (W5.row r hr'), rfl, upd_same, by rw [List.length_map, List.length_take, sizeLine_eq]; omega, ⟨_, rfl⟩, ?_, upd_upd⟩
        rw [take_snoc ex, List.map_append]
        show _ = _ ++ [V.int (wOf rs r.1).1]
        rw [wOf_at ok.nd hr']
      · rintro ys τ H5 ⟨_, rfl, rfl⟩
        have eT : L.take (L.map V.str).length = L := by rw [List.length_map, List.take_length]
        rw [eT]
        have fD : Fre H4 D := hD
        have k5 : Kp [] H4 (upd H4 D (.lst (L.map fun x => V.int (wOf rs x).1))) := Kp.new Kp.refl fD
        have e5 : upd H4 D (.lst (L.map fun x => V.int (wOf rs x).1)) D = some (.lst ((L.map fun x => (wOf rs x).1).map V.int)) := by rw [upd_same, List.map_map]; rfl
        generalize upd H4 D (.lst (L.map fun x => V.int (wOf rs x).1)) = H5 at k5 e5
        refine ⟨tl, D, as, L.map fun x => (wOf rs x).1, rfl, R4.kp0 k5, e5, by simpa using cL, fun t ⟨n, hn, hnt⟩ => ?_⟩
        obtain ⟨x0, hx0, rfl⟩ := List.mem_map.mp hn
        have W5 := W4.kp0 k5
        have hL5 := k5 lf _ hL (by simp)
        refine ⟨_, rfl, _, rfl, ⟨_, SqL.of hL5⟩, fun D2 hD2 => comp_list (L.map V.str) (fun i ys τ H6 => (∃ o0, τ = [o0, some (.int t), some (.ref d)]) ∧ ys = ((L.take i).filter fun x => decide ((wOf rs x).1 ≤ t)).map V.str ∧ H6 = upd H5 D2 (.lst ys)) ⟨⟨_, rfl⟩, rfl, rfl⟩ (fun i ys τ H6 ⟨_, _, z⟩ => by subst z; exact SqL.of ((Kp.new (M := []) Kp.refl hD2) _ _ hL5 (by simp))) ?_ ?_⟩
        · rintro i v ys τ H6 hv ⟨⟨o0, rfl⟩, rfl, rfl⟩
          obtain ⟨x, ex, rfl⟩ := str_at hv
          obtain ⟨r, hr', rfl⟩ := hin x (List.mem_of_getElem? ex)
          have W6 := W5.kp0 (Kp.new (M := []) (l := D2) (o := .lst (((L.take i).filter fun x => decide ((wOf rs x).1 ≤ t)).map V.str)) Kp.refl hD2)
          refine ⟨_, rfl, _, rfl, d, _, rfl, W6.get ok.nd hr', _, _, _, _, rfl, rfl, SqT.of (W6.row r hr'), rfl, _, rfl, _, _, rfl, rfl, _, rfl, ?_⟩
          have ew : r.2.2.1 = (wOf rs r.1).1 := by rw [wOf_at ok.nd hr']
          refine ite2 (fun c => ?_) (fun c => ?_)
          · have c : decide ((wOf rs r.1).1 ≤ t) = true := by rw [← ew]; exact c
            refine ⟨_, rfl, upd_same, by rw [List.length_map]; exact filt_len (by omega), ⟨_, rfl⟩, ?_, upd_upd⟩
            rw [filt_yes ex c, List.map_append]; rfl
          · have c : ¬ decide ((wOf rs r.1).1 ≤ t) = true := by rw [← ew]; exact c
            refine ⟨⟨_, rfl⟩, ?_, rfl⟩
            rw [filt_no ex c]
        · rintro ys τ H6 ⟨_, rfl, rfl⟩
          rw [eT]
          have fD2 : Fre H5 D2 := hD2
          have k6 : Kp [] H5 (upd H5 D2 (.lst ((L.filter fun x => decide ((wOf rs x).1 ≤ t)).map V.str))) := Kp.new Kp.refl fD2
          have e6 : upd H5 D2 (.lst ((L.filter fun x => decide ((wOf rs x).1 ≤ t)).map V.str)) D2 = some (.lst ((L.filter fun x => decide ((wOf rs x).1 ≤ t)).map V.str)) := upd_same
          generalize upd H5 D2 (.lst ((L.filter fun x => decide ((wOf rs x).1 ≤ t)).map V.str)) = H6 at k6 e6
          refine ⟨_, rfl, _, rfl, _, _, rfl, SqL.of e6, fun ro hro => ?_⟩
          rw [cut_to _ (by omega), ← List.map_take]
          have fro : Fre H6 ro := hro
          have x0r : x0 ∈ (L.filter fun x => decide ((wOf rs x).1 ≤ t)) := List.mem_filter.mpr ⟨hx0, decide_eq_true hnt⟩
          obtain ⟨row, erow⟩ : ∃ row, (L.filter fun x => decide ((wOf rs x).1 ≤ t)).take b.toNat = row := ⟨_, rfl⟩
          rw [erow]
          have rowL : ∀ x ∈ row, x ∈ L := fun x hx => by rw [← erow] at hx; exact (List.mem_filter.mp (List.mem_of_mem_take hx)).1
          have rowne : row ≠ [] := fun z => by
            rw [z] at erow
            have h1 : 0 < (L.filter fun x => decide ((wOf rs x).1 ≤ t)).length := List.length_pos_of_mem x0r
            have h2 := congrArg List.length erow
            rw [List.length_take, List.length_nil] at h2
            omega
          have k7 : Kp [] H6 (upd H6 ro (.lst (row.map V.str))) := Kp.new Kp.refl fro
          have e7 : upd H6 ro (.lst (row.map V.str)) ro = some (.lst (row.map V.str)) := upd_same
          generalize upd H6 ro (.lst (row.map V.str)) = H7 at k7 e7
          have k47 : Kp [] H4 H7 := (k5.trans k6).trans k7
          have R7 := R4.kp0 k47
          refine ⟨_, rfl, .inl ⟨rfl, _, SqL.of R7.top⟩, _, rfl, _, rfl, (by walk_at "ln"), fun tu htu => ?_⟩
          have ftu : Fre H7 tu := htu
          have k8 : Kp [] H7 (upd H7 tu (.tup [.int t, .ref ro])) := Kp.new Kp.refl ftu
          have e8 : upd H7 tu (.tup [.int t, .ref ro]) tu = some (.tup [.int t, .ref ro]) := upd_same
          generalize upd H7 tu (.tup [.int t, .ref ro]) = H8 at k8 e8
          have R8 := R7.kp0 k8
          refine ⟨_, _, _, rfl, rfl, R8.top, by rw [List.length_map, sizeLine_eq]; omega, ?_⟩
          have k48 : Kp [] H4 H8 := k47.trans k8
          have W8 := W4.kp0 k48
          have hL8 := k48 lf _ hL (by simp)
          have ro8 := k8 ro _ e7 (by simp)
          have TA8 := TA4.kp k48
          obtain ⟨ps8, eT8⟩ := TA8.tbl
          have kA : Kp [tl] H8 (upd H8 tl (.lst (as.map V.ref ++ [.ref tu]))) := Kp.put Kp.refl (by simp)
          have ntu : tu ≠ tl := fun z => by have := R8.top; rw [← z, e8] at this; cases this
          have nas : ∀ a ∈ as, a ≠ tl := fun a ha z => by
            obtain ⟨y, r, e⟩ := R8.row a ha
            rw [z, R8.top] at e; cases e
          have ndt : d ≠ tl := fun z => by have := W8.top; rw [z, R8.top] at this; cases this
          have nrt : ∀ r ∈ rs, r.2.1 ≠ tl := fun r hr' z => by have := W8.row r hr'; rw [z, R8.top] at this; cases this
          have nPt : Pt ≠ tl := fun z => by rw [z, R8.top] at eT8; cases eT8
          have K9 : Kp [Pt] H (upd H8 tl (.lst (as.map V.ref ++ [.ref tu]))) := kp_drop (K4.trans (k48.weak (by simp))) ftl kA
          have R9 : TurnsAt (upd H8 tl (.lst (as.map V.ref ++ [.ref tu]))) tl (as ++ [tu]) := ⟨by rw [upd_same, List.map_append]; rfl, fun a ha => by
            rcases List.mem_append.mp ha with z | z
            · obtain ⟨y, r, e⟩ := R8.row a z
              exact ⟨y, r, kA a _ e (nm1 (nas a z))⟩
            · have : a = tu := by simpa using z
              rw [this]
              exact ⟨t, ro, kA tu _ e8 (nm1 ntu)⟩⟩
          have W9 : WinAt (upd H8 tl (.lst (as.map V.ref ++ [.ref tu]))) d rs := W8.kp kA (nm1 ndt) fun r hr' => nm1 (nrt r hr')
          have TA9 : TabA (upd H8 tl (.lst (as.map V.ref ++ [.ref tu]))) Pt := by
            rcases TA8 with e | ⟨c, e, ec⟩
            · exact .inl (kA _ _ e (nm1 nPt))
            · refine .inr ⟨c, kA _ _ e (nm1 nPt), kA _ _ ec (nm1 fun z => by rw [z, R8.top] at ec; cases ec)⟩
          have nlt : lf ≠ tl ∨ lf = tl := by
            by_cases z : lf = tl
            · exact .inr z
            · exact .inl z
          have nlf : lf ≠ tl := by
            intro z
            have h1 := R8.top
            rw [← z, hL8] at h1
            have h2 := HO.lst.inj (Option.some.inj h1)
            cases L with
            | nil => exact cL rfl
            | cons y l =>
              cases as with
              | nil => simp at h2
              | cons a as' => simp at h2
          have nrl : ro ≠ tl := by
            intro z
            have h1 := R8.top
            rw [← z, ro8] at h1
            have h2 := HO.lst.inj (Option.some.inj h1)
            cases row with
            | nil => exact rowne rfl
            | cons y l =>
              cases as with
              | nil => simp at h2
              | cons a as' => simp at h2
          have hL9 : Txs (upd H8 tl (.lst (as.map V.ref ++ [.ref tu]))) lf L := kA lf _ hL8 (nm1 nlf)
          have ro9 := kA ro _ ro8 (nm1 nrl)
          generalize upd H8 tl (.lst (as.map V.ref ++ [.ref tu])) = H9 at K9 R9 W9 TA9 hL9 ro9
          refine ⟨_, rfl, _, rfl, ⟨_, SqL.of hL9⟩, fun D3 hD3 => comp_list (L.map V.str) (fun i ys τ H10 => (∃ o0, τ = [o0, some (.ref ro)]) ∧ ys = ((L.take i).filter fun x => decide (x ∉ row)).map V.str ∧ H10 = upd H9 D3 (.lst ys)) ⟨⟨_, rfl⟩, rfl, rfl⟩ (fun i ys τ H10 ⟨_, _, z⟩ => by subst z; exact SqL.of ((Kp.new (M := []) Kp.refl hD3) _ _ hL9 (by simp))) ?_ ?_⟩
          · rintro i v ys τ H10 hv ⟨⟨o0, rfl⟩, rfl, rfl⟩
            obtain ⟨x, ex, rfl⟩ := str_at hv
            have ro10 := (Kp.new (M := []) (l := D3) (o := .lst (((L.take i).filter fun x => decide (x ∉ row)).map V.str)) Kp.refl hD3) _ _ ro9 (by simp)
            refine ⟨_, rfl, _, rfl, _, _, rfl, .inl (SqL.of ro10), by simp [flatV], flat_strs row, _, rfl, ?_⟩
            rw [inV_str]
            refine ite2 (fun c => ?_) (fun c => ?_)
            · have c : decide (x ∉ row) = true := by simpa using c
              refine ⟨_, rfl, upd_same, by rw [List.length_map]; exact filt_len (by omega), ⟨_, rfl⟩, ?_, upd_upd⟩
              rw [filt_yes ex c, List.map_append]; rfl
            · have c : ¬ decide (x ∉ row) = true := by simpa using c
              refine ⟨⟨_, rfl⟩, ?_, rfl⟩
              rw [filt_no ex c]
          · rintro ys τ H10 ⟨_, rfl, rfl⟩
            rw [eT]
            have fD3 : Fre H9 D3 := hD3
            have k10 : Kp [] H9 (upd H9 D3 (.lst ((L.filter fun x => decide (x ∉ row)).map V.str))) := Kp.new Kp.refl fD3
            have less : (L.filter fun x => decide (x ∉ row)).length < L.length := by
              obtain ⟨y, hy⟩ := List.exists_mem_of_ne_nil row rowne
              exact filt_lt (rowL y hy) (by simp [hy])
            refine ⟨⟨D3, L.filter fun x => decide (x ∉ row), as ++ [tu], _, _, rfl, K9.trans (k10.weak (by simp)), TA9.kp k10, W9.kp0 k10, upd_same, fun x hx => hin x (List.mem_filter.mp hx).1, R9.kp0 k10, by rw [List.length_append, List.length_singleton]; omega⟩, ?_⟩
            show lenAt 3 _ (upd H9 D3 (.lst ((L.filter fun x => decide (x ∉ row)).map V.str))) < lenAt 3 _ H4
            have l1 : lenAt 3 [some (.int b), some (.ref d), some (.ref tl), some (.ref lf), o4, o5] H4 = L.length := by
              show (match H4 lf with | some (.lst xs) => xs.length | _ => 0) = _
              rw [show H4 lf = _ from hL]
              show (L.map V.str).length = _
              rw [List.length_map]
            have l2 : ∀ σ : St, σ[3]? = some (some (.ref D3)) → lenAt 3 σ (upd H9 D3 (.lst ((L.filter fun x => decide (x ∉ row)).map V.str))) = (L.filter fun x => decide (x ∉ row)).length := fun σ hσ => by
              unfold lenAt
              rw [hσ]
              show (match (upd H9 D3 (.lst ((L.filter fun x => decide (x ∉ row)).map V.str))) D3 with | some (.lst xs) => xs.length | _ => 0) = _
              rw [upd_same]
              show (((L.filter fun x => decide (x ∉ row)).map V.str)).length = _
              rw [List.length_map]
            rw [l1, l2 _ rfl]
            exact less
    · exact ⟨_, rfl, k tl H4 K4 TA4⟩
def Told (b : Int) (rs : List Wn) (H : Hp) (t : Addr) : Prop := (crowdB b rs = true ∧ ∃ (l : Addr) (s e : Int), H t = some (.tup [.str "crowd", .int s, .int e, .ref l]) ∧ H l = some (.lst ((rowW rs s e).map fun r => V.str r.1)) ∧ ((rowW rs s e).length : Int) > b * mx (e - s + 1)) ∨ (crowdB b rs = false ∧ ∃ l : Addr, H t = some (.tup [.str "plan", .ref l]))
def spWindowed (Pt : Addr) : Sp := fun vs H Q _ => ∃ (b : Int) (d : Addr) (rs : List Wn), vs = [.int b, .ref d] ∧ WinAt H d rs ∧ WinOk (10 ^ 80) rs ∧ 1 ≤ b ∧ b < 10 ^ 80 ∧ TabA H Pt ∧ ∀ (t : Addr) (H' : Hp), Kp [Pt] H H' → TabA H' Pt → Told b rs H' t → Q (.ref t) H'
abbrev s_windowed : Stmt := top 14
theorem sc_windowed : FnScope ["benches", "windows", "crowd"] ["benches", "windows"] (defScope s_windowed) := ⟨rfl, rfl, rfl, by decide +kernel, rfl, by decide +kernel, by decide +kernel⟩
theorem ok_windowed {f Pt : Addr} {fd : FuncData} (F : Fun K "windowed" "windowed" s_windowed f fd) (C_check_benches : Cal P w K mg base "check_benches" 2 ["benches"] spCheckB) (C_check_windows : Cal P w K mg base "check_windows" 3 ["windows"] spCheckW) (C_find_crowd : Cal P w K mg base "find_crowd" 1 ["benches", "windows"] spFind) (C_soon : Cal P w K mg base "soonest_end_first" 4 ["benches", "windows"] (spSoon Pt)) : FnOk P w K mg base CX0 5 f fd ["benches", "windows"] (spWindowed Pt) := by
  refine F.ok sc_windowed (fun vs H Q E h => ?_) (fun cdv A outer s H vs Q E hr h => ?_)
  · obtain ⟨b, d, rs, rfl, _⟩ := h
    rfl
  · obtain ⟨b, d, rs, rfl, hd, ok, b1, b2, T0, k⟩ := h
    have hr1 := hr.mono (j := 1) (by decide)
    have hr2 := hr.mono (j := 2) (by decide)
    have hr3 := hr.mono (j := 3) (by decide)
    refine ⟨_, (pss_cons (ps_expr (pe_callC C_check_benches hr2 rfl (pa_cons (pv 0) pa_nil)))
      (pss_cons (ps_expr (pe_callC C_check_windows hr3 rfl (pa_cons (pv 1) pa_nil)))
      (pss_cons (ps_set (i := 2) sc_windowed.nd rfl (by walk_at "lc") (pe_callC C_find_crowd hr1 rfl (pa_cons (pv 0) (pa_cons (pv 1) pa_nil))))
      (pss_cons (ps_if (pt_cmpR op_notN (pv 2) pe_non (nomark _))
        (pss_one (ps_ret (pv 2)))
        pss_nil)
      (pss_one (ps_ret (pe_tup (pa_cons pe_str (pa_cons (pe_callC C_soon hr rfl (pa_cons (pv 0) (pa_cons (pv 1) pa_nil))) pa_nil))))))))), ?_⟩
    refine ⟨_, rfl, b, rfl, b1, ?_⟩
    refine ⟨_, rfl, d, rs, 10 ^ 80, rfl, hd, ok, fun H1 k1 => ?_⟩
    have W1 := hd.kp0 k1
    have T1 := T0.kp k1
    refine ⟨_, rfl, _, rfl, b, d, rs, rfl, W1, ok, b1, b2, fun cb H2 k2 => ?_, fun cb t l s' e' H2 k2 ht hl hlen => ?_⟩
    · refine ⟨_, rfl, rfl, _, rfl, iteF ?_⟩
      refine ⟨_, rfl, _, rfl, b, d, rs, rfl, W1.kp0 k2, ok, b1, T1.kp k2, fun l H3 k3 T3 => ?_⟩
      refine ⟨(by walk_at "ln"), fun t ht => ?_⟩
      have ft : Fre H3 t := ht
      have k4 : Kp [] H3 (upd H3 t (.tup [.str "plan", .ref l])) := Kp.new Kp.refl ft
      exact k t _ ((((k1.trans k2).weak (by simp)).trans k3).trans (k4.weak (by simp))) (T3.kp k4) (.inr ⟨cb, l, upd_same⟩)
    · refine ⟨_, rfl, rfl, _, rfl, iteT ?_⟩
      exact ⟨_, rfl, k t H2 ((k1.trans k2).weak (by simp)) (T1.kp k2) (.inl ⟨cb, l, s', e', ht, hl, hlen⟩)⟩
end
end My
set_option Elab.async false
set_option linter.all false
set_option maxRecDepth 100000
set_option maxHeartbeats 4000000
namespace My
open PySem L2
theorem nxp_mid {t u : TS} {D : Ends} {r : V → Hp → Prop} {b c : St → Hp → Prop} {σ : St} {H : Hp} (Mid : St → Hp → Prop) (h1 : ∀ N : St → Hp → Prop, (∀ σ H, Mid σ H → N σ H) → t { D with nx := N } σ H) (h2 : ∀ σ H, Mid σ H → u D σ H) : Ends.nx { nx := tSeq t u D, rt := r, bk := b, ct := c } σ H := seq_mid Mid h1 h2
theorem WinAt.kpP {H H' : Hp} {d p : Addr} {rs : List Wn} (h : WinAt H d rs) (k : Kp [p] H H') (hp : Purse H p) : WinAt H' d rs := by
  obtain ⟨a, b, e, _⟩ := hp
  exact h.kp k (nm1 fun z => by have := h.top; rw [z, e] at this; cases this) fun r hr => nm1 fun z => by have := h.row r hr; rw [z, e] at this; cases this
theorem putW_app {rs : List Wn} {x : Str} {a : Addr} {s e : Int} (h : x ∉ rs.map (·.1)) : putK (kvW rs) (Sum.inr x) (.ref a) = kvW (rs ++ [(x, a, s, e)]) := by
  unfold putK
  rw [if_neg]
  · simp [kvW]
  · rw [List.any_eq_true]
    rintro ⟨y, hy, e⟩
    have e := of_decide_eq_true e
    unfold kvW at hy
    obtain ⟨q, hq, rfl⟩ := List.mem_map.mp hy
    exact h (List.mem_map.mpr ⟨q, hq, Sum.inr.inj e⟩)
theorem WinAt.put {H : Hp} {d a : Addr} {rs : List Wn} {x : Str} {s e : Int} (h : WinAt H d rs) (ha : H a = some (.tup [.int s, .int e])) : WinAt (upd H d (.dK (kvW (rs ++ [(x, a, s, e)])))) d (rs ++ [(x, a, s, e)]) := by
  refine ⟨upd_same, fun r hr => ?_⟩
  have nd : ∀ b xs, H b = some (.tup xs) → b ≠ d := fun b xs q z => by rw [z, h.top] at q; cases q
  rcases List.mem_append.mp hr with z | z
  · rw [upd_ne (nd _ _ (h.row r z))]; exact h.row r z
  · have : r = (x, a, s, e) := by simpa using z
    subst this
    rw [upd_ne (nd _ _ ha)]; exact ha
section
variable {P : Program} {w : World} {K : PySem.W.Frag} {mg : Str → Option Value} {base : Heap}
theorem six_at {d : Int} (h0 : 0 ≤ d) (h1 : d < 6) : ∃ z : Int, atI [V.int 100, V.int (10 ^ (6 : Int).toNat), V.int (10 ^ (12 : Int).toNat), V.int (10 ^ (18 : Int).toNat), V.int (10 ^ (30 : Int).toNat), V.int (10 ^ (58 : Int).toNat)] d = some (V.int z) ∧ 0 ≤ z ∧ z ≤ 10 ^ 58 := by
  have : d = 0 ∨ d = 1 ∨ d = 2 ∨ d = 3 ∨ d = 4 ∨ d = 5 := by omega
  rcases this with rfl | rfl | rfl | rfl | rfl | rfl
  · exact ⟨100, rfl, by decide, by decide +kernel⟩
  · exact ⟨_, rfl, by decide +kernel, by decide +kernel⟩
  · exact ⟨_, rfl, by decide +kernel, by decide +kernel⟩
  · exact ⟨_, rfl, by decide +kernel, by decide +kernel⟩
  · exact ⟨_, rfl, by decide +kernel, by decide +kernel⟩
  · exact ⟨_, rfl, by decide +kernel, by decide +kernel⟩
def spFar : Sp := fun vs H Q _ => ∃ p : Addr, vs = [.ref p] ∧ Purse H p ∧ ∀ (z : Int) (H' : Hp), z.natAbs < 10 ^ 62 → Purse H' p → Kp [p] H H' → Q (.int z) H'
abbrev s_far : Stmt := top 24
theorem sc_far : FnScope ["_law_purse_here", "_law_size"] ["_law_purse_here"] (defScope s_far) := ⟨rfl, rfl, rfl, by decide +kernel, rfl, by decide +kernel, by decide +kernel⟩
theorem ok_far {f : Addr} {fd : FuncData} (F : Fun K "_law_far" "_law_far" s_far f fd) (C_take : Cal P w K mg base "_law_take" 1 ["_law_purse_here", "_law_many"] spTake) : FnOk P w K mg base CX0 2 f fd ["_law_purse_here"] spFar := by
  refine F.ok sc_far (fun vs H Q E h => ?_) (fun cdv A outer s H vs Q E hr h => ?_)
  · obtain ⟨p, rfl, _⟩ := h
    rfl
  · obtain ⟨p, rfl, hP, k⟩ := h
    have HR_take := hr
    refine ⟨_, (pss_cons (ps_if (pt_cmpR op_eq (pe_callC C_take HR_take rfl (pa_cons (pv 0) (pa_cons pe_int pa_nil))) pe_int (nomark _))
        (pss_one (ps_ret (pe_op op_sub (pe_callC C_take HR_take rfl (pa_cons (pv 0) (pa_cons (pe_op op_mul pe_int (pe_op op_pow pe_int pe_int)) pa_nil))) (pe_op op_pow pe_int pe_int))))
        pss_nil)
      (pss_cons (ps_set (i := 1) sc_far.nd rfl (by walk_at "lc") (pe_ix ix_list (pe_lst (pa_c pe_int (pa_c (pe_op op_pow pe_int pe_int) (pa_c (pe_op op_pow pe_int pe_int) (pa_c (pe_op op_pow pe_int pe_int) (pa_c (pe_op op_pow pe_int pe_int) (pa_c (pe_op op_pow pe_int pe_int) pa_nil))))))) (pe_callC C_take HR_take rfl (pa_cons (pv 0) (pa_cons pe_int pa_nil))) (fun _ _ => rfl)))
      (pss_one (ps_ret (pe_op op_mul (pe_op op_sub (pe_callC C_take HR_take rfl (pa_cons (pv 0) (pa_cons pe_int pa_nil))) pe_int) (pv 1)))))), ?_⟩
    refine ⟨_, rfl, p, 2, rfl, hP, by decide, by decide, fun d1 H1 a0 a1 P1 K1 => ?_⟩
    refine ⟨rfl, _, rfl, ?_⟩
    refine ite2 (fun c => ?_) (fun c => ?_)
    · refine ⟨_, rfl, _, _, rfl, rfl, ⟨by decide, by decide, by decide⟩, _, _, rfl, rfl, (by walk_at "ml"), p, _, rfl, P1, by decide +kernel, by decide +kernel, fun d2 H2 b0 b1 P2 K2 => ?_⟩
      refine ⟨_, _, rfl, rfl, ⟨by decide, by decide, by decide⟩, _, _, rfl, rfl, k _ H2 ?_ P2 (K1.trans K2)⟩
      have b1 : d2 < 2 * 10 ^ 59 := b1
      have t : (10 : Int) ^ (59 : Int).toNat = 10 ^ 59 := rfl
      rw [t]
      have t1 : (2 * 10 ^ 59 : Int) < 10 ^ 62 := by decide +kernel
      have t2 : (0 : Int) < 10 ^ 59 := by decide +kernel
      omega
    · refine ⟨_, _, rfl, rfl, ⟨by decide, by decide, by decide⟩, _, _, rfl, rfl, ⟨by decide, by decide, by decide⟩, _, _, rfl, rfl, ⟨by decide, by decide, by decide⟩, _, _, rfl, rfl, ⟨by decide, by decide, by decide⟩, _, _, rfl, rfl, ⟨by decide, by decide, by decide⟩, (by walk_at "ln"), fun b hb => ?_⟩
      have fb : Fre H1 b := hb
      have KB : Kp [] H1 (upd H1 b (.lst [.int 100, .int (10 ^ (6 : Int).toNat), .int (10 ^ (12 : Int).toNat), .int (10 ^ (18 : Int).toNat), .int (10 ^ (30 : Int).toNat), .int (10 ^ (58 : Int).toNat)])) := Kp.new Kp.refl fb
      have hbb : upd H1 b (.lst [.int 100, .int (10 ^ (6 : Int).toNat), .int (10 ^ (12 : Int).toNat), .int (10 ^ (18 : Int).toNat), .int (10 ^ (30 : Int).toNat), .int (10 ^ (58 : Int).toNat)]) b = _ := upd_same
      have nbp : b ≠ p := by obtain ⟨x, y, e, _⟩ := P1; exact (ne_fre fb e).symm
      generalize upd H1 b (.lst [.int 100, .int (10 ^ (6 : Int).toNat), .int (10 ^ (12 : Int).toNat), .int (10 ^ (18 : Int).toNat), .int (10 ^ (30 : Int).toNat), .int (10 ^ (58 : Int).toNat)]) = H2 at KB hbb
      have P2 : Purse H2 p := P1.kp KB (by simp)
      refine ⟨_, rfl, p, 6, rfl, P2, by decide, by decide, fun d2 H3 b0 b1 P3 K3 => ?_⟩
      obtain ⟨z, e6, z0, z1⟩ := six_at b0 b1
      refine ⟨_, _, _, _, rfl, rfl, SqL.of (K3 b _ hbb (nm1 nbp)), e6, ?_⟩
      refine ⟨_, rfl, p, 19, rfl, P3, by decide, by decide, fun d3 H4 c0 c1 P4 K4 => ?_⟩
      refine ⟨_, _, rfl, rfl, _, rfl, _, _, rfl, rfl, .inl ⟨by omega, by omega⟩, k _ H4 ?_ P4 (((K1.trans (KB.weak (by simp))).trans K3).trans K4)⟩
      rw [Int.natAbs_mul]
      have h1 : (d3 - 9).natAbs ≤ 9 := by omega
      have h2 : z.natAbs ≤ 10 ^ 58 := by omega
      have h3 : (d3 - 9).natAbs * z.natAbs ≤ 9 * 10 ^ 58 := Nat.mul_le_mul h1 h2
      exact Nat.lt_of_le_of_lt h3 (by decide +kernel)
end
end My
set_option Elab.async false
set_option linter.all false
set_option maxRecDepth 100000
set_option maxHeartbeats 4000000
namespace My
open PySem L2
section
variable {P : Program} {w : World} {K : PySem.W.Frag} {mg : Str → Option Value} {base : Heap}
structure PAI (X : Cx) (es : List Expr) (t : TA) : Prop where
  to : PA X es t
theorem pai_nil {X : Cx} : PAI X [] tNil := ⟨pa_nil⟩
theorem pai_c {X : Cx} {e : Expr} {es : List Expr} {te : TE} {t : TA} (ha : PE X e te) (hr : PAI X es t) (hs : notStar e = true := by rfl) : PAI X (e :: es) (tCons te t) := ⟨pa_cons ha hr.to (star_cons hs)⟩
theorem pe_lstI {X : Cx} {es : List Expr} {t : TA} {pos : Pos} (h : PAI X es t) : PE X (.List es pos) (tLst t) := pe_lst h.to
theorem wide_at {d : Int} (h0 : 0 ≤ d) (h1 : d < 8) : ∃ z : Int, atI [V.int 2, V.int 2, V.int 4, V.int 4, V.int 8, V.int 8, V.int 20, V.int (10 ^ (58 : Int).toNat)] d = some (V.int z) ∧ 0 ≤ z ∧ z ≤ 10 ^ 58 := by
  have : d = 0 ∨ d = 1 ∨ d = 2 ∨ d = 3 ∨ d = 4 ∨ d = 5 ∨ d = 6 ∨ d = 7 := by omega
  rcases this with rfl | rfl | rfl | rfl | rfl | rfl | rfl | rfl
  · exact ⟨2, rfl, by decide, by decide +kernel⟩
  · exact ⟨2, rfl, by decide, by decide +kernel⟩
  · exact ⟨4, rfl, by decide, by decide +kernel⟩
  · exact ⟨4, rfl, by decide, by decide +kernel⟩
  · exact ⟨8, rfl, by decide, by decide +kernel⟩
  · exact ⟨8, rfl, by decide, by decide +kernel⟩
  · exact ⟨20, rfl, by decide, by decide +kernel⟩
  · exact ⟨_, rfl, by decide +kernel, by decide +kernel⟩
theorem four_at {z d : Int} (h0 : 0 ≤ d) (h1 : d < 4) (hz : z.natAbs < 10 ^ 62) : ∃ b : Int, atI [V.int 0, V.int 0, V.int 0, V.int z] d = some (V.int b) ∧ b.natAbs < 10 ^ 62 := by
  have t : (0 : Int).natAbs < 10 ^ 62 := by decide +kernel
  have : d = 0 ∨ d = 1 ∨ d = 2 ∨ d = 3 := by omega
  rcases this with rfl | rfl | rfl | rfl
  · exact ⟨0, rfl, t⟩
  · exact ⟨0, rfl, t⟩
  · exact ⟨0, rfl, t⟩
  · exact ⟨z, rfl, hz⟩
theorem three_at {d : Int} (h0 : 0 ≤ d) (h1 : d < 3) : ∃ b : Int, atI [V.int 3, V.int 8, V.int 24] d = some (V.int b) ∧ 1 ≤ b ∧ b ≤ 24 := by
  have : d = 0 ∨ d = 1 ∨ d = 2 := by omega
  rcases this with rfl | rfl | rfl
  · exact ⟨3, rfl, by decide, by decide⟩
  · exact ⟨8, rfl, by decide, by decide⟩
  · exact ⟨24, rfl, by decide, by decide⟩
def spLWin : Sp := fun vs H Q _ => ∃ p : Addr, vs = [.ref p] ∧ Purse H p ∧ ∀ (d : Addr) (rs : List Wn) (H' : Hp), WinAt H' d rs → WinOk (10 ^ 70) rs → Purse H' p → Kp [p] H H' → Q (.ref d) H'
abbrev s_windows : Stmt := top 25
theorem sc_windows : FnScope ["_law_purse_here", "_law_far_here", "_law_wide", "_law_apart", "_law_windows_here", "_law_name", "_law_start", "_law_end"] ["_law_purse_here"] (defScope s_windows) := ⟨rfl, rfl, rfl, by decide +kernel, rfl, by decide +kernel, by decide +kernel⟩
theorem ok_windows {f : Addr} {fd : FuncData} (F : Fun K "_law_windows" "_law_windows" s_windows f fd) (C_take : Cal P w K mg base "_law_take" 1 ["_law_purse_here", "_law_many"] spTake) (C_names : Cal P w K mg base "_law_names" 2 ["_law_purse_here", "_law_many"] spLNames) (C_far : Cal P w K mg base "_law_far" 2 ["_law_purse_here"] spFar) : FnOk P w K mg base CX0 3 f fd ["_law_purse_here"] spLWin := by
  refine F.ok sc_windows (fun vs H Q E h => ?_) (fun cdv A outer s H vs Q E hr h => ?_)
  · obtain ⟨p, rfl, _⟩ := h
    rfl
  · obtain ⟨p, rfl, hP, k⟩ := h
    have HR_take := hr.mono (j := 1) (by decide)
    have HR_names := hr
    have HR_far := hr
    have hu := hu_of hr
    refine ⟨_, (@pss_cons _ _ _ _ _ (@ps_set _ _ 1 _ _ _ _ (by exact sc_windows.nd) (by rfl) (by walk_at "lc") (@pe_ix _ _ _ _ _ _ _ ix_list (@pe_lstI _ _ _ _ (pai_c pe_int (pai_c pe_int (pai_c pe_int (pai_c (by exact (pe_callC C_far HR_far rfl (pa_cons (pv 0) pa_nil))) pai_nil))))) (by exact (pe_callC C_take HR_take rfl (pa_cons (pv 0) (pa_cons pe_int pa_nil)))) (by exact fun _ _ => rfl)) (by rfl) (by first | exact Or.inl rfl | exact Or.inr rfl))
      (@pss_cons _ _ _ _ _ (@ps_set _ _ 2 _ _ _ _ (by exact sc_windows.nd) (by rfl) (by walk_at "lc") (@pe_ix _ _ _ _ _ _ _ ix_list (@pe_lstI _ _ _ _ (pai_c pe_int (pai_c pe_int (pai_c pe_int (pai_c pe_int (pai_c pe_int (pai_c pe_int (pai_c pe_int (pai_c (by exact (pe_op op_pow pe_int pe_int)) pai_nil))))))))) (by exact (pe_callC C_take HR_take rfl (pa_cons (pv 0) (pa_cons pe_int pa_nil)))) (by exact fun _ _ => rfl)) (by rfl) (by first | exact Or.inl rfl | exact Or.inr rfl)) (by exact
      (pss_cons (ps_set (i := 3) sc_windows.nd rfl (by walk_at "lc") (pe_cmpR op_eq (pe_callC C_take HR_take rfl (pa_cons (pv 0) (pa_cons pe_int pa_nil))) pe_int (nomark _)))
      (pss_cons (ps_set (i := 4) sc_windows.nd rfl (by walk_at "lc") pe_dnewK)
      (pss_cons (ps_for PassesOwn.never rfl (pi_list (pe_callC C_names HR_names rfl (pa_cons (pv 0) (pa_cons (pe_callC C_take HR_take rfl (pa_cons (pv 0) (pa_cons pe_int pa_nil))) pa_nil)))) (pg_name (i := 5) sc_windows.nd rfl (by walk_at "lc"))
        (pss_cons (ps_set (i := 6) sc_windows.nd rfl (by walk_at "lc") (pe_op op_add (pv 1) (pe_callC C_take HR_take rfl (pa_cons (pv 0) (pa_cons (pe_ix ix_list (pe_lstI (pai_c pe_int (pai_c pe_int (pai_c pe_int pai_nil)))) (pe_callC C_take HR_take rfl (pa_cons (pv 0) (pa_cons pe_int pa_nil))) (fun _ _ => rfl)) pa_nil)))))
        (pss_cons (ps_if (PW.pt (pw_and (pt_val (pv 3)) (pw_and1 (pt_cmpR op_eq (pe_callC C_take HR_take rfl (pa_cons (pv 0) (pa_cons pe_int pa_nil))) pe_int (nomark _)))))
          (pss_one (ps_set (i := 6) sc_windows.nd rfl (by walk_at "lc") (pe_callC C_far HR_far rfl (pa_cons (pv 0) pa_nil))))
          pss_nil)
        (pss_cons (ps_set (i := 7) sc_windows.nd rfl (by walk_at "lc") (pe_op op_add (pv 6) (pe_callC C_take HR_take rfl (pa_cons (pv 0) (pa_cons (pe_op op_add (pv 2) pe_int) pa_nil)))))
        (pss_cons (ps_if (pt_cmpR op_eq (pe_callC C_take HR_take rfl (pa_cons (pv 0) (pa_cons pe_int pa_nil))) pe_int (nomark _))
          (pss_one (ps_set (i := 7) sc_windows.nd rfl (by walk_at "lc") (pe_op op_sub (pe_op op_sub (pv 6) pe_int) (pe_callC C_take HR_take rfl (pa_cons (pv 0) (pa_cons pe_int pa_nil))))))
          pss_nil)
        (pss_one (ps_dput hu (pv 4) (pv 5) (pe_tup (pa_cons (pv 6) (pa_cons (pv 7) pa_nil))) rfl)))))))
      (pss_one (ps_ret (pv 4))))))))), ?_⟩
    refine ⟨_, rfl, p, rfl, hP, fun z H1 hz P1 K1 => ?_⟩
    refine ⟨(by walk_at "ln"), fun b hb => ?_⟩
    have fb : Fre H1 b := hb
    have KB : Kp [] H1 (upd H1 b (.lst [.int 0, .int 0, .int 0, .int z])) := Kp.new Kp.refl fb
    have hbb : upd H1 b (.lst [.int 0, .int 0, .int 0, .int z]) b = _ := upd_same
    have nbp : b ≠ p := by obtain ⟨x, y, e, _⟩ := P1; exact (ne_fre fb e).symm
    generalize upd H1 b (.lst [.int 0, .int 0, .int 0, .int z]) = H2 at KB hbb
    refine ⟨_, rfl, p, 4, rfl, P1.kp KB (by simp), by decide, by decide, fun d1 H3 a0 a1 P3 K3 => ?_⟩
    obtain ⟨fh, e4, fh1⟩ := four_at a0 a1 hz
    refine ⟨_, _, _, _, rfl, rfl, SqL.of (K3 b _ hbb (nm1 nbp)), e4, ?_⟩
    have A3 : Kp [p] H H3 := (K1.trans (KB.weak (by simp))).trans K3
    refine ⟨_, _, rfl, rfl, ⟨by decide, by decide, by decide⟩, (by walk_at "ln"), fun b2 hb2 => ?_⟩
    have fb2 : Fre H3 b2 := hb2
    have KB2 : Kp [] H3 (upd H3 b2 (.lst [.int 2, .int 2, .int 4, .int 4, .int 8, .int 8, .int 20, .int (10 ^ (58 : Int).toNat)])) := Kp.new Kp.refl fb2
    have hbb2 : upd H3 b2 (.lst [.int 2, .int 2, .int 4, .int 4, .int 8, .int 8, .int 20, .int (10 ^ (58 : Int).toNat)]) b2 = _ := upd_same
    have nbp2 : b2 ≠ p := by obtain ⟨x, y, e, _⟩ := P3; exact (ne_fre fb2 e).symm
    generalize upd H3 b2 (.lst [.int 2, .int 2, .int 4, .int 4, .int 8, .int 8, .int 20, .int (10 ^ (58 : Int).toNat)]) = H4 at KB2 hbb2
    refine ⟨_, rfl, p, 8, rfl, P3.kp KB2 (by simp), by decide, by decide, fun d2 H5 a0 a1 P5 K5 => ?_⟩
    obtain ⟨wd, e8, wd0, wd1⟩ := wide_at a0 a1
    refine ⟨_, _, _, _, rfl, rfl, SqL.of (K5 b2 _ hbb2 (nm1 nbp2)), e8, ?_⟩
    refine ⟨_, rfl, p, 4, rfl, P5, by decide, by decide, fun d3 H6 a0 a1 P6 K6 => ?_⟩
    refine ⟨rfl, ?_⟩
    have A6 : Kp [p] H H6 := ((A3.trans (KB2.weak (by simp))).trans K5).trans K6
    refine fun d hd => ?_
    have fd' : Fre H6 d := hd
    have fd0 : Fre H d := fre_back P6 A6 fd'
    have npd : p ≠ d := by obtain ⟨x, y, e, _⟩ := P6; exact ne_fre fd' e
    have KD : Kp [] H6 (upd H6 d (.dK [])) := Kp.new Kp.refl fd'
    have hd7 : upd H6 d (.dK []) d = some (.dK []) := upd_same
    generalize upd H6 d (.dK []) = H7 at KD hd7
    have P7 : Purse H7 p := P6.kp KD (by simp)
    refine ⟨_, rfl, _, rfl, p, 21, rfl, P7, by decide, by decide, fun d4 H8 b0 b1 P8 K8 => ?_⟩
    have hd8 := K8 d _ hd7 (nm1 npd.symm)
    refine ⟨p, d4, rfl, P8, b0, by omega, fun l ns H9 fl hl hlen nd nm P9 K9 => ?_⟩
    have hd9 := K9 d _ hd8 (nm1 npd.symm)
    have ndl : d ≠ l := ne_fre fl hd8
    have npl : p ≠ l := by obtain ⟨x, y, e, _⟩ := P8; exact ne_fre fl e
    have A9 : Kp [p] H H9 := ((A6.trans (KD.weak (by simp))).trans K8).trans K9
    have t70 : (10 : Nat) ^ 62 + 2 * 10 ^ 58 + 1000 < 10 ^ 70 := by decide +kernel
    have t100 : (10 : Int) ^ 58 + 2 < 10 ^ 100 := by decide +kernel
    refine ⟨_, rfl, ⟨_, SqL.of hl⟩, for_list (xs := ns.map V.str) (fun i σ H10 => ∃ (rs : List Wn) (ap : Bool) (o5 o6 o7 : Option V), σ = [some (.ref p), some (.int fh), some (.int wd), some (.bl ap), some (.ref d), o5, o6, o7] ∧ Purse H10 p ∧ Kp [p, d] H9 H10 ∧ WinAt H10 d rs ∧ rs.map (·.1) = ns.take i ∧ (∀ r ∈ rs, r.2.2.1.natAbs < 10 ^ 70) ∧ ∀ r ∈ rs, r.2.2.2.natAbs < 10 ^ 70)
      ⟨[], _, none, none, none, rfl, P9, Kp.refl, ⟨hd9, fun _ h => nomatch h⟩, by simp, (fun _ h => nomatch h), (fun _ h => nomatch h)⟩ (fun i σ H10 _ ⟨_, _, _, _, _, _, _, K, _⟩ => SqL.of (K l _ hl (by simp [npl.symm, ndl.symm]))) ?_ ?_⟩
    · rintro i x σ H10 hx ⟨rs, ap, o5, o6, o7, rfl, P10, K10, W10, e10, bs10, be10⟩
      obtain ⟨nm', en, rfl⟩ := str_at hx
      have hi : i < ns.length := (List.getElem?_eq_some_iff.mp en).1
      refine ⟨_, rfl, _, rfl, (by walk_at "ln"), fun b3 hb3 => ?_⟩
      have fb3 : Fre H10 b3 := hb3
      have KB3 : Kp [] H10 (upd H10 b3 (.lst [.int 3, .int 8, .int 24])) := Kp.new Kp.refl fb3
      have hbb3 : upd H10 b3 (.lst [.int 3, .int 8, .int 24]) b3 = _ := upd_same
      have nbp3 : b3 ≠ p := by obtain ⟨x, y, e, _⟩ := P10; exact (ne_fre fb3 e).symm
      generalize upd H10 b3 (.lst [.int 3, .int 8, .int 24]) = H11 at KB3 hbb3
      have P11 := P10.kp KB3 (by simp)
      refine ⟨_, rfl, p, 3, rfl, P11, by decide, by decide, fun d5 H12 c0 c1 P12 K12 => ?_⟩
      obtain ⟨m3, e3, m30, m31⟩ := three_at c0 c1
      refine ⟨_, _, _, _, rfl, rfl, SqL.of (K12 b3 _ hbb3 (nm1 nbp3)), e3, ?_⟩
      refine ⟨p, m3, rfl, P12, m30, lt_big (by omega), fun d6 H13 g0 g1 P13 K13 => ?_⟩
      refine ⟨_, _, rfl, rfl, ?_⟩
      have W13 : WinAt H13 d rs := ((W10.kp0 KB3).kpP K12 P11).kpP K13 P12
      have K1013 : Kp [p] H10 H13 := ((KB3.weak (by simp)).trans K12).trans K13
      refine nxp_mid (fun σ H' => ∃ st : Int, σ = [some (.ref p), some (.int fh), some (.int wd), some (.bl ap), some (.ref d), some (.str nm'), some (.int st), o7] ∧ st.natAbs < 10 ^ 62 + 100 ∧ Purse H' p ∧ Kp [p] H10 H' ∧ WinAt H' d rs) (fun N hN => ?_) ?_
      · refine ⟨_, rfl, _, rfl, ?_⟩
        refine ite2 (fun c => ?_) (fun c => ?_)
        · refine ⟨_, rfl, p, 3, rfl, P13, by decide, by decide, fun d7 H14 g0 g1 P14 K14 => ?_⟩
          have W14 := W13.kpP K14 P13
          refine ⟨rfl, _, rfl, ?_⟩
          refine ite2 (fun c => ?_) (fun c => ?_)
          · refine ⟨_, rfl, p, rfl, P14, fun z2 H15 hz2 P15 K15 => ?_⟩
            exact hN _ _ ⟨z2, rfl, by omega, P15, (K1013.trans K14).trans K15, W14.kpP K15 P14⟩
          · exact hN _ _ ⟨fh + d6, rfl, by omega, P14, K1013.trans K14, W14⟩
        · exact hN _ _ ⟨fh + d6, rfl, by omega, P13, K1013, W13⟩
      rintro σ H14 ⟨st, rfl, hst, P14, K14, W14⟩
      refine ⟨_, rfl, _, rfl, _, rfl, _, _, rfl, rfl, p, wd + 2, rfl, P14, by omega, by omega, fun d7 H15 g0 g1 P15 K15 => ?_⟩
      refine ⟨_, _, rfl, rfl, ?_⟩
      have W15 := W14.kpP K15 P14
      refine nxp_mid (fun σ H' => ∃ en : Int, σ = [some (.ref p), some (.int fh), some (.int wd), some (.bl ap), some (.ref d), some (.str nm'), some (.int st), some (.int en)] ∧ en.natAbs < 10 ^ 70 ∧ Purse H' p ∧ Kp [p] H10 H' ∧ WinAt H' d rs) (fun N hN => ?_) ?_
      · refine ⟨_, rfl, p, 12, rfl, P15, by decide, by decide, fun d8 H16 g2 g3 P16 K16 => ?_⟩
        have W16 := W15.kpP K16 P15
        refine ⟨rfl, _, rfl, ?_⟩
        refine ite2 (fun c => ?_) (fun c => ?_)
        · refine ⟨_, rfl, _, _, rfl, rfl, _, rfl, p, 30, rfl, P16, by decide, by decide, fun d9 H17 g4 g5 P17 K17 => ?_⟩
          exact ⟨_, _, rfl, rfl, hN _ _ ⟨st - 1 - d9, rfl, by omega, P17, ((K14.trans K15).trans K16).trans K17, W16.kpP K17 P16⟩⟩
        · exact hN _ _ ⟨st + d7, rfl, by omega, P16, (K14.trans K15).trans K16, W16⟩
      rintro σ H16 ⟨en', rfl, hen, P16, K16, W16⟩
      refine ⟨_, rfl, _, rfl, (by walk_at "ln"), fun a ha => ?_⟩
      have fa : Fre H16 a := ha
      have k17 : Kp [] H16 (upd H16 a (.tup [.int st, .int en'])) := Kp.new Kp.refl fa
      have e17 : upd H16 a (.tup [.int st, .int en']) a = some (.tup [.int st, .int en']) := upd_same
      generalize upd H16 a (.tup [.int st, .int en']) = H17 at k17 e17
      have W17 := W16.kp0 k17
      have P17 := P16.kp k17 (by simp)
      have nin : nm' ∉ rs.map (·.1) := by
        rw [e10]
        have nd2 : (ns.take (i + 1)).Nodup := nd.sublist (List.take_sublist _ _)
        rw [take_snoc en] at nd2
        exact fun h => (List.nodup_append.mp nd2).2.2 _ h _ (by simp) rfl
      have rl : rs.length = i := by
        have := congrArg List.length e10
        rw [List.length_map, List.length_take] at this; omega
      refine ⟨_, rfl, _, rfl, _, _, rfl, DPut.k (k := Sum.inr nm') W17.top (by rw [kvW_len, sizeLine_eq]; omega), ?_⟩
      rw [putW_app (s := st) (e := en') nin]
      have W18 := W17.put (x := nm') e17
      refine ⟨rs ++ [(nm', a, st, en')], ap, _, _, _, rfl, P17.kp (M := [d]) (Kp.put Kp.refl (by simp)) (nm1 npd), ((K10.trans (K16.weak (by simp))).trans (k17.weak (by simp))).trans (Kp.put Kp.refl (by simp)), W18, by rw [List.map_append, e10, take_snoc en]; rfl, fun r hr' => ?_, fun r hr' => ?_⟩
      · rcases List.mem_append.mp hr' with z | z
        · exact bs10 r z
        · have : r = (nm', a, st, en') := by simpa using z
          rw [this]
          show st.natAbs < _
          omega
      · rcases List.mem_append.mp hr' with z | z
        · exact be10 r z
        · have : r = (nm', a, st, en') := by simpa using z
          rw [this]
          exact hen
    · rintro σ H10 ⟨rs, ap, o5, o6, o7, rfl, P10, K10, W10, e10, bs10, be10⟩
      have eT : ns.take (ns.map V.str).length = ns := by rw [List.length_map, List.take_length]
      rw [eT] at e10
      have rl : rs.length = ns.length := by rw [← e10, List.length_map]
      exact ⟨_, rfl, k d rs H10 W10 ⟨by rw [e10]; exact nd, fun r hr' => nm _ (by rw [← e10]; exact List.mem_map.mpr ⟨r, hr', rfl⟩), bs10, be10, by omega⟩ P10 (kp_drop2 A9 fd0 K10)⟩
end
end My
set_option Elab.async false
set_option linter.all false
set_option maxRecDepth 100000
set_option maxHeartbeats 4000000
namespace My
open PySem L2
section
variable {P : Program} {w : World} {K : PySem.W.Frag} {mg : Str → Option Value} {base : Heap}
def spMoved : Sp := fun vs H Q _ => ∃ (d : Addr) (e l : Int) (rs : List Wn), vs = [.ref d, .int e, .int l] ∧ WinAt H d rs ∧ (rs.map (·.1)).Nodup ∧ rs.length ≤ 20 ∧ ∀ (d' : Addr) (rs' : List Wn) (H' : Hp), Kp [] H H' → WinAt H' d' rs' → rs'.map (·.1) = rs.map (·.1) → rs'.map (·.2.2) = rs.map (fun r => (r.2.2.1 + e, r.2.2.2 + l)) → Q (.ref d') H'
abbrev s_moved : Stmt := top 26
theorem sc_moved : FnScope ["_law_windows_here", "_law_early", "_law_late", "_law_found", "_law_name"] ["_law_windows_here", "_law_early", "_law_late"] (defScope s_moved) := ⟨rfl, rfl, rfl, by decide +kernel, rfl, by decide +kernel, by decide +kernel⟩
theorem ok_moved {f : Addr} {fd : FuncData} (F : Fun K "_law_moved" "_law_moved" s_moved f fd) : FnOk P w K mg base CX0 1 f fd ["_law_windows_here", "_law_early", "_law_late"] spMoved := by
  refine F.ok sc_moved (fun vs H Q E h => ?_) (fun cdv A outer s H vs Q E hr h => ?_)
  · obtain ⟨d, e, l, rs, rfl, _⟩ := h
    rfl
  · obtain ⟨d, ea, la, rs, rfl, hd, nd, rl, k⟩ := h
    have hu := hu_of hr
    refine ⟨_, (pss_cons (ps_set (i := 3) sc_moved.nd rfl (by walk_at "lc") pe_dnewK)
      (pss_cons (ps_frz (ps_for PassesOwn.never rfl (pi_keys (pv 0)) (pg_name (i := 4) sc_moved.nd rfl (by walk_at "lc"))
        (pss_one (ps_dput hu (pv 3) (pv 4) (pe_tup (pa_cons (pe_op op_add (pe_ix ix_tup (pe_dget hu (pv 0) (pv 4) (fun _ _ => rfl)) pe_int (fun _ _ => rfl)) (pv 1)) (pa_cons (pe_op op_add (pe_ix ix_tup (pe_dget hu (pv 0) (pv 4) (fun _ _ => rfl)) pe_int (fun _ _ => rfl)) (pv 2)) pa_nil))) rfl))))
      (pss_one (ps_ret (pv 3))))), ?_⟩
    refine fun fo hfo => ?_
    have ffo : Fre H fo := hfo
    have k1 : Kp [] H (upd H fo (.dK [])) := Kp.new Kp.refl ffo
    have e1 : upd H fo (.dK []) fo = some (.dK []) := upd_same
    have nfd : d ≠ fo := ne_fre ffo hd.top
    generalize upd H fo (.dK []) = H1 at k1 e1
    have W1 := hd.kp0 k1
    refine ⟨d, kvW rs, W1.top, fun o => ?_⟩
    have Z1 := W1.fz o
    have kf : Kp [d] H1 (upd H1 d (.frz o (.dK (kvW rs)))) := Kp.put Kp.refl (by simp)
    have e2 := kf fo _ e1 (nm1 nfd.symm)
    generalize upd H1 d (.frz o (.dK (kvW rs))) = H2 at kf Z1 e2
    refine ⟨_, rfl, d, o, kvW rs, rfl, Z1.top, for_keys (fun i σ H3 => ∃ (rs' : List Wn) (o4 : Option V), σ = [some (.ref d), some (.int ea), some (.int la), some (.ref fo), o4] ∧ Kp [fo] H2 H3 ∧ WinFz H3 d o rs ∧ WinAt H3 fo rs' ∧ rs'.map (·.1) = (rs.take i).map (·.1) ∧ rs'.map (·.2.2) = (rs.take i).map (fun r => (r.2.2.1 + ea, r.2.2.2 + la))) ⟨[], none, rfl, Kp.refl, Z1, ⟨e2, fun _ h => nomatch h⟩, by simp, by simp⟩ (fun i σ H3 _ ⟨_, _, _, _, Z, _⟩ => Z.top) ?_ ?_⟩
    · rintro i kk v σ H3 hv ⟨rs', o4, rfl, k3, Z3, W3, en3, ev3⟩
      obtain ⟨r, ei, rfl, rfl⟩ := kvW_at hv
      have mr : r ∈ rs := List.mem_of_getElem? ei
      refine ⟨_, rfl, _, rfl, d, _, rfl, Z3.get nd mr, _, _, _, _, rfl, rfl, SqT.of (Z3.row r mr), rfl, _, rfl, _, _, rfl, rfl, _, rfl, _, rfl, d, _, rfl, Z3.get nd mr, _, _, _, _, rfl, rfl, SqT.of (Z3.row r mr), rfl, _, rfl, _, _, rfl, rfl, (by walk_at "ln"), fun a ha => ?_⟩
      have fa : Fre H3 a := ha
      have k4 : Kp [] H3 (upd H3 a (.tup [.int (r.2.2.1 + ea), .int (r.2.2.2 + la)])) := Kp.new Kp.refl fa
      have e4 : upd H3 a (.tup [.int (r.2.2.1 + ea), .int (r.2.2.2 + la)]) a = some (.tup [.int (r.2.2.1 + ea), .int (r.2.2.2 + la)]) := upd_same
      generalize upd H3 a (.tup [.int (r.2.2.1 + ea), .int (r.2.2.2 + la)]) = H4 at k4 e4
      have Z4 := Z3.kp0 k4
      have W4 := W3.kp0 k4
      have il : i < rs.length := (List.getElem?_eq_some_iff.mp ei).1
      have rl' : rs'.length = i := by
        have := congrArg List.length en3
        rw [List.length_map, List.length_map, List.length_take] at this; omega
      have nin : r.1 ∉ rs'.map (·.1) := by
        rw [en3]
        have nd2 : ((rs.take (i + 1)).map (·.1)).Nodup := nd.sublist ((List.take_sublist _ _).map _)
        rw [take_snoc ei, List.map_append] at nd2
        exact fun h => (List.nodup_append.mp nd2).2.2 _ h _ (by simp) rfl
      refine ⟨_, rfl, _, rfl, _, _, rfl, DPut.k (k := Sum.inr r.1) W4.top (by rw [kvW_len, sizeLine_eq]; omega), ?_⟩
      rw [putW_app (s := r.2.2.1 + ea) (e := r.2.2.2 + la) nin]
      have kp : Kp [fo] H4 (upd H4 fo (.dK (kvW (rs' ++ [(r.1, a, r.2.2.1 + ea, r.2.2.2 + la)])))) := Kp.put Kp.refl (by simp)
      refine ⟨rs' ++ [(r.1, a, r.2.2.1 + ea, r.2.2.2 + la)], _, rfl, (k3.trans (k4.weak (by simp))).trans kp, ⟨kp d _ Z4.top (nm1 nfd), fun q hq => kp _ _ (Z4.row q hq) (nm1 fun z => by have := Z4.row q hq; rw [z, W4.top] at this; cases this)⟩, W4.put e4, ?_, ?_⟩
      · rw [List.map_append, en3, take_snoc ei, List.map_append]; rfl
      · rw [List.map_append, ev3, take_snoc ei, List.map_append]; rfl
    · rintro σ H3 ⟨rs', o4, rfl, k3, Z3, W3, en3, ev3⟩
      rw [kvW_len, List.take_length] at en3 ev3
      have kz : Kp [d] H3 (upd H3 d (.dK (kvW rs))) := Kp.put Kp.refl (by simp)
      have kA : Kp [d] H H3 := kp_drop ((k1.weak (by simp)).trans kf) ffo k3
      refine ⟨Z3.top, _, rfl, k fo rs' _ (thaw_kp hd.top kA) (W3.kp kz (nm1 nfd.symm) fun q hq => nm1 fun z => ?_) en3 ev3⟩
      have := W3.row q hq
      rw [z, Z3.top] at this; cases this
def twenty : Str := "abcdefghijklmnopqrst"
theorem twenty_list : twenty.cps.toList = (List.range 20).map (97 + ·) := by decide +kernel
theorem twenty_at {i : Nat} (h : i < 20) : atI twenty.cps.toList (0 + (i : Int)) = some (97 + i) := by
  refine atI_at (by omega) ?_
  have : (0 + (i : Int)).toNat = i := by omega
  rw [this, twenty_list, List.getElem?_map, List.getElem?_range h]
  rfl
def keyX (i : Nat) : Str := (⟨#[97 + i]⟩ : Str) ++ "x"
theorem keyX_cps (i : Nat) : (keyX i).cps.toList = [97 + i, 120] := by
  unfold keyX
  rw [Str.cps_append, Array.toList_append]; rfl
theorem keyX_inj (i j : Nat) (h : keyX i = keyX j) : i = j := by
  have := congrArg (fun s : Str => s.cps.toList) h
  simp only [keyX_cps] at this
  simpa using this
def keysX (n : Nat) : List Str := (List.range n).map keyX
theorem keysX_succ (n : Nat) : keysX (n + 1) = keysX n ++ [keyX n] := by unfold keysX; rw [List.range_succ, List.map_append]; rfl
theorem keysX_nd (n : Nat) : (keysX n).Nodup := nd_map keyX_inj List.nodup_range
theorem keysX_ok {n : Nat} (h : n ≤ 20) {x : Str} (hx : x ∈ keysX n) : NameS x := by
  obtain ⟨i, hi, rfl⟩ := List.mem_map.mp hx
  have := List.mem_range.mp hi
  have hl : (keyX i).length = 2 := by
    show (keyX i).cps.size = 2
    rw [← Array.length_toList, keyX_cps]; rfl
  refine ⟨by omega, by omega, fun c hc => ?_⟩
  rw [keyX_cps] at hc
  have : c = 97 + i ∨ c = 120 := by simpa using hc
  omega
def spRenamed : Sp := fun vs H Q _ => ∃ (d : Addr) (rs : List Wn) (B : Nat), vs = [.ref d] ∧ WinAt H d rs ∧ WinOk B rs ∧ ∀ (d' : Addr) (rs' : List Wn) (H' : Hp), Kp [] H H' → WinAt H' d' rs' → WinOk B rs' → (rs'.map (·.2.2)).Perm (rs.map (·.2.2)) → Q (.ref d') H'
abbrev s_renamed : Stmt := top 27
theorem sc_renamed : FnScope ["_law_windows_here", "_law_found", "_law_k", "_law_name"] ["_law_windows_here"] (defScope s_renamed) := ⟨rfl, rfl, rfl, by decide +kernel, rfl, by decide +kernel, by decide +kernel⟩
def rOf (rs : List Wn) (x : Str) : Addr × Int × Int := match rs.find? fun r => decide (r.1 = x) with
  | some r => r.2
  | none => (0, 0, 0)
theorem rOf_at : ∀ {rs : List Wn}, (rs.map (·.1)).Nodup → ∀ {r : Wn}, r ∈ rs → rOf rs r.1 = r.2
  | q :: rs, nd, r, hr => by
    rw [List.map_cons] at nd
    obtain ⟨n1, n2⟩ := List.nodup_cons.mp nd
    unfold rOf
    rw [List.find?_cons]
    rcases List.mem_cons.mp hr with z | z
    · subst z; simp
    · have : q.1 ≠ r.1 := fun e => n1 (by rw [e]; exact List.mem_map.mpr ⟨r, z, rfl⟩)
      rw [decide_eq_false this]
      have := rOf_at n2 z
      unfold rOf at this
      exact this
theorem rOf_perm {rs : List Wn} (nd : (rs.map (·.1)).Nodup) {zs : List Str} (hz : zs.Perm (rs.map (·.1))) : (zs.map (rOf rs)).Perm (rs.map (·.2)) := by
  have := hz.map (rOf rs)
  rw [List.map_map] at this
  have e : rs.map (rOf rs ∘ fun x => x.1) = rs.map (·.2) := List.map_congr_left fun r hr => rOf_at nd hr
  rwa [e] at this
theorem ok_renamed {f : Addr} {fd : FuncData} (F : Fun K "_law_renamed" "_law_renamed" s_renamed f fd) (T : Txt K mg) : FnOk P w K mg base CX0 1 f fd ["_law_windows_here"] spRenamed := by
  refine F.ok sc_renamed (fun vs H Q E h => ?_) (fun cdv A outer s H vs Q E hr h => ?_)
  · obtain ⟨d, rs, B, rfl, _⟩ := h
    rfl
  · obtain ⟨d, rs, B, rfl, hd, ok, k⟩ := h
    have hu := hu_of hr
    refine ⟨_, (pss_cons (ps_set (i := 1) sc_renamed.nd rfl (by walk_at "lc") pe_dnewK)
      (pss_cons (ps_for PassesOwn.never rfl (pi_enum rfl T.z_enumerate (pa_cons (pe_sortedR rfl (by rfl) T.z_sorted bo_sorted (pa_cons (pv 0) pa_nil)) pa_nil)) (pg_tup rfl (pgs_cons (pg_name (i := 2) sc_renamed.nd rfl (by walk_at "lc")) (pgs_cons (pg_name (i := 3) sc_renamed.nd rfl (by walk_at "lc")) pgs_nil)))
        (pss_one (ps_dput hu (pv 1) (pe_op op_add_str (pe_ix ix_str pe_str (pv 2) (fun _ _ => rfl)) pe_str) (pe_dget hu (pv 0) (pv 3) (fun _ _ => rfl)) rfl)))
      (pss_one (ps_ret (pv 1))))), ?_⟩
    refine fun fo hfo => ?_
    have ffo : Fre H fo := hfo
    have k1 : Kp [] H (upd H fo (.dK [])) := Kp.new Kp.refl ffo
    have e1 : upd H fo (.dK []) fo = some (.dK []) := upd_same
    have nfd : d ≠ fo := ne_fre ffo hd.top
    generalize upd H fo (.dK []) = H1 at k1 e1
    have W1 := hd.kp0 k1
    have rl := ok.len
    refine ⟨_, rfl, d, kvW rs, rs.map (·.1), rfl, W1.top, kvW_keys rs, by rw [List.length_map]; omega, fun so zs hso pz => ?_⟩
    have fso : Fre H1 so := hso
    have k2 : Kp [] H1 (upd H1 so (.lst (zs.map V.str))) := Kp.new Kp.refl fso
    have e2 : upd H1 so (.lst (zs.map V.str)) so = some (.lst (zs.map V.str)) := upd_same
    have nso : fo ≠ so := ne_fre fso e1
    generalize upd H1 so (.lst (zs.map V.str)) = H2 at k2 e2
    have e12 := k2 fo _ e1 (by simp)
    have W2 := W1.kp0 k2
    have zl : zs.length = rs.length := by rw [pz.length_eq, List.length_map]
    refine ⟨so, rfl, ⟨_, SqL.of e2⟩, for_enum (lo := 0) (xs := zs.map V.str) (fun m σ H3 => ∃ (rs' : List Wn) (o2 o3 : Option V), σ = [some (.ref d), some (.ref fo), o2, o3] ∧ Kp [fo] H2 H3 ∧ WinAt H3 fo rs' ∧ rs'.map (·.1) = keysX m ∧ rs'.map (·.2) = (zs.take m).map (rOf rs)) ⟨[], none, none, rfl, Kp.refl, ⟨e12, fun _ h => nomatch h⟩, rfl, rfl⟩ (fun m σ H3 _ ⟨_, _, _, _, kk, _⟩ => SqL.of (kk so _ e2 (nm1 nso.symm))) ?_ ?_⟩
    · rintro m v σ H3 t hv ⟨rs', o2, o3, rfl, k3, W3, en3, ev3⟩ ht
      have ft : Fre H3 t := ht
      obtain ⟨x, ex, rfl⟩ := str_at hv
      have ml : m < zs.length := (List.getElem?_eq_some_iff.mp ex).1
      obtain ⟨r, hr', rfl⟩ := List.mem_map.mp (pz.mem_iff.mp (List.mem_of_getElem? ex))
      have kt : Kp [] H3 (upd H3 t (.tup [.int (0 + (m : Int)), .str r.1])) := Kp.new Kp.refl ft
      refine ⟨_, _, rfl, .inl (.inl upd_same), rfl, _, _, rfl, _, _, rfl, rfl, ?_⟩
      have W4 := W3.kp0 kt
      have k4 : Kp [fo] H2 (upd H3 t (.tup [.int (0 + (m : Int)), .str r.1])) := k3.trans (kt.weak (by simp))
      generalize upd H3 t (.tup [.int (0 + (m : Int)), .str r.1]) = H4 at k4 W4
      have D4 : WinAt H4 d rs := W2.kp k4 (nm1 nfd) fun q hq => nm1 fun z => by have := W2.row q hq; rw [z, e12] at this; cases this
      have ql : rs'.length = m := by
        have := congrArg List.length en3
        rw [List.length_map] at this
        unfold keysX at this
        rw [List.length_map, List.length_range] at this; exact this
      have nin : keyX m ∉ rs'.map (·.1) := fun h => by
        rw [en3] at h
        obtain ⟨j, hj, e⟩ := List.mem_map.mp h
        have := keyX_inj _ _ e
        have := List.mem_range.mp hj
        omega
      refine ⟨_, rfl, _, rfl, d, _, rfl, D4.get ok.nd hr', _, rfl, _, rfl, _, _, _, rfl, rfl, by decide, twenty_at (by omega), _, _, rfl, rfl, (by first | decide | (show (1 : Nat) + 1 ≤ _; decide) | (show (2 : Nat) ≤ _; decide)), _, _, rfl, DPut.k (k := Sum.inr (keyX m)) W4.top (by rw [kvW_len, sizeLine_eq]; omega), ?_⟩
      rw [putW_app (s := r.2.2.1) (e := r.2.2.2) nin]
      refine ⟨rs' ++ [(keyX m, r.2.1, r.2.2.1, r.2.2.2)], _, _, rfl, k4.trans (Kp.put Kp.refl (by simp)), W4.put (D4.row r hr'), by rw [List.map_append, en3, keysX_succ]; rfl, ?_⟩
      rw [List.map_append, ev3, take_snoc ex, List.map_append]
      show _ ++ [r.2] = _ ++ [rOf rs r.1]
      rw [rOf_at ok.nd hr']
    · rintro σ H3 ⟨rs', o2, o3, rfl, k3, W3, en3, ev3⟩
      rw [List.length_map] at en3 ev3
      rw [List.take_length] at ev3
      have pv' : (rs'.map (·.2)).Perm (rs.map (·.2)) := by rw [ev3]; exact rOf_perm ok.nd pz
      have pw' : (rs'.map (·.2.2)).Perm (rs.map (·.2.2)) := by
        have := pv'.map (·.2)
        rw [List.map_map, List.map_map] at this
        exact this
      have back : ∀ r' ∈ rs', ∃ r ∈ rs, r.2 = r'.2 := fun r' hr' => List.mem_map.mp (pv'.mem_iff.mp (List.mem_map.mpr ⟨r', hr', rfl⟩))
      refine ⟨_, rfl, k fo rs' H3 (kp_drop (k1.trans k2) ffo k3) W3 ⟨by rw [en3]; exact keysX_nd _, fun r hr' => keysX_ok (n := zs.length) (by omega) (by rw [← en3]; exact List.mem_map.mpr ⟨r, hr', rfl⟩), fun r hr' => ?_, fun r hr' => ?_, ?_⟩ pw'⟩
      · obtain ⟨q, hq, e⟩ := back r hr'
        rw [← e]; exact ok.bs q hq
      · obtain ⟨q, hq, e⟩ := back r hr'
        rw [← e]; exact ok.be q hq
      · have := pw'.length_eq
        rw [List.length_map, List.length_map] at this
        omega
end
end My
set_option Elab.async false
set_option linter.all false
set_option maxRecDepth 100000
set_option maxHeartbeats 4000000
namespace My
open PySem L2
def Cr (b : Int) (ps : List (Int × Int)) : Prop := ∃ s e : Int, ((ps.filter (inW s e)).length : Int) > b * mx (e - s + 1)
theorem mx_nn (a : Int) : 0 ≤ mx a := by unfold mx; split <;> omega
theorem mx_mono {a b : Int} (h : a ≤ b) : mx a ≤ mx b := by unfold mx; split <;> split <;> omega
theorem filt_le {α : Type} {p q : α → Bool} {l : List α} (h : ∀ x ∈ l, p x = true → q x = true) : (l.filter p).length ≤ (l.filter q).length := by
  rw [← List.countP_eq_length_filter, ← List.countP_eq_length_filter]
  exact List.countP_mono_left h
theorem has_min : ∀ {l : List (Int × Int)}, l ≠ [] → ∃ r ∈ l, ∀ x ∈ l, r.1 ≤ x.1
  | [], h => absurd rfl h
  | [a], _ => ⟨a, by simp, fun x hx => by rw [show x = a by simpa using hx]; omega⟩
  | a :: b :: l, _ => by
    obtain ⟨r, hr, hm⟩ := has_min (l := b :: l) (by simp)
    by_cases z : a.1 ≤ r.1
    · refine ⟨a, by simp, fun x hx => ?_⟩
      rcases List.mem_cons.mp hx with e | e
      · rw [e]; omega
      · have := hm x e; omega
    · refine ⟨r, List.mem_cons_of_mem _ hr, fun x hx => ?_⟩
      rcases List.mem_cons.mp hx with e | e
      · rw [e]; omega
      · exact hm x e
theorem has_max : ∀ {l : List (Int × Int)}, l ≠ [] → ∃ r ∈ l, ∀ x ∈ l, x.2 ≤ r.2
  | [], h => absurd rfl h
  | [a], _ => ⟨a, by simp, fun x hx => by rw [show x = a by simpa using hx]; omega⟩
  | a :: b :: l, _ => by
    obtain ⟨r, hr, hm⟩ := has_max (l := b :: l) (by simp)
    by_cases z : r.2 ≤ a.2
    · refine ⟨a, by simp, fun x hx => ?_⟩
      rcases List.mem_cons.mp hx with e | e
      · rw [e]; omega
      · have := hm x e; omega
    · refine ⟨r, List.mem_cons_of_mem _ hr, fun x hx => ?_⟩
      rcases List.mem_cons.mp hx with e | e
      · rw [e]; omega
      · exact hm x e
theorem inW_iff {s e : Int} {q : Int × Int} : inW s e q = true ↔ s ≤ q.1 ∧ q.2 ≤ e := by simp [inW]
theorem crowd_iff {b : Int} {ps : List (Int × Int)} (hb : 0 ≤ b) : crowdP b ps = true ↔ Cr b ps := by
  unfold crowdP
  constructor
  · intro h
    obtain ⟨r, _, h⟩ := List.any_eq_true.mp h
    obtain ⟨q, _, h⟩ := List.any_eq_true.mp h
    exact ⟨r.1, q.2, of_decide_eq_true h⟩
  · rintro ⟨s, e, h⟩
    have ne : ps.filter (inW s e) ≠ [] := fun z => by
      rw [z] at h
      have := Int.mul_nonneg hb (mx_nn (e - s + 1))
      simp at h; omega
    obtain ⟨r, hr, mr⟩ := has_min ne
    obtain ⟨q, hq, mq⟩ := has_max ne
    obtain ⟨r1, r2⟩ := List.mem_filter.mp hr
    obtain ⟨q1, q2⟩ := List.mem_filter.mp hq
    refine List.any_eq_true.mpr ⟨r, r1, List.any_eq_true.mpr ⟨q, q1, decide_eq_true ?_⟩⟩
    have l1 : (ps.filter (inW s e)).length ≤ (ps.filter (inW r.1 q.2)).length := filt_le fun x hx h => inW_iff.mpr ⟨mr x (List.mem_filter.mpr ⟨hx, h⟩), mq x (List.mem_filter.mpr ⟨hx, h⟩)⟩
    have := inW_iff.mp r2
    have := inW_iff.mp q2
    have l2 : b * mx (q.2 - r.1 + 1) ≤ b * mx (e - s + 1) := Int.mul_le_mul_of_nonneg_left (mx_mono (by omega)) hb
    omega
theorem bool_iff {a b : Bool} (h : a = true ↔ b = true) : a = b := Bool.eq_iff_iff.mpr h
theorem crowd_shift {b f : Int} (hb : 0 ≤ b) {ps qs : List (Int × Int)} (e : qs = ps.map fun p => (p.1 + f, p.2 + f)) : crowdP b qs = crowdP b ps := by
  have key : ∀ s t : Int, (qs.filter (inW s t)).length = (ps.filter (inW (s - f) (t - f))).length := fun s t => by
    rw [e, List.filter_map, List.length_map]
    refine congrArg List.length (List.filter_congr fun x _ => ?_)
    refine bool_iff ?_
    show inW s t (x.1 + f, x.2 + f) = true ↔ _
    rw [inW_iff, inW_iff]
    constructor <;> rintro ⟨h1, h2⟩ <;> constructor <;> (simp only at *; omega)
  refine bool_iff ?_
  rw [crowd_iff hb, crowd_iff hb]
  constructor
  · rintro ⟨s, t, h⟩
    refine ⟨s - f, t - f, ?_⟩
    rw [← key, show t - f - (s - f) + 1 = t - s + 1 by omega]; exact h
  · rintro ⟨s, t, h⟩
    refine ⟨s + f, t + f, ?_⟩
    rw [key, show t + f - (s + f) + 1 = t - s + 1 by omega, show s + f - f = s by omega, show t + f - f = t by omega]; exact h
theorem crowd_perm {b : Int} (hb : 0 ≤ b) {ps qs : List (Int × Int)} (h : qs.Perm ps) : crowdP b qs = crowdP b ps := by
  refine bool_iff ?_
  rw [crowd_iff hb, crowd_iff hb]
  constructor
  · rintro ⟨s, t, z⟩
    exact ⟨s, t, by rw [← (h.filter (inW s t)).length_eq]; exact z⟩
  · rintro ⟨s, t, z⟩
    exact ⟨s, t, by rw [(h.filter (inW s t)).length_eq]; exact z⟩
theorem crowd_more {b b' : Int} (hb : 0 ≤ b) (l : b ≤ b') {ps : List (Int × Int)} (h : crowdP b ps = false) : crowdP b' ps = false := by
  rw [Bool.eq_false_iff] at h ⊢
  refine fun z => h ?_
  rw [crowd_iff (by omega)] at z ⊢
  obtain ⟨s, e, z⟩ := z
  have : b * mx (e - s + 1) ≤ b' * mx (e - s + 1) := Int.mul_le_mul_of_nonneg_right l (mx_nn _)
  exact ⟨s, e, by omega⟩
theorem crowd_sub {b : Int} (hb : 0 ≤ b) {ps qs : List (Int × Int)} (l : qs.Sublist ps) (h : crowdP b ps = false) : crowdP b qs = false := by
  rw [Bool.eq_false_iff] at h ⊢
  refine fun z => h ?_
  rw [crowd_iff hb] at z ⊢
  obtain ⟨s, e, z⟩ := z
  have := (l.filter (inW s e)).length_le
  exact ⟨s, e, by omega⟩
theorem crowd_wide {b x y : Int} (hb : 0 ≤ b) (hx : x ≤ 0) (hy : 0 ≤ y) {ps qs : List (Int × Int)} (e : qs = ps.map fun p => (p.1 + x, p.2 + y)) (h : crowdP b ps = false) : crowdP b qs = false := by
  rw [Bool.eq_false_iff] at h ⊢
  refine fun z => h ?_
  rw [crowd_iff hb] at z ⊢
  obtain ⟨s, t, z⟩ := z
  refine ⟨s, t, ?_⟩
  rw [e, List.filter_map, List.length_map] at z
  have : (ps.filter (inW s t ∘ fun p => (p.1 + x, p.2 + y))).length ≤ (ps.filter (inW s t)).length := filt_le fun q _ h => by
    have := inW_iff.mp (show inW s t (q.1 + x, q.2 + y) = true from h)
    rw [inW_iff]
    simp only at this
    constructor <;> omega
  omega
theorem crowd_own {b s e : Int} (hb : 0 ≤ b) {rs qs : List Wn} (hq : qs.map (·.2.2) = (rowW rs s e).map (·.2.2)) (h : ((rowW rs s e).length : Int) > b * mx (e - s + 1)) : crowdB b qs = true := by
  unfold crowdB
  rw [hq, crowd_iff hb]
  refine ⟨s, e, ?_⟩
  have : ((rowW rs s e).map (·.2.2)).filter (inW s e) = (rowW rs s e).map (·.2.2) := by
    rw [List.filter_eq_self]
    intro q hq
    obtain ⟨r, hr, rfl⟩ := List.mem_map.mp hq
    exact (List.mem_filter.mp hr).2
  rw [this, List.length_map]; exact h
end My
set_option Elab.async false
set_option linter.all false
set_option maxRecDepth 100000
set_option maxHeartbeats 4000000
namespace My
open PySem L2
theorem WinOk.sub {B : Nat} {rs qs : List Wn} (ok : WinOk B rs) (h : qs.Sublist rs) : WinOk B qs :=
  ⟨ok.nd.sublist (h.map _), fun r hr => ok.nm r (h.subset hr), fun r hr => ok.bs r (h.subset hr), fun r hr => ok.be r (h.subset hr), Nat.le_trans h.length_le ok.len⟩
theorem moved_ok {rs rs' : List Wn} {e l : Int} (ok : WinOk (10 ^ 70) rs) (he : e.natAbs < 10 ^ 60) (hl : l.natAbs < 10 ^ 60) (en : rs'.map (·.1) = rs.map (·.1)) (ev : rs'.map (·.2.2) = rs.map (fun r => (r.2.2.1 + e, r.2.2.2 + l))) : WinOk (10 ^ 80) rs' := by
  have t : (10 : Nat) ^ 70 + 10 ^ 60 < 10 ^ 80 := by decide +kernel
  have back : ∀ r' ∈ rs', ∃ r ∈ rs, r'.2.2 = (r.2.2.1 + e, r.2.2.2 + l) := fun r' hr' => by
    have : r'.2.2 ∈ rs'.map (·.2.2) := List.mem_map.mpr ⟨r', hr', rfl⟩
    rw [ev] at this
    obtain ⟨r, hr, z⟩ := List.mem_map.mp this
    exact ⟨r, hr, z.symm⟩
  refine ⟨by rw [en]; exact ok.nd, fun r' hr' => ?_, fun r' hr' => ?_, fun r' hr' => ?_, ?_⟩
  · have : r'.1 ∈ rs'.map (·.1) := List.mem_map.mpr ⟨r', hr', rfl⟩
    rw [en] at this
    obtain ⟨r, hr, z⟩ := List.mem_map.mp this
    rw [← z]; exact ok.nm r hr
  · obtain ⟨r, hr, z⟩ := back r' hr'
    have := ok.bs r hr
    rw [z]
    show (r.2.2.1 + e).natAbs < _
    omega
  · obtain ⟨r, hr, z⟩ := back r' hr'
    have := ok.be r hr
    rw [z]
    show (r.2.2.2 + l).natAbs < _
    omega
  · have := congrArg List.length en
    rw [List.length_map, List.length_map] at this
    have := ok.len
    omega
def toldS (c : Bool) : Str := if c = true then "crowd" else "plan"
theorem Told.fst {b : Int} {rs : List Wn} {H : Hp} {t : Addr} (h : Told b rs H t) : ∃ ys, H t = some (.tup (.str (toldS (crowdB b rs)) :: ys)) := by
  rcases h with ⟨c, l, s, e, ht, _⟩ | ⟨c, l, ht⟩
  · rw [c]; exact ⟨_, ht⟩
  · rw [c]; exact ⟨_, ht⟩
theorem tup_kp {H H' : Hp} {Pt a : Addr} {xs : List V} (T : TabA H Pt) (k : Kp [Pt] H H') (h : H a = some (.tup xs)) : H' a = some (.tup xs) := by
  obtain ⟨ps, e⟩ := T.tbl
  exact k a _ h (nm1 fun z => by rw [z, e] at h; cases h)
theorem lst_kp {H H' : Hp} {Pt a : Addr} {xs : List V} (T : TabA H Pt) (k : Kp [Pt] H H') (h : H a = some (.lst xs)) : H' a = some (.lst xs) := by
  obtain ⟨ps, e⟩ := T.tbl
  exact k a _ h (nm1 fun z => by rw [z, e] at h; cases h)
theorem at0 {x : V} {ys : List V} : atI (x :: ys) 0 = some x := atI_at (by decide) rfl
theorem str_same (a : Str) : ¬ ((!decide (V.str a = V.str a)) = true) := by simp
theorem plan_crowd : ¬ (decide (V.str "plan" = V.str "crowd") = true) := fun c => by
  have e := of_decide_eq_true c
  injection e with e
  exact absurd e (by decide +kernel)
section
variable {P : Program} {w : World} {K : PySem.W.Frag} {mg : Str → Option Value} {base : Heap}
def spRight (Pt : Addr) : Sp := fun vs H Q _ => ∃ (b f : Int) (d : Addr) (rs : List Wn), vs = [.int b, .ref d, .int f] ∧ WinAt H d rs ∧ WinOk (10 ^ 70) rs ∧ 1 ≤ b ∧ b < 10 ^ 60 ∧ f.natAbs < 10 ^ 60 ∧ TabA H Pt ∧ ∀ H', Kp [Pt] H H' → TabA H' Pt → Q (.bl true) H'
abbrev s_right : Stmt := top 28
theorem sc_right : FnScope ["_law_benches_here", "_law_windows_here", "_law_far_here", "_law_told", "_law_moved_here", "_law_few", "_law_fewer"] ["_law_benches_here", "_law_windows_here", "_law_far_here"] (defScope s_right) := ⟨rfl, rfl, rfl, by decide +kernel, rfl, by decide +kernel, by decide +kernel⟩
theorem ok_right {f Pt : Addr} {fd : FuncData} (F : Fun K "_law_right" "_law_right" s_right f fd) (T : Txt K mg) (C_windowed : Cal P w K mg base "windowed" 5 ["benches", "windows"] (spWindowed Pt)) (C_moved : Cal P w K mg base "_law_moved" 1 ["_law_windows_here", "_law_early", "_law_late"] spMoved) (C_renamed : Cal P w K mg base "_law_renamed" 1 ["_law_windows_here"] spRenamed) : FnOk P w K mg base CX0 6 f fd ["_law_benches_here", "_law_windows_here", "_law_far_here"] (spRight Pt) := by
  refine F.ok sc_right (fun vs H Q E h => ?_) (fun cdv A outer s H vs Q E hr h => ?_)
  · obtain ⟨b, f, d, rs, rfl, _⟩ := h
    rfl
  · obtain ⟨b, f, d, rs, rfl, hd, ok, b1, b2, hf, T0, k⟩ := h
    have hr1 := hr.mono (j := 1) (by decide)
    have hu := hu_of hr
    refine ⟨_, (pss_cons (ps_set (i := 3) sc_right.nd rfl (by walk_at "lc") (pe_callC C_windowed hr rfl (pa_cons (pv 0) (pa_cons (pe_callTy call_dict1 (by rfl) T.z_dict bo_dict (pa_cons (pv 1) pa_nil)) pa_nil))))
      (pss_cons (ps_set (i := 4) sc_right.nd rfl (by walk_at "lc") (pe_callC C_windowed hr rfl (pa_cons (pv 0) (pa_cons (pe_callC C_moved hr1 rfl (pa_cons (pv 1) (pa_cons (pv 2) (pa_cons (pv 2) pa_nil)))) pa_nil))))
      (pss_cons (ps_if (PW.pt (pw_or (pt_cmpR op_ne (pe_ix ix_tup (pv 4) pe_int (fun _ _ => rfl)) (pe_ix ix_tup (pv 3) pe_int (fun _ _ => rfl)) (nomark _)) (pw_or1 (pt_cmpR op_ne (pe_ix ix_tup (pe_callC C_windowed hr rfl (pa_cons (pv 0) (pa_cons (pe_callC C_renamed hr1 rfl (pa_cons (pv 1) pa_nil)) pa_nil))) pe_int (fun _ _ => rfl)) (pe_ix ix_tup (pv 3) pe_int (fun _ _ => rfl)) (nomark _)))))
        (pss_one (ps_ret pe_bl))
        pss_nil)
      (pss_cons (ps_if (pt_cmpR op_eq (pe_ix ix_tup (pv 3) pe_int (fun _ _ => rfl)) pe_str (nomark _))
        (pss_cons (ps_set (i := 5) sc_right.nd rfl (by walk_at "lc") (pe_callTy (call_dictL rfl) (by rfl) T.z_dict bo_dict (pa_cons (pe_comp rfl (blk_mk (sc := defScope s_right) rfl (by decide +kernel)) (Draws.own (x := "_law_name") (Draws.tk (i := 1) rfl (by walk_at "vs") (by walk_at "vk") (by walk_at "vf") Draws.nil)) (pi_list (pe_ix ix_tup (pv 3) pe_int (fun _ _ => rfl))) (fun C s₀ H₀ ex => (pg_name (i := 0) (show List.Nodup (["_law_name", "_law_windows_here"] : List Str) by decide +kernel) rfl (by walk_at "lc"))) (fun C s₀ H₀ ex => pts_nil) (fun C s₀ H₀ ex => (pe_tup (pa_cons (pv 0) (pa_cons (pe_dget hu (pv 1) (pv 0) (fun _ _ => rfl)) pa_nil))))) pa_nil)))
        (pss_one (ps_ret (pe_cmpR op_eq (pe_ix ix_tup (pe_callC C_windowed hr rfl (pa_cons (pv 0) (pa_cons (pv 5) pa_nil))) pe_int (fun _ _ => rfl)) pe_str (nomark _)))))
        pss_nil)
      (pss_cons (ps_if (pt_cmpR op_ne (pe_ix ix_tup (pe_callC C_windowed hr rfl (pa_cons (pe_callB (call_min2 rfl) (by rfl) T.z_min bo_min (pa_cons (pe_op op_sub (pe_op op_pow pe_int pe_int) pe_int) (pa_cons (pe_op op_add (pv 0) pe_int) pa_nil))) (pa_cons (pe_callTy call_dict1 (by rfl) T.z_dict bo_dict (pa_cons (pv 1) pa_nil)) pa_nil))) pe_int (fun _ _ => rfl)) pe_str (nomark _))
        (pss_one (ps_ret pe_bl))
        pss_nil)
      (pss_cons (ps_set (i := 6) sc_right.nd rfl (by walk_at "lc") (pe_callTy (call_dictL rfl) (by rfl) T.z_dict bo_dict (pa_cons (pe_slice sl_list (pe_callTy (call_listV rfl) (by rfl) T.z_list bo_list (pa_cons (pe_bm0 PySem.F.plainAttrs_dict PySem.F.slot_dict_items PySem.F.type_dict_items mt_items (pv 1)) pa_nil)) (po_some pe_int) po_none) pa_nil)))
      (pss_one (ps_ret (pe_and (pe_cmpR op_eq (pe_ix ix_tup (pe_callC C_windowed hr rfl (pa_cons (pv 0) (pa_cons (pv 6) pa_nil))) pe_int (fun _ _ => rfl)) pe_str (nomark _)) (pe_one (pe_cmpR op_eq (pe_ix ix_tup (pe_callC C_windowed hr rfl (pa_cons (pv 0) (pa_cons (pe_callC C_moved hr1 rfl (pa_cons (pv 1) (pa_cons (pe_un un_neg pe_int) (pa_cons pe_int pa_nil)))) pa_nil))) pe_int (fun _ _ => rfl)) pe_str (nomark _)))))))))))), ?_⟩
    have b0 : 0 ≤ b := by omega
    have b80 : b < 10 ^ 80 := Int.lt_trans b2 (by decide +kernel)
    have ok80 : WinOk (10 ^ 80) rs := ok.mono (by decide +kernel)
    refine ⟨_, rfl, _, rfl, d, kvW rs, rfl, .inl hd.top, fun e1 he1 => ?_⟩
    have fe1 : Fre H e1 := he1
    have k1 : Kp [] H (upd H e1 (.dK (kvW rs))) := Kp.new Kp.refl fe1
    have t1 : upd H e1 (.dK (kvW rs)) e1 = some (.dK (kvW rs)) := upd_same
    generalize upd H e1 (.dK (kvW rs)) = H1 at k1 t1
    have T1 := T0.kp k1
    have W1 := hd.kp0 k1
    refine ⟨b, e1, rs, rfl, ⟨t1, W1.row⟩, ok80, b1, b80, T1, fun t H2 k2 T2 told => ?_⟩
    have W2 := W1.kpT k2 T1
    refine ⟨_, rfl, _, rfl, _, rfl, _, rfl, d, f, f, rs, rfl, W2, ok.nd, ok.len, fun d3 rs3 H3 k3 W3 en3 ev3 => ?_⟩
    have T3 := T2.kp k3
    refine ⟨b, d3, rs3, rfl, W3, moved_ok ok hf hf en3 ev3, b1, b80, T3, fun t4 H4 k4 T4 told4 => ?_⟩
    have W4 := (W2.kp0 k3).kpT k4 T3
    have c3 : crowdB b rs3 = crowdB b rs := crowd_shift (f := f) b0 (by rw [ev3, List.map_map]; rfl)
    obtain ⟨y2, h2⟩ := told.fst
    obtain ⟨y4, h4⟩ := told4.fst
    have h24 := tup_kp T3 k4 (k3 t _ h2 (by simp))
    rw [c3] at h4
    refine ⟨_, rfl, _, _, _, _, rfl, rfl, SqT.of h4, at0, _, rfl, _, _, _, _, rfl, rfl, SqT.of h24, at0, rfl, _, rfl, ?_⟩
    refine ite2 (fun c => absurd c (str_same _)) (fun _ => ?_)
    refine ⟨_, rfl, _, rfl, d, rs, 10 ^ 70, rfl, W4, ok, fun d5 rs5 H5 k5 W5 ok5 p5 => ?_⟩
    have T5 := T4.kp k5
    refine ⟨b, d5, rs5, rfl, W5, ok5.mono (by decide +kernel), b1, b80, T5, fun t6 H6 k6 T6 told6 => ?_⟩
    have W6 := (W4.kp0 k5).kpT k6 T5
    have c5 : crowdB b rs5 = crowdB b rs := crowd_perm b0 p5
    obtain ⟨y6, h6⟩ := told6.fst
    rw [c5] at h6
    have k26 : Kp [Pt] H2 H6 := (((k3.weak (by simp)).trans k4).trans (k5.weak (by simp))).trans k6
    have h26 := tup_kp T2 k26 h2
    have K6 : Kp [Pt] H H6 := ((k1.weak (by simp)).trans k2).trans k26
    refine ⟨_, _, _, _, rfl, rfl, SqT.of h6, at0, _, rfl, _, _, _, _, rfl, rfl, SqT.of h26, at0, rfl, _, rfl, ?_⟩
    refine ite2 (fun c => absurd c (str_same _)) (fun _ => ?_)
    clear h2 h24 h26 h4 h6 y2 y4 y6
    rcases told with ⟨cb, l, s', e', ht, hl, hlen⟩ | ⟨cb, l, ht⟩
    · -- a crowd
      have ht6 := tup_kp T2 k26 ht
      have hl6 := lst_kp T2 k26 hl
      refine ⟨_, rfl, _, _, _, _, rfl, rfl, SqT.of ht6, at0, rfl, _, rfl, ?_⟩
      refine ite2 (fun _ => ?_) (fun c => absurd (decide_eq_true rfl) c)
      have sub : (rowW rs s' e').Sublist rs := List.filter_sublist
      have okr := ok80.sub sub
      have rl := okr.len
      generalize eR : rowW rs s' e' = R at *
      have hl6' : H6 l = some (.lst ((R.map (·.1)).map V.str)) := by rw [hl6, List.map_map]; rfl
      refine ⟨_, rfl, _, _, _, _, rfl, rfl, SqT.of ht6, rfl, _, rfl, ⟨_, SqL.of hl6'⟩, fun D hD => comp_list0 ((R.map (·.1)).map V.str) (fun i ys τ H7 => (∃ o0, τ = [o0, some (.ref d)]) ∧ ∃ ts : List Addr, ys = ts.map V.ref ∧ ts.length = i ∧ H7 D = some (.lst (ts.map V.ref)) ∧ Kp [D] H6 H7 ∧ ∀ (j : Nat) (t : Addr) (r : Wn), ts[j]? = some t → R[j]? = some r → H7 t = some (.tup [.str r.1, .ref r.2.1]))
        ⟨⟨_, rfl⟩, [], rfl, rfl, upd_same, Kp.put Kp.refl (by simp), fun j t r h => by simp at h⟩ (fun i ys τ H7 ⟨_, _, _, _, _, kk, _⟩ => SqL.of (kk l _ hl6' (nm1 (ne_fre hD hl6')))) ?_ ?_⟩
      · rintro i v ys τ H7 hv ⟨⟨o0, rfl⟩, ts, rfl, tl, hD7, k7, hts⟩
        obtain ⟨x, ex, rfl⟩ := str_at hv
        rw [List.getElem?_map] at ex
        obtain ⟨r, er, rfl⟩ := Option.map_eq_some_iff.mp ex
        have il : i < R.length := (List.getElem?_eq_some_iff.mp er).1
        have mr : r ∈ rs := sub.subset (List.mem_of_getElem? er)
        have W7 : WinAt H7 d rs := W6.kp k7 (nm1 (ne_fre hD W6.top)) fun q hq => nm1 (ne_fre hD (W6.row q hq))
        refine ⟨_, rfl, _, rfl, _, rfl, d, _, rfl, W7.get ok.nd mr, (by walk_at "ln"), fun tu htu => ?_⟩
        have ftu : Fre H7 tu := htu
        have k8 : Kp [] H7 (upd H7 tu (.tup [.str r.1, .ref r.2.1])) := Kp.new Kp.refl ftu
        have e8 : upd H7 tu (.tup [.str r.1, .ref r.2.1]) tu = some (.tup [.str r.1, .ref r.2.1]) := upd_same
        generalize upd H7 tu (.tup [.str r.1, .ref r.2.1]) = H8 at k8 e8
        have hD8 := k8 D _ hD7 (by simp)
        have kD : Kp [D] H8 (upd H8 D (.lst (ts.map V.ref ++ [.ref tu]))) := Kp.put Kp.refl (by simp)
        have nD : ∀ {a : Addr} {xs : List V}, H8 a = some (.tup xs) → a ∉ [D] := fun h => nm1 fun z => by rw [z, hD8] at h; cases h
        refine ⟨hD8, by rw [List.length_map, sizeLine_eq]; omega, ⟨_, rfl⟩, ts ++ [tu], by rw [List.map_append]; rfl, by rw [List.length_append, tl]; rfl, by rw [upd_same, List.map_append]; rfl, (k7.trans (k8.weak (by simp))).trans kD, fun j t q hj hq => ?_⟩
        by_cases z : j < ts.length
        · rw [List.getElem?_append_left z] at hj
          have := k8 t _ (hts j t q hj hq) (by simp)
          exact kD t _ this (nD this)
        · rw [List.getElem?_append_right (by omega)] at hj
          have jl : j = i := by
            have := (List.getElem?_eq_some_iff.mp hj).1
            simp at this; omega
          subst jl
          rw [tl, Nat.sub_self] at hj
          have : tu = t := by simpa using hj
          subst this
          rw [er] at hq
          cases hq
          exact kD _ _ e8 (nD e8)
      · rintro ys τ H7 ⟨_, ts, rfl, tl, hD7, k7, hts⟩
        rw [List.length_map, List.length_map] at tl
        have W7 : WinAt H7 d rs := W6.kp k7 (nm1 (ne_fre hD W6.top)) fun q hq => nm1 (ne_fre hD (W6.row q hq))
        have K67 : Kp [] H6 H7 := kp_drop Kp.refl hD k7
        refine ⟨D, ts, kvW R, rfl, hD7, by rw [tl, kvW_len], by rw [kvW_keys]; exact nd_map (fun a b z => by injection z) okr.nd, fun j t kk v hj hk => ?_, fun fw hfw => ?_⟩
        · obtain ⟨r, er, rfl, rfl⟩ := kvW_at hk
          exact hts j t r hj er
        have ffw : Fre H7 fw := hfw
        have k8 : Kp [] H7 (upd H7 fw (.dK (kvW R))) := Kp.new Kp.refl ffw
        have e8 : upd H7 fw (.dK (kvW R)) fw = some (.dK (kvW R)) := upd_same
        generalize upd H7 fw (.dK (kvW R)) = H8 at k8 e8
        have W8 := W7.kp0 k8
        have T8 := (T6.kp K67).kp k8
        refine ⟨_, rfl, _, rfl, b, fw, R, rfl, ⟨e8, fun q hq => W8.row q (sub.subset hq)⟩, okr, b1, b80, T8, fun t9 H9 k9 T9 told9 => ?_⟩
        obtain ⟨y9, h9⟩ := told9.fst
        have cR : crowdB b R = true := crowd_own b0 (by rw [← eR]) (by rw [eR]; exact hlen)
        rw [cR] at h9
        exact ⟨_, _, _, _, rfl, rfl, SqT.of h9, at0, rfl, k H9 ((K6.trans ((K67.trans k8).weak (by simp))).trans k9) T9⟩
    · -- a plan
      have ht6 := tup_kp T2 k26 ht
      refine ⟨_, rfl, _, _, _, _, rfl, rfl, SqT.of ht6, at0, rfl, _, rfl, ?_⟩
      refine ite2 (fun c => absurd c plan_crowd) (fun _ => ?_)
      have tt : (10 : Int) ^ (60 : Int).toNat = 10 ^ 60 := rfl
      refine ⟨_, _, rfl, rfl, ⟨by decide, by decide, by decide⟩, _, _, rfl, rfl, _, rfl, _, _, rfl, rfl, _, _, rfl, _, rfl, d, kvW rs, rfl, .inl W6.top, fun e2 he2 => ?_⟩
      have fe2 : Fre H6 e2 := he2
      have k7 : Kp [] H6 (upd H6 e2 (.dK (kvW rs))) := Kp.new Kp.refl fe2
      have t7 : upd H6 e2 (.dK (kvW rs)) e2 = some (.dK (kvW rs)) := upd_same
      generalize upd H6 e2 (.dK (kvW rs)) = H7 at k7 t7
      have T7 := T6.kp k7
      have W7 := W6.kp0 k7
      rw [tt]
      have bb : b ≤ (if b + 1 < 10 ^ 60 - 1 then b + 1 else 10 ^ 60 - 1) ∧ (if b + 1 < 10 ^ 60 - 1 then b + 1 else 10 ^ 60 - 1) < 10 ^ 60 := by
        generalize (10 : Int) ^ 60 = mm at b2
        split <;> omega
      generalize (if b + 1 < 10 ^ 60 - 1 then b + 1 else 10 ^ 60 - 1) = b' at bb
      refine ⟨b', e2, rs, rfl, ⟨t7, W7.row⟩, ok80, by omega, Int.lt_trans bb.2 (by decide +kernel), T7, fun t8 H8 k8 T8 told8 => ?_⟩
      have W8 := W7.kpT k8 T7
      obtain ⟨y8, h8⟩ := told8.fst
      have c8 : crowdB b' rs = false := crowd_more b0 bb.1 cb
      rw [c8] at h8
      refine ⟨_, _, _, _, rfl, rfl, SqT.of h8, at0, rfl, _, rfl, ?_⟩
      refine ite2 (fun c => absurd c (str_same "plan")) (fun _ => ?_)
      refine ⟨_, rfl, .inr (.inr (.inl ⟨rfl, .inl ⟨_, W8.top⟩⟩)), d, kvW rs, rfl, rfl, W8.top, fun v hv => ?_⟩
      have k9 : Kp [] H8 (upd H8 v (vwO v d)) := Kp.new Kp.refl hv
      refine ⟨v, d, kvW rs, rfl, upd_same, k9 d _ W8.top (by simp), fun l2 ts H10 k10 f10 h10 tl tu => ?_⟩
      refine ⟨_, rfl, l2, _, rfl, SqL.of h10, fun l3 hl3 => ?_⟩
      have f3 : Fre H10 l3 := hl3
      have cut : cutV (ts.map V.ref) (some 1) none = (ts.drop 1).map V.ref := by rw [cut_from _ (by decide), List.map_drop]; rfl
      rw [cut]
      have k11 : Kp [] H10 (upd H10 l3 (.lst ((ts.drop 1).map V.ref))) := Kp.new Kp.refl f3
      have t11 : upd H10 l3 (.lst ((ts.drop 1).map V.ref)) l3 = some (.lst ((ts.drop 1).map V.ref)) := upd_same
      generalize upd H10 l3 (.lst ((ts.drop 1).map V.ref)) = H11 at k11 t11
      have sub : (rs.drop 1).Sublist rs := List.drop_sublist _ _
      have okr := ok80.sub sub
      have ek : kvW (rs.drop 1) = (kvW rs).drop 1 := by unfold kvW; rw [List.map_drop]
      refine ⟨l3, ts.drop 1, kvW (rs.drop 1), rfl, t11, by rw [ek, List.length_drop, List.length_drop, tl], by rw [kvW_keys]; exact nd_map (fun a b z => by injection z) okr.nd, fun j t kk v' hj hk => ?_, fun fw hfw => ?_⟩
      · rw [ek, List.getElem?_drop] at hk
        rw [List.getElem?_drop] at hj
        exact k11 t _ (tu _ t kk v' hj hk).2 (by simp)
      have ffw : Fre H11 fw := hfw
      have k12 : Kp [] H11 (upd H11 fw (.dK (kvW (rs.drop 1)))) := Kp.new Kp.refl ffw
      have t12 : upd H11 fw (.dK (kvW (rs.drop 1))) fw = some (.dK (kvW (rs.drop 1))) := upd_same
      generalize upd H11 fw (.dK (kvW (rs.drop 1))) = H12 at k12 t12
      have k812 : Kp [] H8 H12 := ((k9.trans k10).trans k11).trans k12
      have W12 := W8.kp0 k812
      have T12 := T8.kp k812
      refine ⟨_, rfl, _, rfl, b, fw, rs.drop 1, rfl, ⟨t12, fun q hq => W12.row q (sub.subset hq)⟩, okr, b1, b80, T12, fun t13 H13 k13 T13 told13 => ?_⟩
      obtain ⟨y13, h13⟩ := told13.fst
      have c13 : crowdB b (rs.drop 1) = false := crowd_sub b0 (sub.map _) cb
      rw [c13] at h13
      have W13 := W12.kpT k13 T12
      refine ⟨_, _, _, _, rfl, rfl, SqT.of h13, at0, rfl, _, rfl, iteT ?_⟩
      refine ⟨_, rfl, _, rfl, _, rfl, d, -1, 2, rs, rfl, W13, ok.nd, ok.len, fun d14 rs14 H14 k14 W14 en14 ev14 => ?_⟩
      have T14 := T13.kp k14
      refine ⟨b, d14, rs14, rfl, W14, moved_ok ok (by decide +kernel) (by decide +kernel) en14 ev14, b1, b80, T14, fun t15 H15 k15 T15 told15 => ?_⟩
      obtain ⟨y15, h15⟩ := told15.fst
      have c15 : crowdB b rs14 = false := crowd_wide (x := -1) (y := 2) b0 (by decide) (by decide) (by rw [ev14, List.map_map]; rfl) cb
      rw [c15] at h15
      exact ⟨_, _, _, _, rfl, rfl, SqT.of h15, at0, rfl, k H15 (((((K6.trans (k7.weak (by simp))).trans k8).trans (k812.weak (by simp))).trans k13).trans ((k14.weak (by simp)).trans k15)) T15⟩
end
end My
set_option Elab.async false
set_option linter.all false
set_option maxRecDepth 100000
set_option maxHeartbeats 4000000
namespace My
open PySem L2
section
variable {P : Program} {w : World} {K : PySem.W.Frag} {mg : Str → Option Value} {base : Heap}
theorem Kp.seqT {H H' : Hp} {Pt a : Addr} {xs : List V} (k : Kp [Pt] H H') (T : TabA H Pt) (h : SqL K H a xs) : SqL K H' a xs := by
  obtain ⟨ps, e⟩ := T.tbl
  rcases h with (h | ⟨o, h⟩) | h
  · exact .inl (.inl (k _ _ h (nm1 fun z => by rw [z, e] at h; cases h)))
  · exact .inl (.inr ⟨o, k _ _ h (nm1 fun z => by rw [z, e] at h; cases h)⟩)
  · exact .inr h
def spLaw (K : PySem.W.Frag) (Pt : Addr) : Sp := fun vs H Q _ => ∃ (a : Addr) (ns : List Int), vs = [.ref a] ∧ SqL K H a (ns.map V.int) ∧ ns.length ≤ 63 ∧ TabA H Pt ∧ ∀ H', Q (.bl true) H'
abbrev s_law : Stmt := top 29
theorem sc_law : FnScope ["_law_script", "_law_k", "_law_windows_here", "_law_purse_here", "_law_benches_here"] ["_law_script"] (defScope s_law) := ⟨rfl, rfl, rfl, by decide +kernel, rfl, by decide +kernel, by decide +kernel⟩
theorem ok_law {f Pt : Addr} {fd : FuncData} (F : Fun K "law" "law" s_law f fd) (T : Txt K mg) (C_cell : Cal P w K mg base "_law_cell" 1 ["_law_script", "_law_k"] (spCell K)) (C_purse : Cal P w K mg base "_law_purse" 1 ["_law_cell_here", "_law_k"] spPurse) (C_take : Cal P w K mg base "_law_take" 1 ["_law_purse_here", "_law_many"] spTake)
    (C_windows : Cal P w K mg base "_law_windows" 3 ["_law_purse_here"] spLWin) (C_benches : Cal P w K mg base "_law_benches" 2 ["_law_purse_here"] spLBenches) (C_right : Cal P w K mg base "_law_right" 6 ["_law_benches_here", "_law_windows_here", "_law_far_here"] (spRight Pt)) : FnOk P w K mg base CX0 7 f fd ["_law_script"] (spLaw K Pt) := by
  refine F.ok sc_law (fun vs H Q E h => ?_) (fun cdv A outer s H vs Q E hr h => ?_)
  · obtain ⟨a, ns, rfl, _⟩ := h
    rfl
  · obtain ⟨sc, is, rfl, hS, hlen, T0, k⟩ := h
    have hr1 := hr.mono (j := 1) (by decide)
    have hr2 := hr.mono (j := 2) (by decide)
    have hr3 := hr.mono (j := 3) (by decide)
    refine ⟨_, (pss_cons (ps_for PassesOwn.never rfl (pi_range3 rfl T.z_range (pa_cons pe_int (pa_cons (pe_callB (call_max2 rfl) (by rfl) T.z_max bo_max (pa_cons pe_int (pa_cons (pe_callB (call_min2 rfl) (by rfl) T.z_min bo_min (pa_cons (pe_callB call_len_seq (by rfl) T.z_len bo_len (pa_cons (pv 0) pa_nil)) (pa_cons pe_int pa_nil))) pa_nil))) (pa_cons pe_int pa_nil)))) (pg_name (i := 1) sc_law.nd rfl (by walk_at "lc"))
        (pss_cons (ps_set (i := 2) sc_law.nd rfl (by walk_at "lc") (pe_callC C_windows hr3 rfl (pa_cons (pe_callC C_purse hr1 rfl (pa_cons (pe_callC C_cell hr1 rfl (pa_cons (pv 0) (pa_cons (pv 1) pa_nil))) (pa_cons pe_int pa_nil))) pa_nil)))
        (pss_cons (ps_set (i := 3) sc_law.nd rfl (by walk_at "lc") (pe_callC C_purse hr1 rfl (pa_cons (pe_callC C_cell hr1 rfl (pa_cons (pv 0) (pa_cons (pe_op op_add (pv 1) pe_int) pa_nil))) (pa_cons pe_int pa_nil))))
        (pss_cons (ps_set (i := 4) sc_law.nd rfl (by walk_at "lc") (pe_callC C_benches hr2 rfl (pa_cons (pv 3) pa_nil)))
        (pss_one (ps_if (pt_not (pt_val (pe_callC C_right hr rfl (pa_cons (pv 4) (pa_cons (pv 2) (pa_cons (pe_op op_sub (pe_callC C_take hr1 rfl (pa_cons (pv 3) (pa_cons (pe_op op_mulB pe_int (pe_op op_pow pe_int pe_int)) pa_nil))) (pe_op op_pow pe_int pe_int)) pa_nil))))))
          (pss_one (ps_ret pe_bl))
          pss_nil))))))
      (pss_one (ps_ret pe_bl))), ?_⟩
    obtain ⟨j, ej, j0, j1⟩ : ∃ j : Int, (if (if (12 : Int) < (is.map V.int).length then (12 : Int) else (is.map V.int).length) > 1 then (if (12 : Int) < (is.map V.int).length then (12 : Int) else (is.map V.int).length) else (1 : Int)) = j ∧ 0 ≤ j ∧ j < 1000 := ⟨_, rfl, by split <;> split <;> omega, by rw [List.length_map]; split <;> split <;> omega⟩
    obtain ⟨sm, n, hn, _, _⟩ := small_by (c := 2) j0 j1 (by decide) (by decide)
    refine ⟨_, rfl, _, _, rfl, .inl hS, _, _, rfl, _, _, rfl, 0, _, 2, n, rfl, ⟨by decide, by decide⟩, by rw [ej]; exact sm, by rw [ej]; exact hn, ?_⟩
    refine for_range3 (fun i σ H2 => (∃ o1 o2 o3 o4 : Option V, σ = [some (.ref sc), o1, o2, o3, o4]) ∧ Kp [Pt] H H2 ∧ TabA H2 Pt) ⟨⟨_, _, _, _, rfl⟩, Kp.refl, T0⟩ ?_ ?_
    · rintro i σ H2 hi ⟨⟨o1, o2, o3, o4, rfl⟩, k2, T2⟩
      refine ⟨_, rfl, _, rfl, sc, is, _, rfl, Kp.seqT k2 T0 hS, by omega, fun c => ?_⟩
      refine ⟨c, 1, rfl, by decide, by decide, fun p H3 fp P3 k3 => ?_⟩
      refine ⟨p, rfl, P3, fun d rs H4 W4 ok P4 K4 => ?_⟩
      have k4 : Kp [] H2 H4 := kp_drop k3 fp K4
      refine ⟨_, rfl, _, rfl, _, _, rfl, rfl, sc, is, _, rfl, k4.seq (Kp.seqT k2 T0 hS), by omega, fun c2 => ?_⟩
      refine ⟨c2, 2, rfl, by decide, by decide, fun p2 H5 fp2 P5 k5 => ?_⟩
      have W5 := W4.kp0 k5
      refine ⟨_, rfl, p2, rfl, P5, fun b H6 b1 b2 P6 K6 => ?_⟩
      have W6 := W5.kpP K6 P5
      have t : (0 : Int) < 2 * 10 ^ (50 : Int).toNat ∧ (2 : Int) * 10 ^ (50 : Int).toNat < 10 ^ 100 ∧ 2 * 10 ^ (50 : Int).toNat < (10 : Int) ^ 60 := by decide +kernel
      refine ⟨_, rfl, _, rfl, _, rfl, _, _, rfl, rfl, ⟨by decide, by decide, by decide⟩, _, _, rfl, rfl, (by decide +kernel), p2, _, rfl, P6, by omega, t.2.1, fun g H7 g0 g1 P7 K7 => ?_⟩
      have W7 := W6.kpP K7 P6
      refine ⟨_, _, rfl, rfl, ⟨by decide, by decide, by decide⟩, _, _, rfl, rfl, ?_⟩
      have k47 : Kp [] H4 H7 := kp_drop k5 fp2 (K6.trans K7)
      have k27 : Kp [] H2 H7 := k4.trans k47
      have T7 := T2.kp k27
      refine ⟨b, _, d, rs, rfl, W7, ok, b1, b2, ?_, T7, fun H8 k8 T8 => ?_⟩
      · generalize (10 : Int) ^ (50 : Int).toNat = u at *
        omega
      refine ⟨_, rfl, ?_⟩
      refine iteF ?_
      exact ⟨⟨_, _, _, _, rfl⟩, (k2.trans (k27.weak (by simp))).trans k8, T8⟩
    · rintro σ H2 ⟨⟨o1, o2, o3, o4, rfl⟩, k2, T2⟩
      exact k H2
end
end My
set_option Elab.async false
set_option linter.all false
set_option maxRecDepth 100000
set_option maxHeartbeats 4000000
namespace My
open PySem L2
theorem all_mk {c Pt : Addr} {l : PySem.W.OpenLaw} {w : World} {K : PySem.W.Frag} {h : Heap} {mg : Str → Option Value} {fa : Addr} (X : K.In h) (G : h.Ns mainGlobals mg) (hfa : mg "law" = some (.ref fa))
    {f0 : Addr} {od0 an0 : Option Addr} {sl0 : Array (Option Value)} {oc0 kV0 dc0 pm0 cd0 ct0 : Value}
    {f1 : Addr} {od1 an1 : Option Addr} {sl1 : Array (Option Value)} {oc1 kV1 dc1 pm1 cd1 ct1 : Value}
    {f2 : Addr} {od2 an2 : Option Addr} {sl2 : Array (Option Value)} {oc2 kV2 dc2 pm2 cd2 ct2 : Value}
    {f3 : Addr} {od3 an3 : Option Addr} {sl3 : Array (Option Value)} {oc3 kV3 dc3 pm3 cd3 ct3 : Value}
    {f4 : Addr} {od4 an4 : Option Addr} {sl4 : Array (Option Value)} {oc4 kV4 dc4 pm4 cd4 ct4 : Value}
    {f5 : Addr} {od5 an5 : Option Addr} {sl5 : Array (Option Value)} {oc5 kV5 dc5 pm5 cd5 ct5 : Value}
    {f6 : Addr} {od6 an6 : Option Addr} {sl6 : Array (Option Value)} {oc6 kV6 dc6 pm6 cd6 ct6 : Value}
    {f7 : Addr} {od7 an7 : Option Addr} {sl7 : Array (Option Value)} {oc7 kV7 dc7 pm7 cd7 ct7 : Value}
    {f8 : Addr} {od8 an8 : Option Addr} {sl8 : Array (Option Value)} {oc8 kV8 dc8 pm8 cd8 ct8 : Value}
    {f9 : Addr} {od9 an9 : Option Addr} {sl9 : Array (Option Value)} {oc9 kV9 dc9 pm9 cd9 ct9 : Value}
    {f10 : Addr} {od10 an10 : Option Addr} {sl10 : Array (Option Value)} {oc10 kV10 dc10 pm10 cd10 ct10 : Value}
    {f11 : Addr} {od11 an11 : Option Addr} {sl11 : Array (Option Value)} {oc11 kV11 dc11 pm11 ct11 : Value}
    {f12 : Addr} {od12 an12 : Option Addr} {sl12 : Array (Option Value)} {oc12 kV12 dc12 pm12 cd12 ct12 : Value}
    {f13 : Addr} {od13 an13 : Option Addr} {sl13 : Array (Option Value)} {oc13 kV13 dc13 pm13 cd13 ct13 : Value}
    {f14 : Addr} {od14 an14 : Option Addr} {sl14 : Array (Option Value)} {oc14 kV14 dc14 pm14 cd14 ct14 : Value}
    {f15 : Addr} {od15 an15 : Option Addr} {sl15 : Array (Option Value)} {oc15 kV15 dc15 pm15 cd15 ct15 : Value}
    {f16 : Addr} {od16 an16 : Option Addr} {sl16 : Array (Option Value)} {oc16 kV16 dc16 pm16 cd16 ct16 : Value}
    {f17 : Addr} {od17 an17 : Option Addr} {sl17 : Array (Option Value)} {oc17 kV17 dc17 pm17 cd17 ct17 : Value}
    {f18 : Addr} {od18 an18 : Option Addr} {sl18 : Array (Option Value)} {oc18 kV18 dc18 pm18 cd18 ct18 : Value}
    {f19 : Addr} {od19 an19 : Option Addr} {sl19 : Array (Option Value)} {oc19 kV19 dc19 pm19 cd19 ct19 : Value}
    {t_LONGEST_NAME : Tok}
    {t_MOST_WINDOWS : Tok}
    (a0 : PySem.W.nsIn K mainGlobals "_law_take" = some (some (.ref f0))) (l0 : K.lookup f0 = some ⟨oc0, od0, .func (PySem.W.fnOf "_law_take" "_law_take" (defArgs s_take) (defBody s_take) (defScope s_take) .none kV0 dc0 pm0 an0 cd0 ct0), sl0⟩) (c0 : PySem.W.codeIn K cd0 "_law_take" = true) (k0 : PySem.W.keepIn K (.ref f0) = true)
    (a1 : PySem.W.nsIn K mainGlobals "_law_purse" = some (some (.ref f1))) (l1 : K.lookup f1 = some ⟨oc1, od1, .func (PySem.W.fnOf "_law_purse" "_law_purse" (defArgs s_purse) (defBody s_purse) (defScope s_purse) .none kV1 dc1 pm1 an1 cd1 ct1), sl1⟩) (c1 : PySem.W.codeIn K cd1 "_law_purse" = true) (k1 : PySem.W.keepIn K (.ref f1) = true)
    (a2 : PySem.W.nsIn K mainGlobals "_law_cell" = some (some (.ref f2))) (l2 : K.lookup f2 = some ⟨oc2, od2, .func (PySem.W.fnOf "_law_cell" "_law_cell" (defArgs s_cell) (defBody s_cell) (defScope s_cell) .none kV2 dc2 pm2 an2 cd2 ct2), sl2⟩) (c2 : PySem.W.codeIn K cd2 "_law_cell" = true) (k2 : PySem.W.keepIn K (.ref f2) = true)
    (a3 : PySem.W.nsIn K mainGlobals "_law_names" = some (some (.ref f3))) (l3 : K.lookup f3 = some ⟨oc3, od3, .func (PySem.W.fnOf "_law_names" "_law_names" (defArgs s_names) (defBody s_names) (defScope s_names) .none kV3 dc3 pm3 an3 cd3 ct3), sl3⟩) (c3 : PySem.W.codeIn K cd3 "_law_names" = true) (k3 : PySem.W.keepIn K (.ref f3) = true)
    (a4 : PySem.W.nsIn K mainGlobals "is_whole" = some (some (.ref f4))) (l4 : K.lookup f4 = some ⟨oc4, od4, .func (PySem.W.fnOf "is_whole" "is_whole" (defArgs s_is_whole) (defBody s_is_whole) (defScope s_is_whole) .none kV4 dc4 pm4 an4 cd4 ct4), sl4⟩) (c4 : PySem.W.codeIn K cd4 "is_whole" = true) (k4 : PySem.W.keepIn K (.ref f4) = true)
    (a5 : PySem.W.nsIn K mainGlobals "is_name" = some (some (.ref f5))) (l5 : K.lookup f5 = some ⟨oc5, od5, .func (PySem.W.fnOf "is_name" "is_name" (defArgs s_is_name) (defBody s_is_name) (defScope s_is_name) .none kV5 dc5 pm5 an5 cd5 ct5), sl5⟩) (c5 : PySem.W.codeIn K cd5 "is_name" = true) (k5 : PySem.W.keepIn K (.ref f5) = true)
    (a6 : PySem.W.nsIn K mainGlobals "check_benches" = some (some (.ref f6))) (l6 : K.lookup f6 = some ⟨oc6, od6, .func (PySem.W.fnOf "check_benches" "check_benches" (defArgs s_check_benches) (defBody s_check_benches) (defScope s_check_benches) .none kV6 dc6 pm6 an6 cd6 ct6), sl6⟩) (c6 : PySem.W.codeIn K cd6 "check_benches" = true) (k6 : PySem.W.keepIn K (.ref f6) = true)
    (a7 : PySem.W.nsIn K mainGlobals "is_window" = some (some (.ref f7))) (l7 : K.lookup f7 = some ⟨oc7, od7, .func (PySem.W.fnOf "is_window" "is_window" (defArgs s_is_window) (defBody s_is_window) (defScope s_is_window) .none kV7 dc7 pm7 an7 cd7 ct7), sl7⟩) (c7 : PySem.W.codeIn K cd7 "is_window" = true) (k7 : PySem.W.keepIn K (.ref f7) = true)
    (a8 : PySem.W.nsIn K mainGlobals "check_windows" = some (some (.ref f8))) (l8 : K.lookup f8 = some ⟨oc8, od8, .func (PySem.W.fnOf "check_windows" "check_windows" (defArgs s_check_windows) (defBody s_check_windows) (defScope s_check_windows) .none kV8 dc8 pm8 an8 cd8 ct8), sl8⟩) (c8 : PySem.W.codeIn K cd8 "check_windows" = true) (k8 : PySem.W.keepIn K (.ref f8) = true)
    (a9 : PySem.W.nsIn K mainGlobals "find_crowd" = some (some (.ref f9))) (l9 : K.lookup f9 = some ⟨oc9, od9, .func (PySem.W.fnOf "find_crowd" "find_crowd" (defArgs s_find_crowd) (defBody s_find_crowd) (defScope s_find_crowd) .none kV9 dc9 pm9 an9 cd9 ct9), sl9⟩) (c9 : PySem.W.codeIn K cd9 "find_crowd" = true) (k9 : PySem.W.keepIn K (.ref f9) = true)
    (a10 : PySem.W.nsIn K mainGlobals "next_turn" = some (some (.ref f10))) (l10 : K.lookup f10 = some ⟨oc10, od10, .func (PySem.W.fnOf "next_turn" "next_turn" (defArgs s_next_turn) (defBody s_next_turn) (defScope s_next_turn) .none kV10 dc10 pm10 an10 cd10 ct10), sl10⟩) (c10 : PySem.W.codeIn K cd10 "next_turn" = true) (k10 : PySem.W.keepIn K (.ref f10) = true)
    (a11 : PySem.W.nsIn K mainGlobals "soonest_end_first" = some (some (.ref f11))) (l11 : K.lookup f11 = some ⟨oc11, od11, .func (PySem.W.fnOf "soonest_end_first" "soonest_end_first" (defArgs s_soonest_end_first) (defBody s_soonest_end_first) (defScope s_soonest_end_first) .none kV11 dc11 pm11 an11 (.ref c) ct11), sl11⟩) (c11 : PySem.W.codeIn K (.ref c) "soonest_end_first" = true) (k11 : PySem.W.keepIn K (.ref f11) = true)
    (a12 : PySem.W.nsIn K mainGlobals "windowed" = some (some (.ref f12))) (l12 : K.lookup f12 = some ⟨oc12, od12, .func (PySem.W.fnOf "windowed" "windowed" (defArgs s_windowed) (defBody s_windowed) (defScope s_windowed) .none kV12 dc12 pm12 an12 cd12 ct12), sl12⟩) (c12 : PySem.W.codeIn K cd12 "windowed" = true) (k12 : PySem.W.keepIn K (.ref f12) = true)
    (a13 : PySem.W.nsIn K mainGlobals "_law_benches" = some (some (.ref f13))) (l13 : K.lookup f13 = some ⟨oc13, od13, .func (PySem.W.fnOf "_law_benches" "_law_benches" (defArgs s_benches) (defBody s_benches) (defScope s_benches) .none kV13 dc13 pm13 an13 cd13 ct13), sl13⟩) (c13 : PySem.W.codeIn K cd13 "_law_benches" = true) (k13 : PySem.W.keepIn K (.ref f13) = true)
    (a14 : PySem.W.nsIn K mainGlobals "_law_far" = some (some (.ref f14))) (l14 : K.lookup f14 = some ⟨oc14, od14, .func (PySem.W.fnOf "_law_far" "_law_far" (defArgs s_far) (defBody s_far) (defScope s_far) .none kV14 dc14 pm14 an14 cd14 ct14), sl14⟩) (c14 : PySem.W.codeIn K cd14 "_law_far" = true) (k14 : PySem.W.keepIn K (.ref f14) = true)
    (a15 : PySem.W.nsIn K mainGlobals "_law_windows" = some (some (.ref f15))) (l15 : K.lookup f15 = some ⟨oc15, od15, .func (PySem.W.fnOf "_law_windows" "_law_windows" (defArgs s_windows) (defBody s_windows) (defScope s_windows) .none kV15 dc15 pm15 an15 cd15 ct15), sl15⟩) (c15 : PySem.W.codeIn K cd15 "_law_windows" = true) (k15 : PySem.W.keepIn K (.ref f15) = true)
    (a16 : PySem.W.nsIn K mainGlobals "_law_moved" = some (some (.ref f16))) (l16 : K.lookup f16 = some ⟨oc16, od16, .func (PySem.W.fnOf "_law_moved" "_law_moved" (defArgs s_moved) (defBody s_moved) (defScope s_moved) .none kV16 dc16 pm16 an16 cd16 ct16), sl16⟩) (c16 : PySem.W.codeIn K cd16 "_law_moved" = true) (k16 : PySem.W.keepIn K (.ref f16) = true)
    (a17 : PySem.W.nsIn K mainGlobals "_law_renamed" = some (some (.ref f17))) (l17 : K.lookup f17 = some ⟨oc17, od17, .func (PySem.W.fnOf "_law_renamed" "_law_renamed" (defArgs s_renamed) (defBody s_renamed) (defScope s_renamed) .none kV17 dc17 pm17 an17 cd17 ct17), sl17⟩) (c17 : PySem.W.codeIn K cd17 "_law_renamed" = true) (k17 : PySem.W.keepIn K (.ref f17) = true)
    (a18 : PySem.W.nsIn K mainGlobals "_law_right" = some (some (.ref f18))) (l18 : K.lookup f18 = some ⟨oc18, od18, .func (PySem.W.fnOf "_law_right" "_law_right" (defArgs s_right) (defBody s_right) (defScope s_right) .none kV18 dc18 pm18 an18 cd18 ct18), sl18⟩) (c18 : PySem.W.codeIn K cd18 "_law_right" = true) (k18 : PySem.W.keepIn K (.ref f18) = true)
    (a19 : PySem.W.nsIn K mainGlobals "law" = some (some (.ref f19))) (l19 : K.lookup f19 = some ⟨oc19, od19, .func (PySem.W.fnOf "law" "law" (defArgs s_law) (defBody s_law) (defScope s_law) .none kV19 dc19 pm19 an19 cd19 ct19), sl19⟩) (c19 : PySem.W.codeIn K cd19 "law" = true) (k19 : PySem.W.keepIn K (.ref f19) = true)
    (z_len : PySem.W.nsIn K mainGlobals "len" = some none)
    (z_max : PySem.W.nsIn K mainGlobals "max" = some none)
    (z_range : PySem.W.nsIn K mainGlobals "range" = some none)
    (z_int : PySem.W.nsIn K mainGlobals "int" = some none)
    (z_list : PySem.W.nsIn K mainGlobals "list" = some none)
    (z_min : PySem.W.nsIn K mainGlobals "min" = some none)
    (z_dict : PySem.W.nsIn K mainGlobals "dict" = some none)
    (z_enumerate : PySem.W.nsIn K mainGlobals "enumerate" = some none)
    (z_bool : PySem.W.nsIn K mainGlobals "bool" = some none)
    (z_sum : PySem.W.nsIn K mainGlobals "sum" = some none)
    (z_sorted : PySem.W.nsIn K mainGlobals "sorted" = some none)
    (z_str : PySem.W.nsIn K mainGlobals "str" = some none)
    (z_all : PySem.W.nsIn K mainGlobals "all" = some none)
    (z_tuple : PySem.W.nsIn K mainGlobals "tuple" = some none)
    (z_isinstance : PySem.W.nsIn K mainGlobals "isinstance" = some none)
    (e_LONGEST_NAME : PySem.W.nsIn K mainGlobals "LONGEST_NAME" = some (some (.int 8 t_LONGEST_NAME)))
    (e_MOST_WINDOWS : PySem.W.nsIn K mainGlobals "MOST_WINDOWS" = some (some (.int 20 t_MOST_WINDOWS)))
    : ∃ fd : FuncData, (∀ (s : Shared) (v : Value), BindsTo s fd ⟨[v], []⟩ [("_law_script", v)]) ∧ ∀ base : Heap, K.In base → base.Ns mainGlobals mg → BltAt mg base → (∀ q ∈ [(c, Pt)], PySem.W.CodeHd base q.1 q.2) → FnOk l.prog w K mg base CX0 7 fa fd ["_law_script"] (spLaw K Pt) := by
  have e := hfa.symm.trans (PySem.W.mg_of X G a19)
  cases e
  have T : Txt K mg := { z_len := PySem.W.mg_none_of X G z_len, z_max := PySem.W.mg_none_of X G z_max, z_range := PySem.W.mg_none_of X G z_range, z_int := PySem.W.mg_none_of X G z_int, z_list := PySem.W.mg_none_of X G z_list, z_min := PySem.W.mg_none_of X G z_min, z_dict := PySem.W.mg_none_of X G z_dict, z_enumerate := PySem.W.mg_none_of X G z_enumerate, z_bool := PySem.W.mg_none_of X G z_bool, z_sum := PySem.W.mg_none_of X G z_sum, z_sorted := PySem.W.mg_none_of X G z_sorted, z_str := PySem.W.mg_none_of X G z_str, z_all := PySem.W.mg_none_of X G z_all, z_tuple := PySem.W.mg_none_of X G z_tuple, z_isinstance := PySem.W.mg_none_of X G z_isinstance, c_LONGEST_NAME := ⟨_, PySem.W.mg_of X G e_LONGEST_NAME⟩, c_MOST_WINDOWS := ⟨_, PySem.W.mg_of X G e_MOST_WINDOWS⟩ }
  have F0 := fun_mk (st := s_take) l0 c0 k0
  have b0 := F0.binds (ps := ["_law_purse_here", "_law_many"]) fun _ _ _ _ _ _ us hl => match us, hl with | [_, _], _ => rfl
  have F1 := fun_mk (st := s_purse) l1 c1 k1
  have b1 := F1.binds (ps := ["_law_cell_here", "_law_k"]) fun _ _ _ _ _ _ us hl => match us, hl with | [_, _], _ => rfl
  have F2 := fun_mk (st := s_cell) l2 c2 k2
  have b2 := F2.binds (ps := ["_law_script", "_law_k"]) fun _ _ _ _ _ _ us hl => match us, hl with | [_, _], _ => rfl
  have F3 := fun_mk (st := s_names) l3 c3 k3
  have b3 := F3.binds (ps := ["_law_purse_here", "_law_many"]) fun _ _ _ _ _ _ us hl => match us, hl with | [_, _], _ => rfl
  have F4 := fun_mk (st := s_is_whole) l4 c4 k4
  have b4 := F4.binds (ps := ["thing"]) fun _ _ _ _ _ _ us hl => match us, hl with | [_], _ => rfl
  have F5 := fun_mk (st := s_is_name) l5 c5 k5
  have b5 := F5.binds (ps := ["thing"]) fun _ _ _ _ _ _ us hl => match us, hl with | [_], _ => rfl
  have F6 := fun_mk (st := s_check_benches) l6 c6 k6
  have b6 := F6.binds (ps := ["benches"]) fun _ _ _ _ _ _ us hl => match us, hl with | [_], _ => rfl
  have F7 := fun_mk (st := s_is_window) l7 c7 k7
  have b7 := F7.binds (ps := ["thing"]) fun _ _ _ _ _ _ us hl => match us, hl with | [_], _ => rfl
  have F8 := fun_mk (st := s_check_windows) l8 c8 k8
  have b8 := F8.binds (ps := ["windows"]) fun _ _ _ _ _ _ us hl => match us, hl with | [_], _ => rfl
  have F9 := fun_mk (st := s_find_crowd) l9 c9 k9
  have b9 := F9.binds (ps := ["benches", "windows"]) fun _ _ _ _ _ _ us hl => match us, hl with | [_, _], _ => rfl
  have F10 := fun_mk (st := s_next_turn) l10 c10 k10
  have b10 := F10.binds (ps := ["turns", "starts"]) fun _ _ _ _ _ _ us hl => match us, hl with | [_, _], _ => rfl
  have F11 := fun_mk (st := s_soonest_end_first) l11 c11 k11
  have b11 := F11.binds (ps := ["benches", "windows"]) fun _ _ _ _ _ _ us hl => match us, hl with | [_, _], _ => rfl
  have F12 := fun_mk (st := s_windowed) l12 c12 k12
  have b12 := F12.binds (ps := ["benches", "windows"]) fun _ _ _ _ _ _ us hl => match us, hl with | [_, _], _ => rfl
  have F13 := fun_mk (st := s_benches) l13 c13 k13
  have b13 := F13.binds (ps := ["_law_purse_here"]) fun _ _ _ _ _ _ us hl => match us, hl with | [_], _ => rfl
  have F14 := fun_mk (st := s_far) l14 c14 k14
  have b14 := F14.binds (ps := ["_law_purse_here"]) fun _ _ _ _ _ _ us hl => match us, hl with | [_], _ => rfl
  have F15 := fun_mk (st := s_windows) l15 c15 k15
  have b15 := F15.binds (ps := ["_law_purse_here"]) fun _ _ _ _ _ _ us hl => match us, hl with | [_], _ => rfl
  have F16 := fun_mk (st := s_moved) l16 c16 k16
  have b16 := F16.binds (ps := ["_law_windows_here", "_law_early", "_law_late"]) fun _ _ _ _ _ _ us hl => match us, hl with | [_, _, _], _ => rfl
  have F17 := fun_mk (st := s_renamed) l17 c17 k17
  have b17 := F17.binds (ps := ["_law_windows_here"]) fun _ _ _ _ _ _ us hl => match us, hl with | [_], _ => rfl
  have F18 := fun_mk (st := s_right) l18 c18 k18
  have b18 := F18.binds (ps := ["_law_benches_here", "_law_windows_here", "_law_far_here"]) fun _ _ _ _ _ _ us hl => match us, hl with | [_, _, _], _ => rfl
  have F19 := fun_mk (st := s_law) l19 c19 k19
  refine ⟨PySem.W.fnOf "law" "law" (defArgs s_law) (defBody s_law) (defScope s_law) .none kV19 dc19 pm19 an19 cd19 ct19, fun s v => .of_eq rfl, fun base _ _ B CH => ?_⟩
  have C_take : Cal l.prog w K mg base "_law_take" 1 ["_law_purse_here", "_law_many"] spTake := ⟨f0, _, PySem.W.mg_of X G a0, k0, b0, ok_take F0 ⟩
  have C_purse : Cal l.prog w K mg base "_law_purse" 1 ["_law_cell_here", "_law_k"] spPurse := ⟨f1, _, PySem.W.mg_of X G a1, k1, b1, ok_purse F1 T⟩
  have C_cell : Cal l.prog w K mg base "_law_cell" 1 ["_law_script", "_law_k"] (spCell K) := ⟨f2, _, PySem.W.mg_of X G a2, k2, b2, ok_cell F2 T⟩
  have C_lnames : Cal l.prog w K mg base "_law_names" 2 ["_law_purse_here", "_law_many"] spLNames := ⟨f3, _, PySem.W.mg_of X G a3, k3, b3, ok_names F3 T C_take⟩
  have C_is_whole : Cal l.prog w K mg base "is_whole" 1 ["thing"] spWhole := ⟨f4, _, PySem.W.mg_of X G a4, k4, b4, ok_is_whole F4 T⟩
  have C_is_name : Cal l.prog w K mg base "is_name" 1 ["thing"] spIsName := ⟨f5, _, PySem.W.mg_of X G a5, k5, b5, ok_is_name F5 T⟩
  have C_check_benches : Cal l.prog w K mg base "check_benches" 2 ["benches"] spCheckB := ⟨f6, _, PySem.W.mg_of X G a6, k6, b6, ok_check_benches F6 C_is_whole⟩
  have C_is_window : Cal l.prog w K mg base "is_window" 2 ["thing"] spIsWin := ⟨f7, _, PySem.W.mg_of X G a7, k7, b7, ok_is_window F7 T C_is_whole⟩
  have C_check_windows : Cal l.prog w K mg base "check_windows" 3 ["windows"] spCheckW := ⟨f8, _, PySem.W.mg_of X G a8, k8, b8, ok_check_windows F8 T C_is_name C_is_window⟩
  have C_find_crowd : Cal l.prog w K mg base "find_crowd" 1 ["benches", "windows"] spFind := ⟨f9, _, PySem.W.mg_of X G a9, k9, b9, ok_find_crowd F9 T⟩
  have C_next_turn : Cal l.prog w K mg base "next_turn" 1 ["turns", "starts"] spNext := ⟨f10, _, PySem.W.mg_of X G a10, k10, b10, ok_next_turn F10 T⟩
  have C_soon : Cal l.prog w K mg base "soonest_end_first" 4 ["benches", "windows"] (spSoon Pt) := ⟨f11, _, PySem.W.mg_of X G a11, k11, b11, ok_soonest l11 c11 T B (CH (c, Pt) (List.mem_singleton.mpr rfl)) C_next_turn⟩
  have C_windowed : Cal l.prog w K mg base "windowed" 5 ["benches", "windows"] (spWindowed Pt) := ⟨f12, _, PySem.W.mg_of X G a12, k12, b12, ok_windowed F12 C_check_benches C_check_windows C_find_crowd C_soon⟩
  have C_benches : Cal l.prog w K mg base "_law_benches" 2 ["_law_purse_here"] spLBenches := ⟨f13, _, PySem.W.mg_of X G a13, k13, b13, ok_benches F13 C_take⟩
  have C_far : Cal l.prog w K mg base "_law_far" 2 ["_law_purse_here"] spFar := ⟨f14, _, PySem.W.mg_of X G a14, k14, b14, ok_far F14 C_take⟩
  have C_windows : Cal l.prog w K mg base "_law_windows" 3 ["_law_purse_here"] spLWin := ⟨f15, _, PySem.W.mg_of X G a15, k15, b15, ok_windows F15 C_take C_lnames C_far⟩
  have C_moved : Cal l.prog w K mg base "_law_moved" 1 ["_law_windows_here", "_law_early", "_law_late"] spMoved := ⟨f16, _, PySem.W.mg_of X G a16, k16, b16, ok_moved F16 ⟩
  have C_renamed : Cal l.prog w K mg base "_law_renamed" 1 ["_law_windows_here"] spRenamed := ⟨f17, _, PySem.W.mg_of X G a17, k17, b17, ok_renamed F17 T⟩
  have C_right : Cal l.prog w K mg base "_law_right" 6 ["_law_benches_here", "_law_windows_here", "_law_far_here"] (spRight Pt) := ⟨f18, _, PySem.W.mg_of X G a18, k18, b18, ok_right F18 T C_windowed C_moved C_renamed⟩
  exact ok_law F19 T C_cell C_purse C_take C_windows C_benches C_right
theorem walk {c Pt : Addr} {l : PySem.W.OpenLaw} {q : Program} {loose : List Str} {XP : (Str → Option Value) → Heap → Prop} {YP : World → Heap → Prop} {d : DefRec} {K : Params → PySem.W.Frag} (hn : l.most = some 63) (hdf : d.params.defaults = [])
    (hY : ∀ (w : World) (h : Heap), YP w h → (K w.params).In h) (hT : ∀ (w : World) (h : Heap), YP w h → PySem.W.TabsAt [(c, Pt)] h) (hKT : ∀ (w : World), ∀ q ∈ [(c, Pt)], (K w.params).lookup q.2 = none)
    (F : ∀ (w : World) (mg : Str → Option Value) (fa : Addr) (h : Heap), (K w.params).In h → h.Ns mainGlobals mg → mg d.name = some (.ref fa) →
      ∃ fd : FuncData, (∀ (s : Shared) (u : Value), BindsTo s fd ⟨[u], []⟩ [("_law_script", u)]) ∧ ∀ base : Heap, (K w.params).In base → base.Ns mainGlobals mg → BltAt mg base → (∀ q ∈ [(c, Pt)], PySem.W.CodeHd base q.1 q.2) → FnOk l.prog w (K w.params) mg base CX0 7 fa fd ["_law_script"] (spLaw (K w.params) Pt)) :
    PySem.W.WalkO q loose XP YP l.row.toRowW d [] (fun f vs => PySem.call f vs) :=
  L2.walk_ofT (n := 63) (k := 7) (x := "_law_script") (CX := fun _ => CX0) (sp := fun w => spLaw (K w.params) Pt) hn (by decide) hdf ⟨rfl, by decide, by decide⟩ hY hT hKT F (fun _ _ a ns hl hS hH => ⟨a, ns, rfl, hS, hl, .inl (hH (c, Pt) (List.mem_singleton.mpr rfl)), fun _ => rfl⟩) fun _ _ _ _ _ z => z
end My
namespace PySem.W.Fast
def tw3652507560602777973 : Nat := 0
def tw11863006449501798065 : Nat := 0
def tw5571754664111141514 : Nat := 0
def tw4978952352293775760 : Nat := 0
def tw15671915023500391264 : Nat := 0
def tw2407680425506602866 : Nat := 0
def tw11920285502373365806 : Nat := 0
def tw8430694703841181038 : Nat := 0
def tw4330856907875564987 : Nat := 0
def tw7360055110685348972 : Nat := 0
def tw3855292217180014222 : Nat := 0
end PySem.W.Fast
open PySem PySem.W PyProof.Rows
set_option maxRecDepth 100000 in
set_option maxHeartbeats 0 in
theorem PySem.Challenge.cw_levelbench_k75_whole_windows_moved_holds : PySem.Challenge.rw_levelbench_k75_whole_windows_moved.Holds := by
  w_on; o_law; k_head; (case hw => w_witness2)
  k_fill
  refine My.walk (c := 110) (Pt := 108) (l := PySem.Challenge.rw_levelbench_k75_whole_windows_moved) rfl rfl (fun w h Y => PySem.W.km_in_of Y) (fun w h Y => List.forall_mem_cons.mpr ⟨⟨PySem.W.codeHd_of_K (c := 110) (P := 108) (PySem.W.km_in_of Y) (by kernel_rfl), PySem.W.km_tabs_of Y 108 (by k_mem)⟩, fun _ h => nomatch h⟩) (fun w => List.forall_mem_cons.mpr ⟨by kernel_rfl, fun _ h => nomatch h⟩) ?F
  case F =>
    intro w mg fa h KX G hmg
    refine' My.all_mk (c := 110) (Pt := 108) KX G hmg ?a0 ?l0 ?c0 ?k0 ?a1 ?l1 ?c1 ?k1 ?a2 ?l2 ?c2 ?k2 ?a3 ?l3 ?c3 ?k3 ?a4 ?l4 ?c4 ?k4 ?a5 ?l5 ?c5 ?k5 ?a6 ?l6 ?c6 ?k6 ?a7 ?l7 ?c7 ?k7 ?a8 ?l8 ?c8 ?k8 ?a9 ?l9 ?c9 ?k9 ?a10 ?l10 ?c10 ?k10 ?a11 ?l11 ?c11 ?k11 ?a12 ?l12 ?c12 ?k12 ?a13 ?l13 ?c13 ?k13 ?a14 ?l14 ?c14 ?k14 ?a15 ?l15 ?c15 ?k15 ?a16 ?l16 ?c16 ?k16 ?a17 ?l17 ?c17 ?k17 ?a18 ?l18 ?c18 ?k18 ?a19 ?l19 ?c19 ?k19 ?z_len ?z_max ?z_range ?z_int ?z_list ?z_min ?z_dict ?z_enumerate ?z_bool ?z_sum ?z_sorted ?z_str ?z_all ?z_tuple ?z_isinstance ?e_LONGEST_NAME ?e_MOST_WINDOWS
    (case a0 => k_is)
    (case l0 => k_is)
    (case c0 => k_is)
    (case k0 => k_is)
    (case a1 => k_is)
    (case l1 => k_is)
    (case c1 => k_is)
    (case k1 => k_is)
    (case a2 => k_is)
    (case l2 => k_is)
    (case c2 => k_is)
    (case k2 => k_is)
    (case a3 => k_is)
    (case l3 => k_is)
    (case c3 => k_is)
    (case k3 => k_is)
    (case a4 => k_is)
    (case l4 => k_is)
    (case c4 => k_is)
    (case k4 => k_is)
    (case a5 => k_is)
    (case l5 => k_is)
    (case c5 => k_is)
    (case k5 => k_is)
    (case a6 => k_is)
    (case l6 => k_is)
    (case c6 => k_is)
    (case k6 => k_is)
    (case a7 => k_is)
    (case l7 => k_is)
    (case c7 => k_is)
    (case k7 => k_is)
    (case a8 => k_is)
    (case l8 => k_is)
    (case c8 => k_is)
    (case k8 => k_is)
    (case a9 => k_is)
    (case l9 => k_is)
    (case c9 => k_is)
    (case k9 => k_is)
    (case a10 => k_is)
    (case l10 => k_is)
    (case c10 => k_is)
    (case k10 => k_is)
    (case a11 => k_is)
    (case l11 => k_is)
    (case c11 => k_is)
    (case k11 => k_is)
    (case a12 => k_is)
    (case l12 => k_is)
    (case c12 => k_is)
    (case k12 => k_is)
    (case a13 => k_is)
    (case l13 => k_is)
    (case c13 => k_is)
    (case k13 => k_is)
    (case a14 => k_is)
    (case l14 => k_is)
    (case c14 => k_is)
    (case k14 => k_is)
    (case a15 => k_is)
    (case l15 => k_is)
    (case c15 => k_is)
    (case k15 => k_is)
    (case a16 => k_is)
    (case l16 => k_is)
    (case c16 => k_is)
    (case k16 => k_is)
    (case a17 => k_is)
    (case l17 => k_is)
    (case c17 => k_is)
    (case k17 => k_is)
    (case a18 => k_is)
    (case l18 => k_is)
    (case c18 => k_is)
    (case k18 => k_is)
    (case a19 => k_is)
    (case l19 => k_is)
    (case c19 => k_is)
    (case k19 => k_is)
    (case z_len => k_is)
    (case z_max => k_is)
    (case z_range => k_is)
    (case z_int => k_is)
    (case z_list => k_is)
    (case z_min => k_is)
    (case z_dict => k_is)
    (case z_enumerate => k_is)
    (case z_bool => k_is)
    (case z_sum => k_is)
    (case z_sorted => k_is)
    (case z_str => k_is)
    (case z_all => k_is)
    (case z_tuple => k_is)
    (case z_isinstance => k_is)
    (case e_LONGEST_NAME => k_is)
    (case e_MOST_WINDOWS => k_is)
