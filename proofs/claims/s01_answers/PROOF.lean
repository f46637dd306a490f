import PyProof.Rows.All
import Wide.All
import OpenK.AllK
import Wide.FinOn
import PyProof.EqAt
import PyProof.EqKinds
import PyProof.TupleCall
import KE.BitLaws
import Open.SpecLaws
import KE.OsHead
import KE.OsGo
import PyProof.SumAny
import KE.KDictList
import PySem.Challenge.RW_middleone_s01_answers
section
set_option Elab.async false
set_option linter.all false
set_option maxRecDepth 100000
namespace L2
open PySem PySem.Spec PyProof.Rows
abbrev Key := Sum Int Str
def keyIs : Key → Value → Bool
  | .inl k, v => Value.isInt k v
  | .inr x, v => Value.isStrOf x v
def keyH (w : World) : Key → Int
  | .inl k => hashInt k
  | .inr x => hashStr w x
theorem keyIs_shape : ∀ {k : Key} {v : Value}, keyIs k v = true → (∃ i t, k = Sum.inl i ∧ v = Value.int i t) ∨ (∃ x t, k = Sum.inr x ∧ v = Value.str x t)
  | .inl i, v, h => by
    obtain ⟨t, e⟩ := Value.isInt_shape (k := i) (v := v) h
    exact .inl ⟨i, t, rfl, e⟩
  | .inr x, v, h => by
    obtain ⟨t, e⟩ := Value.isStrOf_shape (x := x) (v := v) h
    exact .inr ⟨x, t, rfl, e⟩
theorem keyIs_int (i : Int) (t : Tok) : keyIs (.inl i) (.int i t) = true := by simp [keyIs, Value.isInt]
theorem keyIs_str (x : Str) (t : Tok) : keyIs (.inr x) (.str x t) = true := by simp [keyIs, Value.isStrOf]
theorem key_ll (a b : Int) : decide ((Sum.inl a : Key) = Sum.inl b) = (a == b) := by
  by_cases e : a = b
  · subst e; simp
  · have h : ¬ (Sum.inl a : Key) = Sum.inl b := fun q => e (Sum.inl.inj q)
    rw [decide_eq_false h]
    exact (beq_eq_false_iff_ne.mpr e).symm
theorem key_rr (a b : Str) : decide ((Sum.inr a : Key) = Sum.inr b) = decide (a = b) := by
  by_cases e : a = b
  · subst e; simp
  · have h : ¬ (Sum.inr a : Key) = Sum.inr b := fun q => e (Sum.inr.inj q)
    rw [decide_eq_false h, decide_eq_false e]
theorem key_lr (a : Int) (b : Str) : decide ((Sum.inl a : Key) = Sum.inr b) = false := decide_eq_false (fun q => nomatch q)
theorem key_rl (a : Str) (b : Int) : decide ((Sum.inr a : Key) = Sum.inl b) = false := decide_eq_false (fun q => nomatch q)
def mixKind (prog : Program) (w : World) : PySem.KeyKind prog w Key where
  is := keyIs
  hash := keyH w
  inj := fun v a b ha hb => by
    rcases keyIs_shape ha with ⟨i, t, rfl, rfl⟩ | ⟨x, t, rfl, rfl⟩
    · rcases keyIs_shape hb with ⟨j, u, rfl, e⟩ | ⟨y, u, rfl, e⟩
      · injection e with e1 _; rw [e1]
      · exact nomatch e
    · rcases keyIs_shape hb with ⟨j, u, rfl, e⟩ | ⟨y, u, rfl, e⟩
      · exact nomatch e
      · injection e with e1 _; rw [e1]
  byValue := fun k v h => by
    rcases keyIs_shape h with ⟨i, t, rfl, rfl⟩ | ⟨x, t, rfl, rfl⟩ <;> rfl
  pyHash := fun hv h => by
    rcases keyIs_shape hv with ⟨i, t, rfl, rfl⟩ | ⟨x, t, rfl, rfl⟩
    · exact wpAny_pyHash_int h
    · exact wpAny_pyHash_str h
  eqBool := fun hu hv h => by
    rcases keyIs_shape hu with ⟨i, t, rfl, rfl⟩ | ⟨x, t, rfl, rfl⟩
    · rcases keyIs_shape hv with ⟨j, u, rfl, rfl⟩ | ⟨y, u, rfl, rfl⟩
      · rw [key_ll] at h; exact wpAny_eqBool_int h
      · rw [key_lr] at h; exact SeqAt.EqAt.int_str i t y u _ _ _ _ h
    · rcases keyIs_shape hv with ⟨j, u, rfl, rfl⟩ | ⟨y, u, rfl, rfl⟩
      · rw [key_rl] at h; exact SeqAt.EqAt.str_int x t j u _ _ _ _ h
      · rw [key_rr] at h; exact wpAny_eqBool_str h
  «strs» := fun k x t v h => by
    rcases keyIs_shape h with ⟨i, u, rfl, e⟩ | ⟨y, u, rfl, e⟩
    · exact nomatch e
    · injection e with e1 _
      subst e1
      cases v <;> rfl
theorem mixKind_int (prog : Program) (w : World) (i : Int) (t : Tok) : (mixKind prog w).is (.inl i) (.int i t) = true := keyIs_int i t
theorem mixKind_str (prog : Program) (w : World) (x : Str) (t : Tok) : (mixKind prog w).is (.inr x) (.str x t) = true := keyIs_str x t
end L2
namespace L2
open PySem PySem.Spec PyProof.Rows
inductive V where
  | non | bl (b : Bool) | int (i : Int) | str (x : Str) | byt (b : Array UInt8) | flt (b : UInt64) | ref (a : Addr) | ty (n : String)
  deriving DecidableEq
def RelV : V → Value → Prop
  | .non, u => u = Value.none
  | .bl b, u => u = Value.bool b
  | .int i, u => ∃ t, u = Value.int i t
  | .str x, u => ∃ t, u = Value.str x t
  | .byt b, u => ∃ t, u = Value.bytes b t
  | .flt b, u => ∃ t, u = Value.float b t
  | .ref a, u => u = Value.ref a
  | .ty n, u => u = Value.type n
abbrev Vals : List V → List Value → Prop := Paired RelV
theorem Vals.length {xs : List V} {us : List Value} (r : Vals xs us) : xs.length = us.length := Paired.length r
theorem Vals.get : ∀ {xs : List V} {us : List Value} {i : Nat} {x : V}, Vals xs us → xs[i]? = some x → ∃ u, us[i]? = some u ∧ RelV x u
  | _, _, _, _, .nil, e => by simp at e
  | _, _, 0, _, .cons r _, e => by simp at e; subst e; exact ⟨_, rfl, r⟩
  | _, _, i + 1, x, .cons _ t, e => by
    obtain ⟨u, h1, h2⟩ := Vals.get (i := i) (x := x) t (by simpa using e)
    exact ⟨u, by simpa using h1, h2⟩
theorem Vals.set {x : V} {u : Value} (r : RelV x u) : ∀ {xs : List V} {us : List Value} (i : Nat), Vals xs us → Vals (xs.set i x) (us.set i u)
  | _, _, _, .nil => .nil
  | _, _, 0, .cons _ t => .cons r t
  | _, _, i + 1, .cons q t => .cons q (Vals.set r i t)
theorem Vals.append : ∀ {xs ys : List V} {us ws : List Value}, Vals xs us → Vals ys ws → Vals (xs ++ ys) (us ++ ws)
  | _, _, _, _, .nil, s => s
  | _, _, _, _, .cons r t, s => .cons r (Vals.append t s)
theorem Vals.take : ∀ {xs : List V} {us : List Value} (n : Nat), Vals xs us → Vals (xs.take n) (us.take n)
  | _, _, 0, _ => .nil
  | _, _, _ + 1, .nil => .nil
  | _, _, n + 1, .cons r t => .cons r (Vals.take n t)
theorem Vals.drop : ∀ {xs : List V} {us : List Value} (n : Nat), Vals xs us → Vals (xs.drop n) (us.drop n)
  | _, _, 0, r => r
  | _, _, _ + 1, .nil => .nil
  | _, _, n + 1, .cons _ t => Vals.drop n t
def RelO : Option V → Option Value → Prop
  | some v, some u => RelV v u
  | none, none => True
  | _, _ => False
def KV {κ : Type} : List (κ × V) → List (κ × Value) → Prop := Paired fun (p : κ × V) (q : κ × Value) => p.1 = q.1 ∧ RelV p.2 q.2
def kV : Key → V
  | .inl i => .int i
  | .inr x => .str x
inductive HO where
  | lst (xs : List V)
  | tup (xs : List V)
  | dK (kvs : List (Key × V))
  | ins (C dx : Addr) (fs : List (Str × V))
  | own (x : Addr)
  | frz (o : Obj) (u : HO)
  | tbl (ps : Array Value)
  | ext (φ : Heap → Prop)
abbrev Hp := Addr → Option HO
def upd (H : Hp) (a : Addr) (o : HO) : Hp := fun b => if b = a then some o else H b
theorem upd_same {H : Hp} {a : Addr} {o : HO} : upd H a o a = some o := by unfold upd; rw [if_pos rfl]
theorem upd_ne {H : Hp} {a b : Addr} {o : HO} (h : b ≠ a) : upd H a o b = H b := by unfold upd; rw [if_neg h]
theorem ne_of {H : Hp} {a b : Addr} {o u : HO} (h : H a = some o) (h' : H b = some u) (d : o ≠ u) : a ≠ b := by
  intro e; subst e; rw [h] at h'; exact d (Option.some.inj h')
theorem ne_of_none {H : Hp} {a b : Addr} {o : HO} (h : H a = some o) (h' : H b = none) : a ≠ b := by
  intro e; subst e; rw [h] at h'; cases h'
section
variable (P : Program) (w : World)
def ObjOk (H : Hp) (h : Heap) (a : Addr) : HO → Prop
  | .lst xs => xs.length ≤ sizeLine ∧ ∃ (its : List Value) (n : Nat), Vals xs its ∧ h.get? a = some { cls := .type "list", data := .seq its.toArray n }
  | .tup xs => xs.length ≤ sizeLine ∧ ∃ its : List Value, Vals xs its ∧ IsTup h a its.toArray
  | .dK kvs => kvs.length ≤ sizeLine ∧ (a == sysModules) = false ∧ ∃ vs, KV kvs vs ∧ h.DictOf (mixKind P w) a vs
  | .ins C dx fs => H dx = some (.own a) ∧ fs.length ≤ 1000 ∧ dx ≠ a ∧ h.get? a = some (PySem.W.instObj C dx) ∧
      ∃ mA, h.Ns1 dx mA ∧ (∀ f, RelO (fs.lookup f) (mA f)) ∧ PySem.Within mA (fs.map (·.1))
  | .own _ => ∃ o, h.get? a = some o
  | .frz o u => h.get? a = some o ∧ ObjOk H h a u
  | .tbl ps => h.get? a = some { cls := .none, data := .fields ps }
  | .ext φ => φ h ∧ (∃ o, h.get? a = some o) ∧ ∀ h1 h2 : Heap, φ h1 → (∀ o, h1.get? a = some o → h2.get? a = some o) → φ h2
def HOk (H : Hp) (h : Heap) : Prop := ∀ a o, H a = some o → ObjOk P w H h a o
end
section
variable {P : Program} {w : World} {H H' : Hp} {h h' : Heap} {a : Addr} {o : HO}
theorem ObjOk.lt (x : ObjOk P w H h a o) : a < h.objs.size := by
  cases o with
  | lst xs => obtain ⟨_, _, _, _, e⟩ := x; exact Heap.lt_size e
  | tup xs => obtain ⟨_, _, _, p⟩ := x; exact p.lt
  | dK kvs => obtain ⟨_, _, _, _, o, _, _, e, _⟩ := x; exact Heap.lt_size e
  | ins C dx fs => obtain ⟨_, _, _, e, _⟩ := x; exact Heap.lt_size e
  | own y => obtain ⟨_, e⟩ := x; exact Heap.lt_size e
  | frz ob u => obtain ⟨e, _⟩ := x; exact Heap.lt_size e
  | tbl ps => exact Heap.lt_size (show h.get? a = some _ from x)
  | ext φ => obtain ⟨_, ⟨_, e⟩, _⟩ := x; exact Heap.lt_size e
theorem ObjOk.stay (x : ObjOk P w H h a o) (k : ∀ b u, (b = a ∨ H b = some (.own a)) → h.get? b = some u → h'.get? b = some u)
    (ho : ∀ b, H b = some (.own a) → H' b = some (.own a)) (ht : ∀ b xs, H b = some (.tup xs) → H' b = some (.tup xs)) : ObjOk P w H' h' a o := by
  induction o with
  | lst xs => obtain ⟨z, its, n, r, e⟩ := x; exact ⟨z, its, n, r, k _ _ (.inl rfl) e⟩
  | tup xs => obtain ⟨z, its, r, ob, e, c⟩ := x; exact ⟨z, its, r, ob, k _ _ (.inl rfl) e, c⟩
  | dK kvs => obtain ⟨z, y, vs, r, ob, es, ep, e, c⟩ := x; exact ⟨z, y, vs, r, ob, es, ep, k _ _ (.inl rfl) e, c⟩
  | ins C dx fs =>
    obtain ⟨d, z, ne, e, mA, ⟨od, es, ep, e2, c⟩, r⟩ := x
    exact ⟨ho _ d, z, ne, k _ _ (.inl rfl) e, mA, ⟨od, es, ep, k _ _ (.inr d) e2, c⟩, r⟩
  | own y => obtain ⟨ob, e⟩ := x; exact ⟨ob, k _ _ (.inl rfl) e⟩
  | frz ob u ih => obtain ⟨e, q⟩ := x; exact ⟨k _ _ (.inl rfl) e, ih q⟩
  | tbl ps =>
    have e : h.get? a = some { cls := .none, data := .fields ps } := x
    show h'.get? a = some { cls := .none, data := .fields ps }
    exact k a _ (.inl rfl) e
  | ext φ => obtain ⟨p, ⟨o, e⟩, st⟩ := x; exact ⟨st _ _ p fun o q => k _ _ (.inl rfl) q, ⟨o, k _ _ (.inl rfl) e⟩, st⟩
theorem HOk.lt (x : HOk P w H h) (e : H a = some o) : a < h.objs.size := (x a o e).lt
theorem HOk.fresh (x : HOk P w H h) (e : h.objs.size ≤ a) : H a = none := by
  cases q : H a with
  | none => rfl
  | some u => exact absurd (Nat.lt_of_lt_of_le (x.lt q) e) (Nat.lt_irrefl _)
theorem HOk.kept (x : HOk P w H h) (k : ∀ b u, h.get? b = some u → h'.get? b = some u) : HOk P w H h' := fun a o e =>
  (x a o e).stay (fun b u _ q => k b u q) (fun _ q => q) fun _ _ q => q
theorem HOk.laid (x : HOk P w H h) (k : ∀ b u, h.get? b = some u → h'.get? b = some u) (hp : h.objs.size ≤ a) (new : ObjOk P w (upd H a o) h' a o) : HOk P w (upd H a o) h' := fun b u e => by
  have hn := x.fresh hp
  by_cases hb : b = a
  · subst hb; rw [upd_same] at e; cases e; exact new
  · rw [upd_ne hb] at e
    exact (x b u e).stay (fun c v _ q => k c v q) (fun c q => by rw [upd_ne (ne_of_none q hn)]; exact q) fun c xs q => by rw [upd_ne (ne_of_none q hn)]; exact q
end
def Rd (H : Hp) (a : Addr) (u : HO) : Prop := H a = some u ∨ ∃ o, H a = some (.frz o u)
theorem Rd.ok {P : Program} {w : World} {H : Hp} {h : Heap} {a : Addr} {u : HO} (r : Rd H a u) (x : HOk P w H h) : ObjOk P w H h a u := by
  rcases r with r | ⟨o, r⟩
  · exact x a u r
  · obtain ⟨_, q⟩ := x a _ r
    exact q
def Mut : Option HO → Prop
  | some (.lst _) => True
  | some (.dK _) => True
  | some (.ins _ _ _) => True
  | some (.ext _) => True
  | _ => False
section
variable {P : Program} {w : World} {H : Hp} {h h' : Heap} {x e : Addr} {o' : HO}
theorem HOk.write (ok : HOk P w H h) (mu : Mut (H x)) (he : e = x ∨ H e = some (.own x)) (k : ∀ b u, b ≠ e → h.get? b = some u → h'.get? b = some u) (heo : ∃ u, h'.get? e = some u)
    (new : ObjOk P w (upd H x o') h' x o') : HOk P w (upd H x o') h' := fun b u q => by
  have nown : ∀ c y, H c = some (.own y) → c ≠ x := fun c y r z => by subst z; rw [r] at mu; exact mu
  have ntup : ∀ c xs, H c = some (.tup xs) → c ≠ x := fun c xs r z => by subst z; rw [r] at mu; exact mu
  by_cases hb : b = x
  · subst hb; rw [upd_same] at q; cases q; exact new
  · rw [upd_ne hb] at q
    by_cases hbe : b = e
    · have q' : H b = some (.own x) := by
        rcases he with z | z
        · exact absurd (hbe.trans z) hb
        · rw [hbe]; exact z
      rw [q] at q'; cases q'
      obtain ⟨v, hv⟩ := heo
      exact ⟨v, by rw [hbe]; exact hv⟩
    · refine (ok b u q).stay (fun c v hc r => k c v ?_ r) (fun c r => by rw [upd_ne (nown c b r)]; exact r) fun c xs r => by rw [upd_ne (ntup c xs r)]; exact r
      rcases hc with rfl | hc
      · exact hbe
      · rintro rfl
        rcases he with z | z
        · exact nown c b hc z
        · rw [hc] at z; cases z; exact hb rfl
end
structure Un (fs ex : List Addr) (H H' : Hp) (h h' : Heap) : Prop where
  keep : ∀ b o, h.get? b = some o → H b = none → b ∉ fs → b ∉ ex → h'.get? b = some o
  slot : ∀ b o, h.get? b = some o → H b = none → b ∈ fs → b ∉ ex → ∃ sl, h'.get? b = some { o with slots := sl }
  free : ∀ b o, h.get? b = some o → H b = none → b ∉ ex → H' b = none
  there : ∀ b o, h.get? b = some o → b ∉ ex → ∃ o', h'.get? b = some o'
  tups : ∀ b xs, H b = some (.tup xs) → H' b = some (.tup xs)
  frzs : ∀ b o u, H b = some (.frz o u) → H' b = some (.frz o u)
  tbls : ∀ b ps, H b = some (.tbl ps) → ∃ more, H' b = some (.tbl (ps ++ more))
section
variable {fs fs' ex ex' : List Addr} {H H1 H2 : Hp} {h h1 h2 h' : Heap} {a x e : Addr} {o : HO}
theorem Un.any (u : Un fs ex H H1 h h1) {b : Addr} {ob : Obj} (q : h.get? b = some ob) (n : H b = none) (hx : b ∉ ex) : ∃ sl, h1.get? b = some { ob with slots := sl } := by
  by_cases hb : b ∈ fs
  · exact u.slot b ob q n hb hx
  · exact ⟨ob.slots, u.keep b ob q n hb hx⟩
theorem Un.kept (k : ∀ b u, h.get? b = some u → h'.get? b = some u) : Un fs ex H H h h' :=
  ⟨fun b ob q _ _ _ => k b ob q, fun b ob q _ _ _ => ⟨ob.slots, k b ob q⟩, fun _ _ _ n _ => n, fun b ob q _ => ⟨ob, k b ob q⟩, fun _ _ q => q, fun _ _ _ q => q, fun _ ps q => ⟨#[], by rw [q]; simp⟩⟩
theorem Un.refl : Un fs ex H H h h := Un.kept fun _ _ q => q
theorem Un.laid (k : ∀ b u, h.get? b = some u → h'.get? b = some u) (hp : h.objs.size ≤ a) (hn : H a = none) : Un fs ex H (upd H a o) h h' where
  keep := fun b u q _ _ _ => k b u q
  slot := fun b u q _ _ _ => ⟨u.slots, k b u q⟩
  free := fun b u q n _ => by rw [upd_ne (Nat.ne_of_lt (Nat.lt_of_lt_of_le (Heap.lt_size q) hp))]; exact n
  there := fun b u q _ => ⟨u, k b u q⟩
  tups := fun b xs q => by rw [upd_ne (ne_of_none q hn)]; exact q
  frzs := fun b u xs q => by rw [upd_ne (ne_of_none q hn)]; exact q
  tbls := fun b ps q => ⟨#[], by rw [upd_ne (ne_of_none q hn), q]; simp⟩
theorem Un.write (mu : Mut (H x)) (he : e = x ∨ H e = some (.own x)) (k : ∀ b u, b ≠ e → h.get? b = some u → h'.get? b = some u) (heo : ∃ u, h'.get? e = some u) : Un fs ex H (upd H x o) h h' := by
  have hx : ∀ b, H b = none → b ≠ x := fun b n z => by subst z; rw [n] at mu; exact mu
  have hb : ∀ b, H b = none → b ≠ e := fun b n z => by
    subst z
    rcases he with r | r
    · exact hx b n r
    · rw [n] at r; cases r
  have hm : ∀ b u, H b = some u → ¬ Mut (some u) → b ≠ x := fun b u q nm z => by subst z; rw [q] at mu; exact nm mu
  refine ⟨fun b u q n _ _ => k b u (hb b n) q, fun b u q n _ _ => ⟨u.slots, k b u (hb b n) q⟩, fun b u q n _ => by rw [upd_ne (hx b n)]; exact n, fun b u q _ => ?_,
    fun b xs q => by rw [upd_ne (hm b _ q fun z => z)]; exact q, fun b u xs q => by rw [upd_ne (hm b _ q fun z => z)]; exact q, fun b ps q => ⟨#[], by rw [upd_ne (hm b _ q fun z => z), q]; simp⟩⟩
  by_cases hbe : b = e
  · subst hbe; exact heo
  · exact ⟨u, k b u hbe q⟩
end
def trk (h : Heap) (H : Hp) : List Addr := (List.range h.objs.size).filter fun a => (H a).isSome
def hidT (h : Heap) (H : Hp) : Heap := PySem.W.hideAll h (trk h H)
theorem hidT_size (h : Heap) (H : Hp) : (hidT h H).objs.size = h.objs.size := PySem.W.hideAll_size _ _
theorem hidT_get {h : Heap} {H : Hp} {b : Addr} {o : Obj} (e : h.get? b = some o) (n : H b = none) : (hidT h H).get? b = some o :=
  PySem.W.hideAll_get _ e fun hm => by
    have q : (H b).isSome = true := (List.mem_filter.mp hm).2
    rw [n] at q; simp at q
theorem of_hidT {h : Heap} {H : Hp} {b : Addr} {o : Obj} (e : (hidT h H).get? b = some o) : h.get? b = some o ∧ H b = none := by
  have e' : h.get? b = some o := PySem.W.of_hideAll (trk h H) e
  refine ⟨e', ?_⟩
  cases q : H b with
  | none => rfl
  | some x =>
    have hm : b ∈ trk h H := List.mem_filter.mpr ⟨List.mem_range.mpr (Heap.lt_size e'), by simp [q]⟩
    have z : (hidT h H).get? b = none := PySem.W.hideAll_none (trk h H) hm
    rw [z] at e; cases e
end L2
namespace L2
open PySem PySem.Spec PyProof.Rows
structure Mod (K : PySem.W.Frag) (mg : Str → Option Value) (base : Heap) : Prop where
  kin : K.In base
  glob : base.Ns mainGlobals mg
  blt : ∃ mb, base.Ns builtinsNs mb ∧ ∀ x : Str, x ≠ "__name__" → mb x = bootBuiltins x
  nolimit : base.NoLimit
structure Cx where
  prog : Program
  w : World
  K : PySem.W.Frag
  mg : Str → Option Value
  base : Heap
  A : Around
  N : List Str
  s_0 : Shared
  H_0 : Hp
  env : Env
  outer : List Env
  stack : List Env
  ex : List Addr
  fn : Str → Bool
  calm : Bool
  pn : List (Addr × Obj)
  xe : Value → Shared → Prop
def frs (l : List Env) : List Addr := l.filterMap (·.frame)
abbrev Cx.fs (X : Cx) : List Addr := frs X.outer
def Vis (sc : Scope) (x : Str) : Prop := sc.names.lookup x = some .local ∨ sc.names.lookup x = some .cell ∨ sc.names.lookup x = some .free
def Loc (sc : Scope) (x : Str) : Prop := sc.names.lookup x = some .local ∨ sc.names.lookup x = some .cell
def Look (env : Env) (h : Heap) (m : Str → Option Value) (x : Str) (u : Value) : Prop :=
  (env.kindOf x = some .local ∧ m x = some u) ∨ ((env.kindOf x = some .cell ∨ env.kindOf x = some .free) ∧ ∃ c, env.cells.lookup x = some c ∧ h.IsCell c (some u))
structure Cx.Ok (X : Cx) : Prop where
  mod : Mod X.K X.mg X.base
  kind : X.env.scope.kind = .function
  glob : X.env.globals = mainGlobals
  blt : X.env.builtins = builtinsNs
  above : X.s_0.heap.objs.size ≤ X.env.locals
  inj : ∀ x y c, X.env.cells.lookup x = some c → X.env.cells.lookup y = some c → x = y
  has : ∀ x, (X.env.kindOf x = some .cell ∨ X.env.kindOf x = some .free) → ∃ c, X.env.cells.lookup x = some c
  cab : ∀ x c, X.fn x = true → X.env.cells.lookup x = some c → X.s_0.heap.objs.size ≤ c
  hd : X.calm = true → X.A.handled = none
  frames : X.A.frames = some X.stack
  stk : X.stack = X.outer ∨ (X.stack = X.env :: X.outer ∧ X.env.frame = some X.env.locals)
  exf : ∀ b ∈ X.ex, b ≠ X.env.locals ∧ ∀ x c, X.env.cells.lookup x = some c → c ≠ b
  bs : ∀ b o, X.base.get? b = some o → X.s_0.heap.get? b = some o ∧ X.H_0 b = none
  bsz : X.base.objs.size ≤ X.s_0.heap.objs.size
  noex : ∀ b o, X.base.get? b = some o → b ∉ X.ex
  exfs : ∀ b ∈ X.ex, b ∉ X.fs
  funs : X.s_0.heap.FunFrames X.base X.outer
  frf : ∀ b ∈ X.fs, X.H_0 b = none
structure Inv (X : Cx) (pins : List (Addr × Obj)) (σ : List (Option V)) (H : Hp) (s : Shared) : Prop where
  ok : X.Ok
  os : s.os = X.s_0.os
  bare : AllBare s.gens
  base : Un X.fs X.ex X.H_0 H X.s_0.heap s.heap
  loc : ∃ m, s.heap.Ns X.env.locals m ∧ ∀ (i : Nat) (x : Str) (v : V), X.N[i]? = some x → σ[i]? = some (some v) → Vis X.env.scope x → ∃ u, RelV v u ∧ Look X.env s.heap m x u
  cell : ∀ x c, X.env.cells.lookup x = some c → ∃ v, s.heap.IsCell c v
  free : H X.env.locals = none
  freeC : ∀ x c, X.env.cells.lookup x = some c → H c = none
  pin : ∀ p ∈ X.pn ++ pins, s.heap.get? p.1 = some p.2 ∧ H p.1 = none ∧ p.1 ≠ X.env.locals ∧ p.1 ∉ X.fs ∧ ∀ v, p.2.data ≠ .cell v
  hok : HOk X.prog X.w H s.heap
  len : σ.length = X.N.length
section
variable {X : Cx} {pins : List (Addr × Obj)} {σ : List (Option V)} {H H' : Hp} {s : Shared} {h' : Heap}
theorem Cx.Ok.nofr (ok : X.Ok) {b : Addr} {o : Obj} (e : X.base.get? b = some o) : b ∉ X.fs := fun hb => by
  have := (ok.funs.mem hb).1
  rw [e] at this; cases this
theorem Inv.bs (I : Inv X pins σ H s) : ∀ b o, X.base.get? b = some o → s.heap.get? b = some o ∧ H b = none := fun b o e =>
  ⟨I.base.keep b o (I.ok.bs b o e).1 (I.ok.bs b o e).2 (I.ok.nofr e) (I.ok.noex b o e), I.base.free b o (I.ok.bs b o e).1 (I.ok.bs b o e).2 (I.ok.noex b o e)⟩
theorem Inv.bk (I : Inv X pins σ H s) : ∀ b o, X.base.get? b = some o → s.heap.get? b = some o := fun b o e => (I.bs b o e).1
theorem Inv.mod (I : Inv X pins σ H s) : Mod X.K X.mg X.base := I.ok.mod
theorem Inv.kIn (I : Inv X pins σ H s) : X.K.In s.heap := I.ok.mod.kin.keeps I.bk
theorem Inv.fr (I : Inv X pins σ H s) : ∃ m, Fr X.base X.env.locals s.heap m :=
  let ⟨m, hn, _⟩ := I.loc
  ⟨m, hn, I.bk, Nat.le_trans I.ok.bsz I.ok.above⟩
theorem Inv.lt (I : Inv X pins σ H s) : X.env.locals < s.heap.objs.size := let ⟨_, hn, _⟩ := I.loc; hn.lt
theorem Inv.sz (I : Inv X pins σ H s) : X.s_0.heap.objs.size ≤ s.heap.objs.size := Nat.le_trans I.ok.above (Nat.le_of_lt I.lt)
theorem Inv.nofs (I : Inv X pins σ H s) {a : Addr} (h : s.heap.objs.size ≤ a) : a ∉ X.fs := fun hb => by
  obtain ⟨_, o, ho, _⟩ := I.ok.funs.mem hb
  exact absurd (Nat.lt_of_lt_of_le (Heap.lt_size ho) (Nat.le_trans I.sz h)) (Nat.lt_irrefl _)
theorem Inv.cne (I : Inv X pins σ H s) : ∀ x c, X.env.cells.lookup x = some c → c ≠ X.env.locals := fun x c e z => by
  obtain ⟨v, o, ho, hd⟩ := I.cell x c e
  obtain ⟨m, ⟨o', es, ep, ho', hd', _⟩, _⟩ := I.loc
  rw [z, ho'] at ho; cases ho; rw [hd'] at hd; cases hd
theorem Inv.funs (I : Inv X pins σ H s) : s.heap.FunFrames X.base X.outer := by
  have all : ∀ (l : List Env), (∀ b ∈ frs l, b ∈ X.fs) → X.s_0.heap.FunFrames X.base l → s.heap.FunFrames X.base l := by
    intro l
    induction l with
    | nil => intro _ _; trivial
    | cons env r ih =>
      intro hs hl
      obtain ⟨hk, ⟨L, o, hf, hn, ho, hd⟩, hr⟩ := hl
      have hL : L ∈ X.fs := hs L (by unfold frs; rw [List.filterMap_cons, hf]; exact List.mem_cons_self)
      obtain ⟨sl, e⟩ := I.base.slot L o ho (I.ok.frf L hL) hL fun z => I.ok.exfs L z hL
      exact ⟨hk, ⟨L, _, hf, hn, e, hd⟩, ih (fun b hb => hs b (by unfold frs; rw [List.filterMap_cons, hf]; exact List.mem_cons_of_mem _ hb)) hr⟩
  exact all X.outer (fun _ hb => hb) I.ok.funs
theorem Inv.stack (I : Inv X pins σ H s) : s.heap.FunFrames X.base X.stack := by
  rcases I.ok.stk with e | ⟨e, hf⟩
  · rw [e]; exact I.funs
  · rw [e]
    obtain ⟨m, hn, _⟩ := I.loc
    refine .cons (by rw [I.ok.kind]; decide) hf hn ?_ I.funs
    exact Heap.get?_none_of_le (Nat.le_trans I.ok.bsz I.ok.above)
theorem Inv.stkSub (I : Inv X pins σ H s) : ∀ b ∈ frs X.stack, b ∈ X.env.locals :: X.fs := fun b hb => by
  rcases I.ok.stk with e | ⟨e, hf⟩
  · rw [e] at hb; exact List.mem_cons_of_mem _ hb
  · rw [e] at hb
    unfold frs at hb
    rw [List.filterMap_cons, hf] at hb
    exact hb
theorem Inv.stkFree (I : Inv X pins σ H s) : ∀ b ∈ frs X.stack, H b = none := fun b hb => by
  rcases List.mem_cons.mp (I.stkSub b hb) with e | hb
  · rw [e]; exact I.free
  · obtain ⟨_, o, ho, _⟩ := I.ok.funs.mem hb
    exact I.base.free b o ho (I.ok.frf b hb) fun z => I.ok.exfs b z hb
theorem Inv.step {g' : Array GenState} {t' : Nat} {d' : Drawn} {ch : List Addr} (I : Inv X pins σ H s)
    (hch : ∀ b ∈ ch, (b ∈ X.ex ∨ X.s_0.heap.objs.size ≤ b) ∧ b ≠ X.env.locals ∧ (∀ x c, X.env.cells.lookup x = some c → c ≠ b) ∧ ∀ p ∈ X.pn ++ pins, p.1 ≠ b)
    (keep : ∀ b o, b ≠ X.env.locals → b ∉ X.fs → b ∉ ch → s.heap.get? b = some o → H b = none → h'.get? b = some o)
    (slot : ∀ b o, b ≠ X.env.locals → b ∈ X.fs → b ∉ ch → s.heap.get? b = some o → H b = none → ∃ sl, h'.get? b = some { o with slots := sl }) (free : ∀ b o, b ∉ ch → s.heap.get? b = some o → H b = none → H' b = none)
    (there : ∀ b o, b ∉ ch → s.heap.get? b = some o → ∃ o', h'.get? b = some o')
    (tups : ∀ b xs, H b = some (.tup xs) → H' b = some (.tup xs)) (frzs : ∀ b o u, H b = some (.frz o u) → H' b = some (.frz o u)) (tbls : ∀ b ps, H b = some (.tbl ps) → ∃ more, H' b = some (.tbl (ps ++ more)))
    (ns : ∀ m, s.heap.Ns X.env.locals m → h'.Ns X.env.locals m) (hok : HOk X.prog X.w H' h') (hg : AllBare g') :
    Inv X pins σ H' { s with heap := h', gens := g', drawn := d', toks := t' } := by
  have neL : ∀ b o, X.s_0.heap.get? b = some o → b ≠ X.env.locals := fun b o e => Nat.ne_of_lt (Nat.lt_of_lt_of_le (Heap.lt_size e) I.ok.above)
  have neC : ∀ b o, X.s_0.heap.get? b = some o → b ∉ X.ex → b ∉ ch := fun b o e hx hb => by
    rcases (hch b hb).1 with z | z
    · exact hx z
    · exact absurd (Nat.lt_of_lt_of_le (Heap.lt_size e) z) (Nat.lt_irrefl _)
  have cellK : ∀ x c, X.env.cells.lookup x = some c → ∀ v, s.heap.IsCell c v → h'.IsCell c v := fun x c e v ⟨o, ho, hd⟩ => by
    have nch : c ∉ ch := fun z => (hch c z).2.2.1 x c e rfl
    by_cases hc : c ∈ X.fs
    · obtain ⟨sl, q⟩ := slot c o (I.cne x c e) hc nch ho (I.freeC x c e)
      exact ⟨_, q, hd⟩
    · exact ⟨o, keep c o (I.cne x c e) hc nch ho (I.freeC x c e), hd⟩
  refine ⟨I.ok, I.os, hg, ⟨fun b o e n hb hx => ?_, fun b o e n hb hx => ?_, fun b o e n hx => ?_, fun b o e hx => ?_, fun b xs e => tups b xs (I.base.tups b xs e), fun b o xs e => frzs b o xs (I.base.frzs b o xs e), fun b ps e => ?_⟩, ?_, fun x c e => ?_, ?_, fun x c e => ?_, fun p hp => ?_, hok, I.len⟩
  · exact keep b o (neL b o e) hb (neC b o e hx) (I.base.keep b o e n hb hx) (I.base.free b o e n hx)
  · obtain ⟨sl, e1⟩ := I.base.slot b o e n hb hx
    obtain ⟨sl', e2⟩ := slot b _ (neL b o e) hb (neC b o e hx) e1 (I.base.free b o e n hx)
    exact ⟨sl', e2⟩
  · obtain ⟨o', e1⟩ := I.base.there b o e hx
    exact free b o' (neC b o e hx) e1 (I.base.free b o e n hx)
  · obtain ⟨o', e1⟩ := I.base.there b o e hx
    exact there b o' (neC b o e hx) e1
  · obtain ⟨m1, e1⟩ := I.base.tbls b ps e
    obtain ⟨m2, e2⟩ := tbls b _ e1
    exact ⟨m1 ++ m2, by rw [e2, Array.append_assoc]⟩
  · obtain ⟨m, hn, hl⟩ := I.loc
    refine ⟨m, ns m hn, fun i x v e1 e2 e3 => ?_⟩
    obtain ⟨u, r, l⟩ := hl i x v e1 e2 e3
    refine ⟨u, r, ?_⟩
    rcases l with l | ⟨k, c, e, z⟩
    · exact .inl l
    · exact .inr ⟨k, c, e, cellK x c e _ z⟩
  · obtain ⟨v, z⟩ := I.cell x c e
    exact ⟨v, cellK x c e v z⟩
  · obtain ⟨m, ⟨o, _, _, ho, _⟩, _⟩ := I.loc
    exact free _ o (fun z => (hch _ z).2.1 rfl) ho I.free
  · obtain ⟨v, o, ho, hd⟩ := I.cell x c e
    exact free c o (fun z => (hch c z).2.2.1 x c e rfl) ho (I.freeC x c e)
  · obtain ⟨e, n, ne, nf, d⟩ := I.pin p hp
    have nch : p.1 ∉ ch := fun z => (hch p.1 z).2.2.2 p hp rfl
    exact ⟨keep p.1 p.2 ne nf nch e n, free p.1 p.2 nch e n, ne, nf, d⟩
theorem Inv.un {t' : Nat} (I : Inv X pins σ H s) (u : Un X.fs [] H H' s.heap h') (hok : HOk X.prog X.w H' h') : Inv X pins σ H' { s with heap := h', toks := t' } := by
  obtain ⟨m, ⟨o, es, ep, ho, r⟩, _⟩ := id I.loc
  obtain ⟨sl, hL⟩ := u.any ho I.free (by simp)
  exact I.step (g' := s.gens) (d' := s.drawn) (ch := []) (fun _ z => nomatch z) (fun b o _ hb _ e n => u.keep b o e n hb (by simp)) (fun b o _ hb _ e n => u.slot b o e n hb (by simp)) (fun b o _ e n => u.free b o e n (by simp)) (fun b o _ e => u.there b o e (by simp)) u.tups u.frzs u.tbls (fun m' hm => by
    obtain ⟨o', es', ep', ho', r'⟩ := hm
    rw [ho] at ho'; cases ho'
    exact ⟨_, es', ep', hL, r'⟩) hok I.bare
theorem Inv.call {g' : Array GenState} {t' : Nat} {d' : Drawn} {ch : List Addr} (I : Inv X pins σ H s) (u : Un (frs X.stack) ch H H' s.heap h') (hok : HOk X.prog X.w H' h') (hg : AllBare g')
    (hch : ∀ b ∈ ch, (b ∈ X.ex ∨ X.s_0.heap.objs.size ≤ b) ∧ b ≠ X.env.locals ∧ (∀ x c, X.env.cells.lookup x = some c → c ≠ b) ∧ ∀ p ∈ X.pn ++ pins, p.1 ≠ b) :
    Inv X pins σ H' { s with heap := h', gens := g', drawn := d', toks := t' } := by
  obtain ⟨m, ⟨o, es, ep, ho, r⟩, _⟩ := id I.loc
  obtain ⟨sl, hL⟩ := u.any ho I.free fun z => (hch _ z).2.1 rfl
  exact I.step (ch := ch) hch (fun b o hL hb hc e n => u.keep b o e n (fun z => (List.mem_cons.mp (I.stkSub b z)).elim hL hb) hc) (fun b o _ _ hc e n => u.any e n hc) (fun b o hc e n => u.free b o e n hc) (fun b o hc e => u.there b o e hc) u.tups u.frzs u.tbls (fun m' hm => by
    obtain ⟨o', es', ep', ho', r'⟩ := hm
    rw [ho] at ho'; cases ho'
    exact ⟨_, es', ep', hL, r'⟩) hok hg
theorem Inv.turned {t' : Nat} {it : Addr} (I : Inv X pins σ H s) (k : ∀ b o, b ≠ it → s.heap.get? b = some o → h'.get? b = some o) (hn : H it = none) (hL : it ≠ X.env.locals)
    (h1 : it ∈ X.ex ∨ X.s_0.heap.objs.size ≤ it) (h2 : ∀ x c, X.env.cells.lookup x = some c → c ≠ it) (h3 : ∀ p ∈ X.pn ++ pins, p.1 ≠ it) : Inv X pins σ H { s with heap := h', toks := t' } := by
  have nit : ∀ b u, H b = some u → b ≠ it := fun b u e z => by rw [z, hn] at e; cases e
  refine I.step (g' := s.gens) (d' := s.drawn) (ch := [it]) (fun b hb => ?_) (fun b o _ _ hc e _ => k b o (fun z => hc (by simp [z])) e) (fun b o _ _ hc e _ => ⟨o.slots, k b o (fun z => hc (by simp [z])) e⟩) (fun _ _ _ _ n => n)
    (fun b o hc e => ⟨o, k b o (fun z => hc (by simp [z])) e⟩) (fun _ _ e => e) (fun _ _ _ e => e) (fun b ps e => ⟨#[], by rw [e]; simp⟩) (fun m hm => ?_) (fun b u e => ?_) I.bare
  · have e : b = it := by simpa using hb
    subst e
    exact ⟨h1, hL, h2, h3⟩
  · obtain ⟨o, es, ep, ho, r⟩ := hm
    exact ⟨o, es, ep, k _ o (Ne.symm hL) ho, r⟩
  · refine (I.hok b u e).stay (fun c v hc q => k c v ?_ q) (fun _ q => q) fun _ _ q => q
    rcases hc with z | z
    · rw [z]; exact nit b u e
    · exact nit c _ z
theorem Inv.tok (I : Inv X pins σ H s) (t : Nat) : Inv X pins σ H { s with toks := t } := I.un (h' := s.heap) (t' := t) Un.refl I.hok
theorem Inv.kept {t' : Nat} (I : Inv X pins σ H s) (k : ∀ b u, s.heap.get? b = some u → h'.get? b = some u) : Inv X pins σ H { s with heap := h', toks := t' } := I.un (Un.kept k) (I.hok.kept k)
theorem Inv.laid {a : Addr} {o : HO} {t' : Nat} (I : Inv X pins σ H s) (k : ∀ b u, s.heap.get? b = some u → h'.get? b = some u) (hp : s.heap.objs.size ≤ a) (new : ObjOk X.prog X.w (upd H a o) h' a o) :
    Inv X pins σ (upd H a o) { s with heap := h', toks := t' } := I.un (Un.laid k hp (I.hok.fresh hp)) (I.hok.laid k hp new)
theorem Inv.write {x e : Addr} {o : HO} {t' : Nat} (I : Inv X pins σ H s) (mu : Mut (H x)) (he : e = x ∨ H e = some (.own x)) (k : ∀ b u, b ≠ e → s.heap.get? b = some u → h'.get? b = some u) (heo : ∃ u, h'.get? e = some u)
    (new : ObjOk X.prog X.w (upd H x o) h' x o) : Inv X pins σ (upd H x o) { s with heap := h', toks := t' } := I.un (Un.write mu he k heo) (I.hok.write mu he k heo new)
theorem Inv.weak {σ' : List (Option V)} (I : Inv X pins σ H s) (hl : σ'.length = σ.length) (w : ∀ (i : Nat) v, σ'[i]? = some (some v) → σ[i]? = some (some v)) : Inv X pins σ' H s :=
  ⟨I.ok, I.os, I.bare, I.base, let ⟨m, hn, hl'⟩ := I.loc; ⟨m, hn, fun i x v e1 e2 e3 => hl' i x v e1 (w i v e2) e3⟩, I.cell, I.free, I.freeC, I.pin, I.hok, hl.trans I.len⟩
theorem Inv.pins_of {pins' : List (Addr × Obj)} (I : Inv X pins σ H s) (h : ∀ p ∈ pins', s.heap.get? p.1 = some p.2 ∧ H p.1 = none ∧ p.1 ≠ X.env.locals ∧ p.1 ∉ X.fs ∧ ∀ v, p.2.data ≠ .cell v) : Inv X pins' σ H s :=
  ⟨I.ok, I.os, I.bare, I.base, I.loc, I.cell, I.free, I.freeC, fun p hp => (List.mem_append.mp hp).elim (fun z => I.pin p (List.mem_append_left _ z)) (h p), I.hok, I.len⟩
theorem nodup_ix {N : List Str} (hN : N.Nodup) {i j : Nat} {x : Str} (a : N[i]? = some x) (b : N[j]? = some x) : i = j := by
  obtain ⟨h1, e1⟩ := List.getElem?_eq_some_iff.mp a
  obtain ⟨h2, e2⟩ := List.getElem?_eq_some_iff.mp b
  exact (List.getElem_inj hN).mp (e1.trans e2.symm)
theorem store_ok2 {M : Model} {A : Around} {E : Value → Shared → Prop} {i : Nat} {x : Str} {v : V} {u : Value} {Q : Unit → Shared → Prop} (I : Inv X pins σ H s) (hN : X.N.Nodup) (hi : X.N[i]? = some x) (hx : Loc X.env.scope x) (r : RelV v u)
    (h : ∀ s', Inv X pins (σ.set i (some v)) H s' → (∃ a, Heap.SameBut a s.heap s'.heap ∧ (a = X.env.locals ∨ X.env.cells.lookup x = some a)) → Q () s') (hf : X.fn x = true ∨ X.env.scope.names.lookup x = some .local := by first | exact .inl rfl | exact .inr rfl | assumption) : wpAny M A (storeName X.env x u) Q E s := by
  obtain ⟨m, hn, hl⟩ := id I.loc
  have hcls : (X.env.scope.kind == .class || (X.env.scope.kind == .module && X.env.locals != X.env.globals)) = false := by rw [I.ok.kind]; rfl
  have hiσ : i < σ.length := by rw [I.len]; exact (List.getElem?_eq_some_iff.mp hi).1
  have cne := I.cne
  have tracked : ∀ {a : Addr} {h' : Heap}, (∃ o, s.heap.get? a = some o ∧ H a = none) → Heap.SameBut a s.heap h' → HOk X.prog X.w H h' := fun {a h'} ha hs b ob e => by
    obtain ⟨_, _, hfree⟩ := ha
    refine (I.hok b ob e).stay (fun c w' hc q => (hs.2 c ?_).trans q) (fun _ q => q) fun _ _ q => q
    rintro rfl
    rcases hc with rfl | hc
    · rw [hfree] at e; cases e
    · rw [hfree] at hc; cases hc
  rcases hx with hk | hk
  · refine wpAny_storeName_local hk hn (fun h' hn' hs => ?_) hcls
    obtain ⟨oL, _, _, hoL, _⟩ := id hn
    refine h _ ⟨I.ok, I.os, I.bare, ⟨fun b o e n hb hx => ?_, fun b o e n hb hx => ?_, I.base.free, fun b o e hx => ?_, I.base.tups, I.base.frzs, I.base.tbls⟩, ⟨_, hn', fun j y v' e1 e2 e3 => ?_⟩, fun y c e => ?_, I.free, I.freeC, fun p hp => ?_, tracked ⟨oL, hoL, I.free⟩ hs, by simpa using I.len⟩ ⟨_, hs, .inl rfl⟩
    · exact (hs.2 b (Nat.ne_of_lt (Nat.lt_of_lt_of_le (Heap.lt_size e) I.ok.above))).trans (I.base.keep b o e n hb hx)
    · obtain ⟨sl, e1⟩ := I.base.slot b o e n hb hx
      exact ⟨sl, (hs.2 b (Nat.ne_of_lt (Nat.lt_of_lt_of_le (Heap.lt_size e) I.ok.above))).trans e1⟩
    · obtain ⟨o', e1⟩ := I.base.there b o e hx
      exact ⟨o', (hs.2 b (Nat.ne_of_lt (Nat.lt_of_lt_of_le (Heap.lt_size e) I.ok.above))).trans e1⟩
    · by_cases hj : j = i
      · subst hj
        rw [hi] at e1; cases e1
        rw [List.getElem?_set_self hiσ] at e2
        cases e2
        exact ⟨u, r, .inl ⟨hk, by simp⟩⟩
      · rw [List.getElem?_set_ne (Ne.symm hj)] at e2
        obtain ⟨u', r', q⟩ := hl j y v' e1 e2 e3
        refine ⟨u', r', ?_⟩
        rcases q with ⟨k, e⟩ | ⟨k, c, e, z⟩
        · refine .inl ⟨k, ?_⟩
          have : y ≠ x := fun e => hj (nodup_ix hN e1 (e ▸ hi))
          simp [this, e]
        · exact .inr ⟨k, c, e, z.sameBut hs (cne y c e)⟩
    · obtain ⟨w', z⟩ := I.cell y c e
      exact ⟨w', z.sameBut hs (cne y c e)⟩
    · obtain ⟨e, n, ne, nf, d⟩ := I.pin p hp
      exact ⟨(hs.2 p.1 ne).trans e, n, ne, nf, d⟩
  · have hfn : X.fn x = true := by
      rcases hf with z | z
      · exact z
      · rw [z] at hk; cases hk
    obtain ⟨c, hc⟩ := I.ok.has x (.inl hk)
    obtain ⟨w', z⟩ := I.cell x c hc
    refine wpAny_storeName_cell I.ok.kind hk hc z (fun h' hc' hs => ?_)
    obtain ⟨oc, hoc, hocd⟩ := id z
    refine h { s with heap := h' } ⟨I.ok, I.os, I.bare, ⟨fun b o e n hb hx => ?_, fun b o e n hb hx => ?_, I.base.free, fun b o e hx => ?_, I.base.tups, I.base.frzs, I.base.tbls⟩, ⟨m, hn.sameBut hs (Ne.symm (cne x c hc)), fun j y v' e1 e2 e3 => ?_⟩, fun y c' e => ?_, I.free, I.freeC, fun p hp => ?_, tracked ⟨oc, hoc, I.freeC x c hc⟩ hs, by simpa using I.len⟩ ⟨c, hs, .inr hc⟩
    · exact (hs.2 b (Nat.ne_of_lt (Nat.lt_of_lt_of_le (Heap.lt_size e) (I.ok.cab x c hfn hc)))).trans (I.base.keep b o e n hb hx)
    · obtain ⟨sl, e1⟩ := I.base.slot b o e n hb hx
      exact ⟨sl, (hs.2 b (Nat.ne_of_lt (Nat.lt_of_lt_of_le (Heap.lt_size e) (I.ok.cab x c hfn hc)))).trans e1⟩
    · obtain ⟨o', e1⟩ := I.base.there b o e hx
      exact ⟨o', (hs.2 b (Nat.ne_of_lt (Nat.lt_of_lt_of_le (Heap.lt_size e) (I.ok.cab x c hfn hc)))).trans e1⟩
    · by_cases hj : j = i
      · subst hj
        rw [hi] at e1; cases e1
        rw [List.getElem?_set_self hiσ] at e2
        cases e2
        exact ⟨u, r, .inr ⟨.inl hk, c, hc, hc'⟩⟩
      · rw [List.getElem?_set_ne (Ne.symm hj)] at e2
        obtain ⟨u', r', q⟩ := hl j y v' e1 e2 e3
        refine ⟨u', r', ?_⟩
        rcases q with q | ⟨k, c', e, z'⟩
        · exact .inl q
        · refine .inr ⟨k, c', e, z'.sameBut hs ?_⟩
          rintro rfl
          exact hj (nodup_ix hN e1 (I.ok.inj _ _ _ e hc ▸ hi))
    · by_cases hcc : c' = c
      · subst hcc; exact ⟨_, hc'⟩
      · obtain ⟨w2, z2⟩ := I.cell y c' e
        exact ⟨w2, z2.sameBut hs hcc⟩
    · obtain ⟨e, n, ne, nf, d⟩ := I.pin p hp
      refine ⟨(hs.2 p.1 ?_).trans e, n, ne, nf, d⟩
      intro q
      rw [q, hoc] at e
      have q' : oc = p.2 := Option.some.inj e
      exact d w' (by rw [← q']; exact hocd)
theorem store_ok {M : Model} {A : Around} {E : Value → Shared → Prop} {i : Nat} {x : Str} {v : V} {u : Value} {Q : Unit → Shared → Prop} (I : Inv X pins σ H s) (hN : X.N.Nodup) (hi : X.N[i]? = some x) (hx : Loc X.env.scope x) (r : RelV v u)
    (h : ∀ s', Inv X pins (σ.set i (some v)) H s' → Q () s') (hf : X.fn x = true ∨ X.env.scope.names.lookup x = some .local := by first | exact .inl rfl | exact .inr rfl | assumption) : wpAny M A (storeName X.env x u) Q E s :=
  store_ok2 I hN hi hx r (fun s' I' _ => h s' I') hf
theorem Inv.call' {s' : Shared} {ch : List Addr} (I : Inv X pins σ H s) (ho : s'.os = s.os) (u : Un (frs X.stack) ch H H' s.heap s'.heap) (hok : HOk X.prog X.w H' s'.heap) (hg : AllBare s'.gens)
    (hch : ∀ b ∈ ch, (b ∈ X.ex ∨ X.s_0.heap.objs.size ≤ b) ∧ b ≠ X.env.locals ∧ (∀ x c, X.env.cells.lookup x = some c → c ≠ b) ∧ ∀ p ∈ X.pn ++ pins, p.1 ≠ b) : Inv X pins σ H' s' := by
  obtain ⟨h', g', d', t', o'⟩ := s'
  have e : o' = s.os := ho
  subst e
  exact I.call (g' := g') (t' := t') (d' := d') u hok hg hch
end
abbrev XK := Value → Option Addr → Hp → Prop
abbrev St := List (Option V)
abbrev VK := V → Hp → Prop
abbrev TE := St → Hp → VK → Prop
abbrev TT := St → Hp → (Bool → Hp → Prop) → Prop
abbrev TA := St → Hp → (List V → Hp → Prop) → Prop
structure Ends where
  nx : St → Hp → Prop
  rt : VK
  bk : St → Hp → Prop := fun _ _ => False
  ct : St → Hp → Prop := fun _ _ => False
abbrev TS := Ends → St → Hp → Prop
def EP (X : Cx) (pins : List (Addr × Obj)) (σ : St) (Q : VK) (u : Value) (s' : Shared) : Prop := ∃ v H', Inv X pins σ H' s' ∧ RelV v u ∧ Q v H'
def TP (X : Cx) (pins : List (Addr × Obj)) (σ : St) (Q : Bool → Hp → Prop) (b : Bool) (s' : Shared) : Prop := ∃ H', Inv X pins σ H' s' ∧ Q b H'
def AP (X : Cx) (pins : List (Addr × Obj)) (σ : St) (Q : List V → Hp → Prop) (us : List Value) (s' : Shared) : Prop := ∃ vs H', Inv X pins σ H' s' ∧ Vals vs us ∧ Q vs H'
def SP (X : Cx) (pins : List (Addr × Obj)) (D : Ends) (f : Flow) (s' : Shared) : Prop :=
  match f with
  | .next => ∃ σ' H', Inv X pins σ' H' s' ∧ D.nx σ' H'
  | .brk => ∃ σ' H', Inv X pins σ' H' s' ∧ D.bk σ' H'
  | .cont => ∃ σ' H', Inv X pins σ' H' s' ∧ D.ct σ' H'
  | .ret u => ∃ v σ' H', Inv X pins σ' H' s' ∧ RelV v u ∧ D.rt v H'
def PE (X : Cx) (e : Expr) (t : TE) : Prop :=
  ∀ (pins : List (Addr × Obj)) (s : Shared) (σ : St) (H : Hp) (Q : VK), Inv X pins σ H s → t σ H Q → wpAny (model X.prog X.w) X.A (eval e X.env) (EP X pins σ Q) X.xe s
def PT (X : Cx) (e : Expr) (t : TT) : Prop :=
  ∀ (pins : List (Addr × Obj)) (s : Shared) (σ : St) (H : Hp) (Q : Bool → Hp → Prop), Inv X pins σ H s → t σ H Q → wpAny (model X.prog X.w) X.A (isTrue e X.env (eval e X.env)) (TP X pins σ Q) X.xe s
def PW (X : Cx) (e : Expr) (t : TT) : Prop :=
  ∀ (whole : Sem Value) (pins : List (Addr × Obj)) (s : Shared) (σ : St) (H : Hp) (Q : Bool → Hp → Prop), Inv X pins σ H s → t σ H Q → wpAny (model X.prog X.w) X.A (isTrue e X.env whole) (TP X pins σ Q) X.xe s
theorem PW.pt {X : Cx} {e : Expr} {t : TT} (h : PW X e t) : PT X e t := h _
def PA (X : Cx) (es : List Expr) (t : TA) : Prop :=
  ∀ (pos : Pos) (pins : List (Addr × Obj)) (s : Shared) (σ : St) (H : Hp) (Q : List V → Hp → Prop), Inv X pins σ H s → t σ H Q → wpAny (model X.prog X.w) X.A (spliced (backTo pos (starEach es X.env))) (AP X pins σ Q) X.xe s
def PS (X : Cx) (st : Stmt) (t : TS) : Prop :=
  ∀ (pins : List (Addr × Obj)) (s : Shared) (σ : St) (H : Hp) (D : Ends), Inv X pins σ H s → t D σ H → wpAny (model X.prog X.w) X.A (exec st X.env) (SP X pins D) X.xe s
def PSs (X : Cx) (st : List Stmt) (t : TS) : Prop :=
  ∀ (pins : List (Addr × Obj)) (s : Shared) (σ : St) (H : Hp) (D : Ends), Inv X pins σ H s → t D σ H → wpAny (model X.prog X.w) X.A (execs st X.env) (SP X pins D) X.xe s
theorem thn {α : Type} {t : Sem α} {Q Q' : α → Shared → Prop} {M : Model} {A : Around} {E : Value → Shared → Prop} {s : Shared} (h : wpAny M A t Q E s) (hQ : ∀ a s, Q a s → Q' a s) : wpAny M A t Q' E s := wpAny_mono h hQ fun _ _ x => x
end L2
namespace L2
open PySem PySem.Spec PyProof.Rows
section
variable {X : Cx}
theorem bin {a b : Expr} {ta tb : TE} (ha : PE X a ta) (hb : PE X b tb) {pins : List (Addr × Obj)} {s : Shared} {σ : St} {H : Hp} {R : V → V → Hp → Prop} (I : Inv X pins σ H s) (h : ta σ H fun x H1 => tb σ H1 fun y H2 => R x y H2)
    {α : Type} {Q : α → Shared → Prop} {f : Value → Value → Sem α}
    (hf : ∀ v u s2 x y H2, Inv X pins σ H2 s2 → RelV x v → RelV y u → R x y H2 → wpAny (model X.prog X.w) X.A (f v u) Q X.xe s2) :
    wpAny (model X.prog X.w) X.A (eval a X.env) (fun v s₁ => wpAny (model X.prog X.w) X.A (eval b X.env) (fun u s₂ => wpAny (model X.prog X.w) X.A (f v u) Q X.xe s₂) X.xe s₁) X.xe s := by
  refine thn (ha pins s σ H _ I h) fun v s1 ⟨x, H1, I1, r1, q1⟩ => ?_
  refine thn (hb pins s1 σ H1 _ I1 q1) fun u s2 ⟨y, H2, I2, r2, q2⟩ => ?_
  exact hf v u s2 x y H2 I2 r1 r2 q2
inductive tVar (i : Nat) (σ : St) (H : Hp) (Q : VK) : Prop
  | mk (v : V) (e : σ[i]? = some (some v)) (q : Q v H) : tVar i σ H Q
def tC (v : V) : TE := fun _ H Q => Q v H
theorem pe_var {i : Nat} {x : Str} {pos : Pos} (hN : X.N[i]? = some x) (hv : Vis X.env.scope x) (hd : (x == ("__debug__" : Str)) = false := by decide) (hcd : (x == ("__classdict__" : Str)) = false := by decide) : PE X (.Name x pos) (tVar i) := by
  intro pins s σ H Q I h
  obtain ⟨v, e, h⟩ := h
  obtain ⟨m, hn, hl⟩ := I.loc
  obtain ⟨u, r, l⟩ := hl i x v hN e hv
  have fin : EP X pins σ Q u s := ⟨v, H, I, r, h⟩
  rcases l with ⟨hk, hm⟩ | ⟨hk, c, hc, hcell⟩
  · exact wpAny_Name (wpAny_loadName_local I.ok.kind hk hn hm fin) hd
  · rcases hk with hk | hk
    · exact wpAny_Name (wpAny_loadName_cell I.ok.kind hk hc hcell fin) hd
    · exact wpAny_Name (wpAny_loadName_free I.ok.kind hk hc hcell fin hcd) hd
theorem pe_int {i j pos} : PE X (.Constant (.int i) j pos) (tC (.int i)) := fun _ _ _ H _ I h => wpAny_Constant_int ⟨.int i, H, I.tok _, ⟨_, rfl⟩, h⟩
theorem pe_bl {b j pos} : PE X (.Constant (.bool b) j pos) (tC (.bl b)) := fun _ _ _ H _ I h => Constant_bool ⟨.bl b, H, I, rfl, h⟩
theorem pe_non {j pos} : PE X (.Constant .none j pos) (tC .non) := fun _ _ _ H _ I h => Constant_none ⟨.non, H, I, rfl, h⟩
def Gl (X : Cx) (x : Str) : Prop := X.env.kindOf x = some .globalImplicit
theorem ld_glob {E : Value → Shared → Prop} {pins : List (Addr × Obj)} {s : Shared} {σ : St} {H : Hp} {x : Str} {u : Value} {pos : Pos} {Q : Value → Shared → Prop} (I : Inv X pins σ H s) (hg : Gl X x) (hm : X.mg x = some u) (h : Q u s)
    (hd : (x == ("__debug__" : Str)) = false := by decide) : wpAny (model X.prog X.w) X.A (eval (.Name x pos) X.env) Q E s :=
  Calls.Name_function_global I.ok.kind hg (Calls.loadGlobal_global (by rw [I.ok.glob]; exact I.mod.glob.keeps I.bk) hm h) hd
theorem ld_blt {E : Value → Shared → Prop} {pins : List (Addr × Obj)} {s : Shared} {σ : St} {H : Hp} {x : Str} {u : Value} {pos : Pos} {Q : Value → Shared → Prop} (I : Inv X pins σ H s) (hg : Gl X x) (hm : X.mg x = none) (hv : bootBuiltins x = some u) (h : Q u s)
    (hn : x ≠ "__name__" := by decide) (hd : (x == ("__debug__" : Str)) = false := by decide) : wpAny (model X.prog X.w) X.A (eval (.Name x pos) X.env) Q E s := by
  obtain ⟨mb, h1, h2⟩ := I.mod.blt
  exact Calls.Name_function_global I.ok.kind hg (Calls.loadGlobal_builtin (by rw [I.ok.glob]; exact I.mod.glob.keeps I.bk) hm (by rw [I.ok.blt]; exact h1.keeps I.bk) ((h2 x hn).trans hv) h) hd
theorem pe_glob {x : Str} {v : V} {u : Value} {pos : Pos} (hg : Gl X x) (hm : X.mg x = some u) (r : RelV v u) (hd : (x == ("__debug__" : Str)) = false := by decide) : PE X (.Name x pos) (tC v) :=
  fun _ _ _ H _ I h => ld_glob I hg hm ⟨v, H, I, r, h⟩ hd
variable {a b : Expr} {ta tb : TE} {pos : Pos}
def PC (X : Cx) (op : CmpOp) (a b : Expr) (t : TE) : Prop :=
  ∀ (pins : List (Addr × Obj)) (s : Shared) (σ : St) (H : Hp) (Q : VK), Inv X pins σ H s → t σ H Q →
    wpAny (model X.prog X.w) X.A (eval a X.env) (fun v s₁ => wpAny (model X.prog X.w) X.A (eval b X.env) (fun u s₂ => wpAny (model X.prog X.w) X.A (compareOp op v u) (EP X pins σ Q) X.xe s₂) X.xe s₁) X.xe s
theorem nobehind (b : Expr) {op : CmpOp} (h : op ≠ .In) (h2 : op ≠ .NotIn) : behindInMarks op b = false := by
  have e1 : (op == CmpOp.In) = false := by cases op <;> first | rfl | exact absurd rfl h
  have e2 : (op == CmpOp.NotIn) = false := by cases op <;> first | rfl | exact absurd rfl h2
  cases b <;> simp [behindInMarks, e1, e2]
def tIsN (ta : TE) : TE := fun σ H Q => ta σ H fun x H1 => Q (.bl (decide (x = .non))) H1
def tNotN (ta : TE) : TE := fun σ H Q => ta σ H fun x H1 => Q (.bl (!decide (x = .non))) H1
theorem RelV.none_iff {x : V} {v : Value} (r : RelV x v) : (v == Value.none) = decide (x = .non) := by
  cases x with
  | non => cases r; rfl
  | bl _ => cases r; rfl
  | int _ => obtain ⟨t, rfl⟩ := r; rfl
  | str _ => obtain ⟨t, rfl⟩ := r; rfl
  | byt _ => obtain ⟨t, rfl⟩ := r; rfl
  | flt _ => obtain ⟨t, rfl⟩ := r; rfl
  | ref _ => cases r; rfl
  | ty _ => cases r; rfl
theorem pc_isN {j pos'} (ha : PE X a ta) : PC X .Is a (.Constant .none j pos') (tIsN ta) := by
  intro pins s σ H Q I h
  refine thn (ha pins s σ H _ I h) fun v s1 ⟨x, H1, I1, r1, q1⟩ => ?_
  exact Constant_none (is_none_gen ⟨.bl _, H1, I1, by rw [r1.none_iff]; rfl, q1⟩)
theorem pc_notN {j pos'} (ha : PE X a ta) : PC X .IsNot a (.Constant .none j pos') (tNotN ta) := by
  intro pins s σ H Q I h
  refine thn (ha pins s σ H _ I h) fun v s1 ⟨x, H1, I1, r1, q1⟩ => ?_
  exact Constant_none (isnot_none_gen ⟨.bl _, H1, I1, by rw [r1.none_iff]; rfl, q1⟩)
inductive BlAt (x : V) (H : Hp) (Q : Bool → Hp → Prop) : Prop
  | mk (c : Bool) (e : x = .bl c) (q : Q c H) : BlAt x H Q
def tB (t : TE) : TT := fun σ H Q => t σ H fun x H1 => BlAt x H1 Q
theorem pe_cmp {op : CmpOp} {t : TE} (h : PC X op a b t) (h1 : behindInMarks op b = false := by first | exact nobehind _ (by decide) (by decide) | rfl) : PE X (.Compare a [op] [b] pos) t := fun pins s σ H Q I hw => wpAny_Compare1 (h pins s σ H Q I hw) h1
theorem pt_cmp {op : CmpOp} {t : TE} (h : PC X op a b t) (h1 : behindInMarks op b = false := by first | exact nobehind _ (by decide) (by decide) | rfl) : PT X (.Compare a [op] [b] pos) (tB t) := by
  intro pins s σ H Q I hw
  refine wpAny_isTrue_Compare1 (thn (h pins s σ H _ I hw) fun v s1 h1 => thn h1 fun u s2 h2 => thn h2 fun c s3 ⟨x, H1, I1, r1, q1⟩ => ?_) h1
  obtain ⟨d, rfl, q⟩ := q1
  cases r1
  exact wpAny_truthy_bool ⟨H1, I1, q⟩
theorem pt_val {e : Expr} {t : TE} (h : PE X e t) (he : ∀ whole, isTrue e X.env whole = (do let v ← whole; standAt e.pos; holding [v] (truthy v)) := by intro _; rfl) : PT X e (tB t) := by
  intro pins s σ H Q I hw
  refine isTrue_plain (thn (h pins s σ H _ I hw) fun v s1 ⟨x, H1, I1, r1, q1⟩ => ?_) (he _)
  obtain ⟨d, rfl, q⟩ := q1
  cases r1
  exact wpAny_truthy_bool ⟨H1, I1, q⟩
variable {tA tB' : TT} {rest : List Expr}
def tOr (t u : TT) : TT := fun σ H Q => t σ H fun c H1 => if c = true then Q true H1 else u σ H1 Q
def tNot (t : TT) : TT := fun σ H Q => t σ H fun c H1 => Q (!c) H1
theorem pw_or1 (ha : PT X a tA) : PW X (.BoolOp .Or [a] pos) tA := by
  intro wh pins s σ H Q I h
  refine isTrue_or (thn (ha pins s σ H Q I h) fun c s1 e => ?_)
  cases c with
  | false => exact isTrue_or_nil e
  | true => exact e
theorem pw_or (ha : PT X a tA) (hb : PW X (.BoolOp .Or (b :: rest) pos) tB') : PW X (.BoolOp .Or (a :: b :: rest) pos) (tOr tA tB') := by
  intro wh pins s σ H Q I h
  refine isTrue_or (thn (ha pins s σ H _ I h) fun c s1 ⟨H1, I1, q1⟩ => ?_)
  cases c with
  | true => exact ⟨H1, I1, q1⟩
  | false => exact hb wh pins s1 σ H1 Q I1 q1
theorem pt_not (ha : PT X a tA) : PT X (.UnaryOp .Not a pos) (tNot tA) := by
  intro pins s σ H Q I h
  exact isTrue_not (ha pins s σ H (fun c H1 => Q (!c) H1) I h)
def tAndV (ta tb : TE) : TE := fun σ H Q => ta σ H fun x H1 => BlAt x H1 fun c H1 => if c = true then tb σ H1 Q else Q (.bl false) H1
def tNotV (ta : TE) : TE := fun σ H Q => ta σ H fun x H1 => BlAt x H1 fun c H1 => Q (.bl (!c)) H1
theorem pe_one {op} {t : TE} (h : PE X a t) : PE X (.BoolOp op [a] pos) t := fun pins s σ H Q I hw => BoolOp_one (h pins s σ H Q I hw)
theorem pe_and (ha : PE X a ta) (hb : PE X (.BoolOp .And (b :: rest) pos) tb) : PE X (.BoolOp .And (a :: b :: rest) pos) (tAndV ta tb) := by
  intro pins s σ H Q I h
  refine BoolOp_and (thn (ha pins s σ H _ I h) fun v s1 ⟨x, H1, I1, r1, q1⟩ => ?_)
  obtain ⟨c, rfl, q1⟩ := q1
  cases r1
  refine wpAny_truthy_bool ?_
  cases c with
  | true => exact hb pins s1 σ H1 Q I1 q1
  | false => exact ⟨.bl false, H1, I1, rfl, q1⟩
theorem pe_not (ha : PE X a ta) : PE X (.UnaryOp .Not a pos) (tNotV ta) := by
  intro pins s σ H Q I h
  refine UnaryOp_ (thn (ha pins s σ H _ I h) fun v s1 ⟨x, H1, I1, r1, q1⟩ => ?_)
  obtain ⟨c, rfl, q1⟩ := q1
  cases r1
  exact not_of (wpAny_truthy_bool ⟨.bl (!c), H1, I1, rfl, q1⟩)
end
end L2
namespace L2
open PySem PySem.Spec PyProof.Rows
def SqL (K : PySem.W.Frag) (H : Hp) (a : Addr) (xs : List V) : Prop :=
  Rd H a (.lst xs) ∨
    ∃ (o : Obj) (its : Array Value) (n : Nat), K.lookup a = some o ∧ o.cls = .type "list" ∧ o.dict = none ∧ o.data = .seq its n ∧ its.size ≤ sizeLine ∧ Vals xs its.toList
def SqT (K : PySem.W.Frag) (H : Hp) (a : Addr) (xs : List V) : Prop :=
  Rd H a (.tup xs) ∨
    ∃ (o : Obj) (its : Array Value) (n : Nat), K.lookup a = some o ∧ o.cls = .type "tuple" ∧ o.data = .seq its n ∧ its.size ≤ sizeLine ∧ Vals xs its.toList
def absV : Value → Option V
  | .none => some .non
  | .bool b => some (.bl b)
  | .int i _ => some (.int i)
  | .str x _ => some (.str x)
  | .bytes b _ => some (.byt b)
  | .float b _ => some (.flt b)
  | .ref a => some (.ref a)
  | .type n => some (.ty n)
  | _ => none
theorem RelV.abs {x : V} {u : Value} (r : RelV x u) : absV u = some x := by
  cases x with
  | non => cases r; rfl
  | bl _ => cases r; rfl
  | int _ => obtain ⟨t, rfl⟩ := r; rfl
  | str _ => obtain ⟨t, rfl⟩ := r; rfl
  | byt _ => obtain ⟨t, rfl⟩ := r; rfl
  | flt _ => obtain ⟨t, rfl⟩ := r; rfl
  | ref _ => cases r; rfl
  | ty _ => cases r; rfl
theorem RelV.inj {x y : V} {u : Value} (r : RelV x u) (q : RelV y u) : x = y := Option.some.inj (r.abs.symm.trans q.abs)
theorem Vals.inj : ∀ {xs ys : List V} {us : List Value}, Vals xs us → Vals ys us → xs = ys
  | _, _, _, .nil, .nil => rfl
  | _, _, _, .cons r t, .cons r' t' => by rw [r.inj r', Vals.inj t t']
section
variable {X : Cx} {pins : List (Addr × Obj)} {σ : St} {H : Hp} {s : Shared} {a : Addr} {xs ys : List V}
theorem SqL.of {K : PySem.W.Frag} (h : H a = some (.lst xs)) : SqL K H a xs := .inl (.inl h)
theorem SqT.of {K : PySem.W.Frag} (h : H a = some (.tup xs)) : SqT K H a xs := .inl (.inl h)
theorem Inv.list (I : Inv X pins σ H s) (h : SqL X.K H a xs) : ∃ its : List Value, Vals xs its ∧ PlainL s.heap a its.toArray ∧ xs.length ≤ sizeLine := by
  rcases h with h | ⟨o, its, n, hk, hc, hd, hs, hz, r⟩
  · obtain ⟨z, its, n, r, e⟩ := h.ok I.hok
    exact ⟨its, r, ⟨_, n, e, rfl, rfl, rfl⟩, z⟩
  · refine ⟨its.toList, r, ⟨o, n, I.kIn a o hk, hc, hd, by simpa using hs⟩, ?_⟩
    have e := r.length
    simp only [Array.length_toList] at e
    omega
theorem Inv.tuple (I : Inv X pins σ H s) (h : SqT X.K H a xs) : ∃ its : List Value, Vals xs its ∧ IsTup s.heap a its.toArray ∧ xs.length ≤ sizeLine := by
  rcases h with h | ⟨o, its, n, hk, hc, hs, hz, r⟩
  · obtain ⟨z, its, r, p⟩ := h.ok I.hok
    exact ⟨its, r, p, z⟩
  · refine ⟨its.toList, r, ⟨o, I.kIn a o hk, hc, n, by simpa using hs⟩, ?_⟩
    have e := r.length
    simp only [Array.length_toList] at e
    omega
theorem Inv.list_inj (I : Inv X pins σ H s) (h : SqL X.K H a xs) (h' : SqL X.K H a ys) : xs = ys := by
  obtain ⟨its, r, ⟨o, n, e, _, _, d⟩, _⟩ := I.list h
  obtain ⟨its', r', ⟨o', n', e', _, _, d'⟩, _⟩ := I.list h'
  rw [e] at e'; cases e'
  rw [d] at d'
  injection d' with d1 _
  have : its = its' := by simpa using congrArg Array.toList d1
  subst this
  exact r.inj r'
end
abbrev Cx.wish (X : Cx) (E : Value → Shared → Prop) : Cx := { X with xe := E }
abbrev Cx.nox (X : Cx) : Cx := X.wish fun _ _ => False
theorem Cx.Ok.wish {X : Cx} (ok : X.Ok) (E : Value → Shared → Prop) : (X.wish E).Ok :=
  ⟨ok.mod, ok.kind, ok.glob, ok.blt, ok.above, ok.inj, ok.has, ok.cab, ok.hd, ok.frames, ok.stk, ok.exf, ok.bs, ok.bsz, ok.noex, ok.exfs, ok.funs, ok.frf⟩
theorem Cx.Ok.unwish {X : Cx} {E : Value → Shared → Prop} (ok : (X.wish E).Ok) : X.Ok :=
  ⟨ok.mod, ok.kind, ok.glob, ok.blt, ok.above, ok.inj, ok.has, ok.cab, ok.hd, ok.frames, ok.stk, ok.exf, ok.bs, ok.bsz, ok.noex, ok.exfs, ok.funs, ok.frf⟩
section
variable {X : Cx} {pins : List (Addr × Obj)} {σ : St} {H : Hp} {s : Shared} {E : Value → Shared → Prop}
theorem Inv.wish (I : Inv X pins σ H s) (E : Value → Shared → Prop) : Inv (X.wish E) pins σ H s := ⟨I.ok.wish E, I.os, I.bare, I.base, I.loc, I.cell, I.free, I.freeC, I.pin, I.hok, I.len⟩
theorem Inv.unwish (I : Inv (X.wish E) pins σ H s) : Inv X pins σ H s := ⟨I.ok.unwish, I.os, I.bare, I.base, I.loc, I.cell, I.free, I.freeC, I.pin, I.hok, I.len⟩
theorem SP.unwish {D : Ends} {f : Flow} {s' : Shared} (h : SP (X.wish E) pins D f s') : SP X pins D f s' := by
  cases f with
  | next => obtain ⟨σ', H', I, q⟩ := h; exact ⟨σ', H', I.unwish, q⟩
  | brk => obtain ⟨σ', H', I, q⟩ := h; exact ⟨σ', H', I.unwish, q⟩
  | cont => obtain ⟨σ', H', I, q⟩ := h; exact ⟨σ', H', I.unwish, q⟩
  | ret u => obtain ⟨v, σ', H', I, r, q⟩ := h; exact ⟨v, σ', H', I.unwish, r, q⟩
theorem PSs.nox {st : List Stmt} {t : TS} (h : PSs X.nox st t) : PSs X st t := fun pins s σ H D I hw =>
  wpAny_mono (h pins s σ H D (I.wish _) hw) (fun _ _ q => q.unwish) fun _ _ z => False.elim z
end
section
variable {X : Cx} {st : Stmt} {rest : List Stmt} {t u : TS} {e : Expr} {te : TE} {pos : Pos}
def tNext : TS := fun D σ H => D.nx σ H
def tSeq (t u : TS) : TS := fun D σ H => t { D with nx := u D } σ H
theorem pss_nil : PSs X [] tNext := fun _ _ σ H _ I h => wpAny_execs_nil ⟨σ, H, I, h⟩
theorem pss_cons (h1 : PS X st t) (h2 : PSs X rest u) : PSs X (st :: rest) (tSeq t u) := by
  intro pins s σ H D I h
  refine wpAny_execs_cons (thn (h1 pins s σ H { D with nx := u D } I h) fun f s1 q => ?_)
  cases f with
  | next =>
    obtain ⟨σ', H', I', q⟩ := q
    exact h2 pins s1 σ' H' D I' q
  | ret v => exact q
  | brk => exact q
  | cont => exact q
theorem pss_one (h1 : PS X st t) : PSs X [st] t := by
  intro pins s σ H D I h
  refine wpAny_execs_cons (thn (h1 pins s σ H D I h) fun f s1 q => ?_)
  cases f with
  | next => exact wpAny_execs_nil q
  | ret v => exact q
  | brk => exact q
  | cont => exact q
theorem Inv.quiet {pins : List (Addr × Obj)} {σ : St} {H : Hp} {s : Shared} (I : Inv X pins σ H s) : interactive X.env = false := by simp [interactive, I.ok.kind]
def tDrop (te : TE) : TS := fun D σ H => te σ H fun _ H1 => D.nx σ H1
theorem ps_expr (he : PE X e te) (hs : swapsWith e none pos.line X.env = pure false := by rfl) : PS X (.Expr e pos) (tDrop te) := by
  intro pins s σ H D I h
  exact wpAny_Expr_any (thn (he pins s σ H _ I h) fun v s1 ⟨x, H1, I1, r1, q1⟩ => ⟨σ, H1, I1, q1⟩) I.quiet hs
def tRet (te : TE) : TS := fun D σ H => te σ H D.rt
theorem ps_ret (he : PE X e te) : PS X (.Return (some e) pos) (tRet te) := by
  intro pins s σ H D I h
  exact wpAny_Return_some (thn (he pins s σ H _ I h) fun v s1 ⟨x, H1, I1, r1, q1⟩ => ⟨x, σ, H1, I1, r1, q1⟩)
def tIfS (c : TT) (t u : TS) : TS := fun D σ H => c σ H fun b H1 => if b = true then t D σ H1 else u D σ H1
theorem ps_if {c : Expr} {a b : List Stmt} {tc : TT} (hc : PT X c tc) (ha : PSs X a t) (hb : PSs X b u) : PS X (.If c a b pos) (tIfS tc t u) := by
  intro pins s σ H D I h
  refine wpAny_If (thn (hc pins s σ H _ I h) fun d s1 ⟨H1, I1, q1⟩ => ?_)
  cases d with
  | true => exact ha pins s1 σ H1 D I1 q1
  | false => exact hb pins s1 σ H1 D I1 q1
end
abbrev TG := V → St → Hp → (St → Hp → Prop) → Prop
def PG (X : Cx) (target : Expr) (t : TG) : Prop :=
  ∀ (pins : List (Addr × Obj)) (s : Shared) (σ : St) (H : Hp) (v : V) (u : Value) (Q : St → Hp → Prop), Inv X pins σ H s → RelV v u → t v σ H Q →
    wpAny (model X.prog X.w) X.A (assign target X.env u) (fun _ s' => ∃ σ' H', Inv X pins σ' H' s' ∧ Q σ' H') X.xe s
abbrev TSet := V → V → V → Hp → (Hp → Prop) → Prop
def PSet (X : Cx) (t : TSet) : Prop :=
  ∀ (pins : List (Addr × Obj)) (s : Shared) (σ : St) (H : Hp) (o i v : V) (ov iv u : Value) (Q : Hp → Prop), Inv X pins σ H s → RelV o ov → RelV i iv → RelV v u → t o i v H Q →
    wpAny (model X.prog X.w) X.A (setItem ov iv u) (fun _ s' => ∃ H', Inv X pins σ H' s' ∧ Q H') X.xe s
section
variable {X : Cx} {pos : Pos}
def gName (i : Nat) : TG := fun v σ H Q => Q (σ.set i (some v)) H
theorem pg_name {i : Nat} {x : Str} (hN : X.N.Nodup) (hi : X.N[i]? = some x) (hx : Loc X.env.scope x) (hf : X.fn x = true ∨ X.env.scope.names.lookup x = some .local := by first | exact .inl rfl | exact .inr rfl | assumption) : PG X (.Name x pos) (gName i) := by
  intro pins s σ H v u Q I r h
  exact wpAny_assign_Name (store_ok I hN hi hx r (fun s' I' => ⟨_, H, I', h⟩) hf)
def gSub (to ti : TE) (t : TSet) : TG := fun v σ H Q => to σ H fun o H1 => ti σ H1 fun i H2 => t o i v H2 fun H3 => Q σ H3
theorem pg_sub {o i : Expr} {to ti : TE} {t : TSet} (ho : PE X o to) (hi : PE X i ti) (hs : PSet X t)
    (ha : ∀ v, assign (.Subscript o i pos) X.env v = (do
      let ov ← holding [v] (eval o X.env)
      let iv ← holding [v, ov] (eval i X.env)
      standAt pos
      holding [v, ov, iv] (setItem ov iv v)
      release [v, ov, iv] []) := by intro _; rfl) : PG X (.Subscript o i pos) (gSub to ti t) := by
  intro pins s σ H v u Q I r h
  rw [ha]
  refine wpAny_bind (wpAny_holding (thn (ho pins s σ H _ I h) fun ov s1 ⟨x, H1, I1, r1, q1⟩ => ?_))
  refine wpAny_bind (wpAny_holding (thn (hi pins s1 σ H1 _ I1 q1) fun iv s2 ⟨y, H2, I2, r2, q2⟩ => ?_))
  refine wpAny_bind (wpAny_standAt (wpAny_bind (wpAny_holding (thn (hs pins s2 σ H2 x y v ov iv u _ I2 r1 r2 r q2) fun _ s3 ⟨H3, I3, q3⟩ => ?_))))
  exact wpAny_release ⟨σ, H3, I3, q3⟩
def tAsg (te : TE) (g : TG) : TS := fun D σ H => te σ H fun x H1 => g x σ H1 D.nx
theorem ps_asg {tg e : Expr} {te : TE} {g : TG} (he : PE X e te) (hg : PG X tg g) (hs : swapsWithSole [tg] e pos.line X.env = pure false := by rfl) (hw : swappedStores [tg] e X.env = pure none := by rfl)
    (h1 : (assignEach [tg] X.env).map (·.2) = [assign tg X.env] := by rfl) : PS X (.Assign [tg] e pos) (tAsg te g) := by
  intro pins s σ H D I h
  refine wpAny_Assign_stores (thn (he pins s σ H _ I h) fun v s1 ⟨x, H1, I1, r1, q1⟩ => ?_) hs hw
  rw [h1]
  exact thn (hg pins s1 σ H1 x v _ I1 r1 q1) fun _ s2 q => q
theorem ps_set {i : Nat} {x : Str} {e : Expr} {te : TE} {pos' : Pos} (hN : X.N.Nodup) (hi : X.N[i]? = some x) (hx : Loc X.env.scope x) (he : PE X e te) (hs : swapsWith e (some (.Name x pos')) pos.line X.env = pure false := by rfl) (hf : X.fn x = true ∨ X.env.scope.names.lookup x = some .local := by first | exact .inl rfl | exact .inr rfl | assumption) :
    PS X (.Assign [.Name x pos'] e pos) (tAsg te (gName i)) := by
  intro pins s σ H D I h
  refine wpAny_Assign_Name (thn (he pins s σ H _ I h) fun v s1 ⟨y, H1, I1, r1, q1⟩ => ?_) hs
  exact store_ok I1 hN hi hx r1 (fun s2 I2 => ⟨_, H1, I2, q1⟩) hf
end
section
variable {X : Cx} {pos : Pos}
def tWhile (c : TT) (tb : TS) : TS := fun D σ H => ∃ W : Nat → St → Hp → Prop, (∃ m, W m σ H) ∧ ∀ m σ H, W m σ H →
  c σ H fun b H1 => if b = true then ∃ N : St → Hp → Prop, (∀ σ' H', N σ' H' → ∃ m', m' < m ∧ W m' σ' H') ∧ tb { D with nx := N, ct := N, bk := D.nx } σ H1 else D.nx σ H1
theorem ps_while {c : Expr} {body : List Stmt} {tc : TT} {tb : TS} (hp : PassesOwn (model X.prog X.w) X.A X.env X.xe) (hc : PT X c tc) (hb : PSs X body tb) : PS X (.While c body [] pos) (tWhile tc tb) := by
  intro pins s σ H D I h
  obtain ⟨W, ⟨m0, w0⟩, turn⟩ := h
  refine wpAny_While (codeAny_whileLoop (fun n s' => ∃ σ' H', Inv X pins σ' H' s' ∧ W n σ' H') ?_ m0 ⟨σ, H, I, w0⟩)
  rintro n s1 ⟨σ1, H1, I1, w1⟩
  refine wpAny_passesOwn hp (thn (hc pins s1 σ1 H1 _ I1 (turn n σ1 H1 w1)) fun b s2 ⟨H2, I2, q2⟩ => ?_)
  cases b with
  | true =>
    obtain ⟨N, hN, q2⟩ := q2
    rw [if_pos rfl]
    refine wpAny_passesOwn hp (thn (hb pins s2 σ1 H2 _ I2 q2) fun f s3 q3 => ?_)
    cases f with
    | next =>
      obtain ⟨σ3, H3, I3, n3⟩ := q3
      obtain ⟨m', hm, w3⟩ := hN σ3 H3 n3
      exact ⟨m', hm, σ3, H3, I3, w3⟩
    | cont =>
      obtain ⟨σ3, H3, I3, n3⟩ := q3
      obtain ⟨m', hm, w3⟩ := hN σ3 H3 n3
      exact ⟨m', hm, σ3, H3, I3, w3⟩
    | brk => exact q3
    | ret v => exact q3
  | false =>
    rw [if_neg Bool.false_ne_true]
    exact wpAny_execs_nil ⟨σ1, H2, I2, q2⟩
end
structure It where
  go : Nat → Hp → Prop
  yld : Nat → Hp → V → Hp → Prop
  stop : Nat → Hp → Prop
def FpOk (X : Cx) (pins : List (Addr × Obj)) (H : Hp) (b : Addr) : Prop :=
  H b = none ∧ b ≠ X.env.locals ∧ b ∉ X.fs ∧ (b ∈ X.ex ∨ X.s_0.heap.objs.size ≤ b) ∧ (∀ x c, X.env.cells.lookup x = some c → c ≠ b) ∧ ∀ p ∈ X.pn ++ pins, p.1 ≠ b
theorem Inv.fpOk {X : Cx} {pins : List (Addr × Obj)} {σ : St} {H H' : Hp} {s : Shared} {b : Addr} (I : Inv X pins σ H s) (hb : s.heap.objs.size ≤ b) (hn : H' b = none) : FpOk X pins H' b := by
  refine ⟨hn, Nat.ne_of_gt (Nat.lt_of_lt_of_le I.lt hb), I.nofs hb, .inr (Nat.le_trans I.sz hb), fun x c e z => ?_, fun p hp z => ?_⟩
  · obtain ⟨v, q⟩ := I.cell x c e
    exact absurd (Nat.lt_of_lt_of_le q.lt (by rw [z]; exact hb)) (Nat.lt_irrefl _)
  · exact absurd (Nat.lt_of_lt_of_le (Heap.lt_size (I.pin p hp).1) (by rw [z]; exact hb)) (Nat.lt_irrefl _)
structure Turn (P : Program) (w : World) (K : PySem.W.Frag) (tg : Expr) (J : It) (fp : List Addr) (it : Addr) (tn : Nat → Heap → Prop) : Prop where
  mem : it ∈ fp
  obj : ∀ i h, tn i h → ∀ b ∈ fp, ∃ o, h.get? b = some o ∧ ∀ v, o.data ≠ .cell v
  keep : ∀ i h h', tn i h → (∀ b ∈ fp, ∀ o, h.get? b = some o → h'.get? b = some o) → tn i h'
  item : ∀ (X : Cx), X.prog = P → X.w = w → X.K = K → X.calm = true → ∀ (i : Nat) (pins : List (Addr × Obj)) (s : Shared) (σ : St) (H : Hp) (E : Value → Shared → Prop), Inv X pins σ H s → (∀ b ∈ fp, FpOk X pins H b) → tn i s.heap → J.go i H →
    wpAny (model P w) X.A (pyNext (.ref it)) (fun r s1 => ∃ u, r = some u ∧
      wpAny (model P w) X.A (letOwnedTupleGo tg (.ref it) u) (fun _ s2 => ∃ x H', Inv X pins σ H' s2 ∧ RelV x u ∧ J.yld i H x H' ∧ tn (i + 1) s2.heap ∧ ∀ b ∈ fp, H' b = none) E s1) E s
  done : ∀ (X : Cx), X.prog = P → X.w = w → X.K = K → X.calm = true → ∀ (i : Nat) (pins : List (Addr × Obj)) (s : Shared) (σ : St) (H : Hp) (E : Value → Shared → Prop), Inv X pins σ H s → (∀ b ∈ fp, FpOk X pins H b) → tn i s.heap → J.stop i H →
    wpAny (model P w) X.A (pyNext (.ref it)) (fun r s1 => r = none ∧ Inv X pins σ H s1) E s
  self : ∀ (A : Around) (i : Nat) (s : Shared) (Q : Value → Shared → Prop) (E : Value → Shared → Prop), tn i s.heap → Q (.ref it) s → wpAny (model P w) A (pyIter (.ref it)) Q E s
abbrev TI := St → Hp → (It → Hp → Prop) → Prop
def PIE (X : Cx) (pins : List (Addr × Obj)) (σ : St) (tg : Expr) (R : It → Hp → Prop) (itv : Value) (s2 : Shared) : Prop :=
  ∃ (it : Addr) (fp : List Addr) (tn : Nat → Heap → Prop) (J : It) (H' : Hp), itv = .ref it ∧ Inv X pins σ H' s2 ∧ Turn X.prog X.w X.K tg J fp it tn ∧ tn 0 s2.heap ∧ (∀ b ∈ fp, FpOk X pins H' b) ∧ R J H'
def PI (X : Cx) (tg iter : Expr) (wi : TI) : Prop :=
  ∀ (pins : List (Addr × Obj)) (s : Shared) (σ : St) (H : Hp) (R : It → Hp → Prop), Inv X pins σ H s → wi σ H R →
    wpAny (model X.prog X.w) X.A (eval iter X.env) (fun v s1 => wpAny (model X.prog X.w) X.A (pyIter v) (PIE X pins σ tg R) X.xe s1) X.xe s
theorem go_of {M : Model} {A : Around} {E : Value → Shared → Prop} {s : Shared} {tg : Expr} {it : Addr} {u : Value} {o : Obj} {n : String} {vs : Array Value} {Q : Unit → Shared → Prop} (ho : s.heap.get? it = some o) (hc : o.cls = .type n) (hd : o.data = .fields vs)
    (hn : ["enumerate", "zip", "dict_itemiterator", "dict_reverseitemiterator", "odict_iterator", "itertools.zip_longest", "itertools.pairwise"].contains n = false) (hQ : Q () s) : wpAny M A (letOwnedTupleGo tg (.ref it) u) Q E s := by
  unfold letOwnedTupleGo
  cases tg <;> first
    | exact wpAny_pure hQ
    | (cases u <;> first
        | exact wpAny_pure hQ
        | (refine wpAny_bind (wpAny_load ho ?_)
           rw [hc, hd]
           show wpAny M A (if (["enumerate", "zip", "dict_itemiterator", "dict_reverseitemiterator", "odict_iterator", "itertools.zip_longest", "itertools.pairwise"].contains n && vs[0]? == some (rawInt _)) = true then _ else _) Q E s
           rw [if_neg (by intro h; rw [hn, Bool.false_and] at h; cases h)]
           exact wpAny_pure hQ))
def Itl (K : PySem.W.Frag) (a : Addr) : It :=
  ⟨fun i H => ∃ xs x, SqL K H a xs ∧ xs[i]? = some x, fun i H x H' => H' = H ∧ ∀ xs, SqL K H a xs → xs[i]? = some x, fun i H => ∃ xs, SqL K H a xs ∧ xs.length ≤ i⟩
def Itr (lo : Int) (n : Nat) : It := ⟨fun i _ => i < n, fun i H x H' => H' = H ∧ x = .int (lo + i), fun i _ => n ≤ i⟩
theorem turn_list {P : Program} {w : World} {K : PySem.W.Frag} {tg : Expr} (a it : Addr) : Turn P w K tg (Itl K a) [it] it (fun i h => h.IsListIter it a i) where
  mem := by simp
  obj := fun i h st b hb => by
    have e : b = it := by simpa using hb
    subst e
    obtain ⟨o, e, c, d⟩ := st
    exact ⟨o, e, fun v z => by rw [d] at z; cases z⟩
  keep := fun i h h' st k => st.at fun o e => k it (by simp) o e
  item := by
    intro X hP hw hK hc i pins s σ H E I hf st hg
    subst hP hw hK
    obtain ⟨xs, x, hq, hx⟩ := hg
    obtain ⟨its, rv, p, hz⟩ := I.list hq
    obtain ⟨u, hu, ru⟩ := rv.get hx
    obtain ⟨f0, f1, f2, f3, f4, f5⟩ := hf it (by simp)
    refine wpAny_pyNext_list_item st p.isList (x := u) (by simpa using hu) fun h' st' sb => ?_
    have I1 : Inv X pins σ H { s with heap := h' } := I.turned (t' := s.toks) (fun b o hb e => (sb.2 b hb).trans e) f0 f1 f3 f4 f5
    obtain ⟨o, e, c, d⟩ := id st'
    exact ⟨u, rfl, go_of (s := { s with heap := h' }) e c d (by decide) ⟨x, H, I1, ru, ⟨rfl, fun ys hy => by rw [I.list_inj hy hq]; exact hx⟩, st', fun b hb => (hf b hb).1⟩⟩
  done := by
    intro X hP hw hK hc i pins s σ H E I hf st hg
    subst hP hw hK
    obtain ⟨xs, hq, hx⟩ := hg
    obtain ⟨its, rv, p, hz⟩ := I.list hq
    obtain ⟨f0, f1, f2, f3, f4, f5⟩ := hf it (by simp)
    have hl := rv.length
    exact wpAny_pyNext_list_end (I.ok.hd hc) st p.isList (by simp; omega) fun h' eb => ⟨rfl, I.turned (t' := s.toks) (fun b o hb e => eb b o hb e) f0 f1 f3 f4 f5⟩
  self := fun _ _ _ _ _ st h => wpAny_pyIter_listiter st h
theorem turn_range {P : Program} {w : World} {K : PySem.W.Frag} {tg : Expr} (it : Addr) (lo : Int) (n : Nat) : Turn P w K tg (Itr lo n) [it] it (fun i h => IsRangeIter h it (lo + (i : Nat) * 1) ((n : Int) - (i : Nat)) 1) where
  mem := by simp
  obj := fun i h st b hb => by
    have e : b = it := by simpa using hb
    subst e
    exact ⟨_, st, fun v z => by
      have z' : Data.fields _ = Data.cell v := z
      cases z'⟩
  keep := fun i h h' st k => k it (by simp) _ st
  item := by
    intro X hP hw hK hc i pins s σ H E I hf st hg
    subst hP hw hK
    obtain ⟨f0, f1, f2, f3, f4, f5⟩ := hf it (by simp)
    have W := Walks.range (prog := X.prog) (w := X.w) (I.ok.hd hc) it lo 1 n
    refine W.item i s _ _ hg st fun v h' tk hv st' kk => ?_
    obtain ⟨t, rfl⟩ := hv
    have I1 : Inv X pins σ H { s with heap := h', toks := tk } := I.turned (fun b o hb e => kk b o (by simpa using hb) e) f0 f1 f3 f4 f5
    refine ⟨_, rfl, go_of (s := { s with heap := h', toks := tk }) (n := "range_iterator") st' rfl rfl (by decide) ⟨.int (lo + i), H, I1, ⟨t, ?_⟩, ⟨rfl, rfl⟩, st', fun b hb => (hf b hb).1⟩⟩
    rw [Int.mul_one]
  done := by
    intro X hP hw hK hc i pins s σ H E I hf st hg
    subst hP hw hK
    obtain ⟨f0, f1, f2, f3, f4, f5⟩ := hf it (by simp)
    exact wpAny_pyNext_range_end (I.ok.hd hc) st (by have : n ≤ i := hg; omega) fun h' eb => ⟨rfl, I.turned (t' := s.toks) (fun b o hb e => eb b o hb e) f0 f1 f3 f4 f5⟩
  self := fun _ _ _ _ _ st h => wpAny_pyIter_rangeiter st h
end L2
namespace L2
open PySem PySem.Spec PyProof.Rows
section
variable {X : Cx} {tg : Expr}
def iList (K : PySem.W.Frag) (tl : TE) : TI := fun σ H R => tl σ H fun x H1 => ∃ a, x = .ref a ∧ (∃ xs, SqL K H1 a xs) ∧ R (Itl K a) H1
theorem pi_list {l : Expr} {tl : TE} (hl : PE X l tl) : PI X tg l (iList X.K tl) := by
  intro pins s σ H R I h
  refine thn (hl pins s σ H _ I h) fun v s1 ⟨x, H1, I1, r1, q1⟩ => ?_
  obtain ⟨a, e, ⟨xs, hq⟩, q⟩ := q1
  subst e
  cases r1
  obtain ⟨its, rv, p, hz⟩ := I1.list hq
  refine wpAny_pyIter_list p.isList ?_
  refine ⟨s1.heap.objs.size, [s1.heap.objs.size], _, _, H1, rfl, I1.kept (t' := s1.toks) fun b o e => Heap.get?_push_of_some _ e, turn_list a _, ⟨_, Heap.get?_push_size _ rfl, rfl, rfl⟩, fun b hb => ?_, q⟩
  have e : b = s1.heap.objs.size := by simpa using hb
  subst e
  exact I1.fpOk (Nat.le_refl _) (I1.hok.fresh (Nat.le_refl _))
theorem range_it {pins : List (Addr × Obj)} {σ : St} {H : Hp} {s : Shared} {R : It → Hp → Prop} {E : Value → Shared → Prop} {lo hi : Int} {t u v : Tok} {tk : Nat} (I : Inv X pins σ H s) (h1 : -(2 ^ 62) ≤ lo) (h2 : lo < 2 ^ 62) (h3 : -(2 ^ 62) ≤ hi) (h4 : hi < 2 ^ 62)
    (q : R (Itr lo (hi - lo).toNat) H) : wpAny (model X.prog X.w) X.A (pyIter (.ref s.heap.objs.size)) (PIE X pins σ tg R) E { s with heap := s.heap.push { cls := .type "range", data := .fields #[.int lo t, .int hi u, .int 1 v] }, toks := tk } := by
  refine wpAny_pyIter_range (IsRange.new ..) (small_one h1 h2 h3 h4) ?_
  have I1 : Inv X pins σ H { s with heap := s.heap.push { cls := .type "range", data := .fields #[.int lo t, .int hi u, .int 1 v] }, toks := tk } := I.kept fun b o e => Heap.get?_push_of_some _ e
  refine ⟨(s.heap.push { cls := .type "range", data := .fields #[.int lo t, .int hi u, .int 1 v] }).objs.size, [(s.heap.push { cls := .type "range", data := .fields #[.int lo t, .int hi u, .int 1 v] }).objs.size], _, _, H, rfl,
    I1.kept (t' := tk) fun b o e => Heap.get?_push_of_some _ e, turn_range _ lo (hi - lo).toNat, ?_, fun b hb => ?_, q⟩
  · have e1 : lo + ((0 : Nat) : Int) * 1 = lo := by simp
    have e2 : (((hi - lo).toNat : Nat) : Int) - ((0 : Nat) : Int) = Builtin.Range.rangeSize lo hi 1 := by rw [rangeSize_one]; split <;> omega
    show IsRangeIter _ _ (lo + ((0 : Nat) : Int) * 1) ((((hi - lo).toNat : Nat) : Int) - ((0 : Nat) : Int)) 1
    rw [e1, e2]
    exact Heap.get?_push_size _ rfl
  · have e : b = (s.heap.push { cls := .type "range", data := .fields #[.int lo t, .int hi u, .int 1 v] }).objs.size := by simpa using hb
    subst e
    exact I1.fpOk (Nat.le_refl _) (I1.hok.fresh (Nat.le_refl _))
def iRng1 (ta : TA) : TI := fun σ H R => ta σ H fun vs H1 => ∃ j : Int, vs = [.int j] ∧ -(2 ^ 62) ≤ j ∧ j < 2 ^ 62 ∧ R (Itr 0 j.toNat) H1
theorem pi_range1 {a : Expr} {ta : TA} {p pos : Pos} (hg : Gl X "range") (hm : X.mg "range" = none) (ha : PA X [a] ta) (hs : starEach [a] X.env = [(false, eval a X.env)] := by rfl) : PI X tg (.Call (.Name "range" p) [a] [] pos) (iRng1 ta) := by
  intro pins s σ H R I h
  refine Call_ (ld_blt I hg hm boot_range (PyProof.Rows.callWith_type1 (thn (ha pos pins s σ H _ I h) fun us s1 ⟨vs, H1, I1, r1, q1⟩ => ?_) hs rfl))
  obtain ⟨j, e, q1, q2, q⟩ := q1
  subst e
  cases r1 with
  | cons r rr =>
    cases rr
    obtain ⟨t, rfl⟩ := r
    exact call_range_1 (range_it I1 (by omega) (by omega) q1 q2 (by simpa using q))
def tFor (wi : TI) (g : TG) (tb : TS) : TS := fun D σ H => wi σ H fun J H1 => ∃ W : Nat → Nat → St → Hp → Prop, (∃ m, W 0 m σ H1) ∧ ∀ i m σ H, W i m σ H →
  (J.stop i H ∧ D.nx σ H) ∨ (J.go i H ∧ ∃ N : St → Hp → Prop, (∀ σ' H', N σ' H' → ∃ m', m' < m ∧ W (i + 1) m' σ' H') ∧ ∀ x H', J.yld i H x H' → g x σ H' fun σ2 H2 => tb { D with nx := N, ct := N, bk := D.nx } σ2 H2)
def pinsAt (fp : List Addr) (h : Heap) : List (Addr × Obj) := fp.filterMap fun b => (h.get? b).map fun o => (b, o)
theorem mem_pinsAt {fp : List Addr} {h : Heap} {b : Addr} {o : Obj} (hb : b ∈ fp) (e : h.get? b = some o) : (b, o) ∈ pinsAt fp h := List.mem_filterMap.mpr ⟨b, hb, by rw [e]; rfl⟩
theorem of_pinsAt {fp : List Addr} {h : Heap} {p : Addr × Obj} (hp : p ∈ pinsAt fp h) : p.1 ∈ fp ∧ h.get? p.1 = some p.2 := by
  obtain ⟨b, hb, e⟩ := List.mem_filterMap.mp hp
  cases q : h.get? b with
  | none => rw [q] at e; cases e
  | some o =>
    rw [q] at e
    have e' : (b, o) = p := Option.some.inj e
    subst e'
    exact ⟨hb, q⟩
theorem Inv.pinned {pins : List (Addr × Obj)} {σ : St} {H : Hp} {s : Shared} {fp : List Addr} (I : Inv X pins σ H s) (hf : ∀ b ∈ fp, FpOk X pins H b) (ho : ∀ b ∈ fp, ∃ o, s.heap.get? b = some o ∧ ∀ v, o.data ≠ .cell v) : Inv X (pins ++ pinsAt fp s.heap) σ H s :=
  I.pins_of fun p hp => (List.mem_append.mp hp).elim (fun z => I.pin p (List.mem_append_right _ z)) fun z => by
    obtain ⟨hb, e⟩ := of_pinsAt z
    obtain ⟨f0, f1, f2, _⟩ := hf p.1 hb
    obtain ⟨o, e', d⟩ := ho p.1 hb
    rw [e] at e'; cases e'
    exact ⟨e, f0, f1, f2, d⟩
theorem Inv.unpinned {pins pl : List (Addr × Obj)} {σ : St} {H : Hp} {s : Shared} (I : Inv X (pins ++ pl) σ H s) : Inv X pins σ H s := I.pins_of fun p hp => I.pin p (List.mem_append_right _ (List.mem_append_left _ hp))
theorem ps_for {iter : Expr} {body : List Stmt} {wi : TI} {g : TG} {tb : TS} {pos : Pos} (hp : PassesOwn (model X.prog X.w) X.A X.env X.xe) (hc : X.calm = true) (hi : PI X tg iter wi) (hg : PG X tg g) (hb : PSs X body tb)
    (hs : ∀ x, foldedSetIterable iter X.env x = pure x := by intro _; rfl) : PS X (.For tg iter body [] pos) (tFor wi g tb) := by
  intro pins s σ H D I h
  refine wpAny_For (thn (hi pins s σ H _ I h) fun v s1 h1 => thn h1 fun itv s2 h2 => ?_) hs
  obtain ⟨it, fp, tn, J, H2, e, I2, T, st2, f2, W, ⟨m0, w0⟩, turn⟩ := h2
  subst e
  have stat : ∀ {H' : Hp}, (∀ b ∈ fp, H' b = none) → ∀ b ∈ fp, FpOk X pins H' b := fun hn b hb => ⟨hn b hb, (f2 b hb).2⟩
  refine codeAny_forLoop_any (fun n s' => ∃ i σ' H', Inv X pins σ' H' s' ∧ tn i s'.heap ∧ (∀ b ∈ fp, H' b = none) ∧ W i n σ' H') ?_ m0 ⟨0, σ, H2, I2, st2, fun b hb => (f2 b hb).1, w0⟩
  rintro n s3 ⟨i, σ3, H3, I3, st3, fr3, w3⟩
  rcases turn i n σ3 H3 w3 with ⟨stop, qn⟩ | ⟨go, N, hN, step⟩
  · refine wpAny_passesOwn hp (thn (T.done X rfl rfl rfl hc i pins s3 σ3 H3 X.xe I3 (stat fr3) st3 stop) fun r s4 ⟨hr, I4⟩ => ?_)
    subst hr
    exact wpAny_execs_nil ⟨σ3, H3, I4, qn⟩
  · refine wpAny_passesOwn hp (thn (T.item X rfl rfl rfl hc i pins s3 σ3 H3 X.xe I3 (stat fr3) st3 go) fun r s4 ⟨u, hr, h4⟩ => ?_)
    subst hr
    refine wpAny_passesOwn hp (thn h4 fun _ s5 ⟨x, H5, I5, r5, y5, st5, fr5⟩ => ?_)
    have I5' := I5.pinned (stat fr5) (T.obj _ _ st5)
    refine wpAny_passesOwn hp (thn (hg _ s5 σ3 H5 x u _ I5' r5 (step x H5 y5)) fun _ s6 ⟨σ6, H6, I6, q6⟩ => ?_)
    refine wpAny_passesOwn hp (thn (hb _ s6 σ6 H6 _ I6 q6) fun f s7 q7 => ?_)
    have again : ∀ {σ7 : St} {H7 : Hp}, Inv X (pins ++ pinsAt fp s5.heap) σ7 H7 s7 → N σ7 H7 → ∃ m, m < n ∧ ∃ i σ' H', Inv X pins σ' H' s7 ∧ tn i s7.heap ∧ (∀ b ∈ fp, H' b = none) ∧ W i m σ' H' := fun {σ7 H7} I7 n7 => by
      obtain ⟨m', hm, w7⟩ := hN σ7 H7 n7
      refine ⟨m', hm, i + 1, σ7, H7, I7.unpinned, T.keep _ _ _ st5 fun b hb o e => (I7.pin (b, o) (List.mem_append_right _ (List.mem_append_right _ (mem_pinsAt hb e)))).1, fun b hb => ?_, w7⟩
      obtain ⟨o, e, d⟩ := T.obj _ _ st5 b hb
      exact (I7.pin (b, o) (List.mem_append_right _ (List.mem_append_right _ (mem_pinsAt hb e)))).2.1
    cases f with
    | next => obtain ⟨σ7, H7, I7, n7⟩ := q7; exact again I7 n7
    | cont => obtain ⟨σ7, H7, I7, n7⟩ := q7; exact again I7 n7
    | brk => obtain ⟨σ7, H7, I7, q7⟩ := q7; exact ⟨σ7, H7, I7.unpinned, q7⟩
    | ret v => obtain ⟨x7, σ7, H7, I7, r7, q7⟩ := q7; exact ⟨x7, σ7, H7, I7.unpinned, r7, q7⟩
end
theorem for_list {K : PySem.W.Frag} {a : Addr} {xs : List V} {g : TG} {tb : TS} {D : Ends} {σ : St} {H : Hp} (Pv : Nat → St → Hp → Prop) (h0 : Pv 0 σ H) (hl : ∀ i σ H, i ≤ xs.length → Pv i σ H → SqL K H a xs)
    (hs : ∀ i x σ H, xs[i]? = some x → Pv i σ H → g x σ H fun σ2 H2 => tb { D with nx := Pv (i + 1), ct := Pv (i + 1), bk := D.nx } σ2 H2) (hd : ∀ σ H, Pv xs.length σ H → D.nx σ H) :
    ∃ W : Nat → Nat → St → Hp → Prop, (∃ m, W 0 m σ H) ∧ ∀ i m σ H, W i m σ H →
      ((Itl K a).stop i H ∧ D.nx σ H) ∨ ((Itl K a).go i H ∧ ∃ N : St → Hp → Prop, (∀ σ' H', N σ' H' → ∃ m', m' < m ∧ W (i + 1) m' σ' H') ∧ ∀ x H', (Itl K a).yld i H x H' → g x σ H' fun σ2 H2 => tb { D with nx := N, ct := N, bk := D.nx } σ2 H2) := by
  refine ⟨fun i m σ H => m = xs.length - i ∧ i ≤ xs.length ∧ Pv i σ H, ⟨xs.length, by simp, Nat.zero_le _, h0⟩, ?_⟩
  rintro i m σ H ⟨rfl, hi, p⟩
  have q := hl i σ H hi p
  by_cases hlt : i < xs.length
  · refine .inr ⟨⟨xs, xs[i], q, by simp [hlt]⟩, Pv (i + 1), fun σ' H' p' => ⟨xs.length - (i + 1), by omega, rfl, hlt, p'⟩, fun x H' y => ?_⟩
    obtain ⟨e, y⟩ := y
    subst e
    exact hs i x σ _ (y xs q) p
  · have e : i = xs.length := by omega
    subst e
    exact .inl ⟨⟨xs, q, Nat.le_refl _⟩, hd σ H p⟩
theorem for_range {lo : Int} {n : Nat} {g : TG} {tb : TS} {D : Ends} {σ : St} {H : Hp} (Pv : Nat → St → Hp → Prop) (h0 : Pv 0 σ H)
    (hs : ∀ i σ H, i < n → Pv i σ H → g (.int (lo + i)) σ H fun σ2 H2 => tb { D with nx := Pv (i + 1), ct := Pv (i + 1), bk := D.nx } σ2 H2) (hd : ∀ σ H, Pv n σ H → D.nx σ H) :
    ∃ W : Nat → Nat → St → Hp → Prop, (∃ m, W 0 m σ H) ∧ ∀ i m σ H, W i m σ H →
      ((Itr lo n).stop i H ∧ D.nx σ H) ∨ ((Itr lo n).go i H ∧ ∃ N : St → Hp → Prop, (∀ σ' H', N σ' H' → ∃ m', m' < m ∧ W (i + 1) m' σ' H') ∧ ∀ x H', (Itr lo n).yld i H x H' → g x σ H' fun σ2 H2 => tb { D with nx := N, ct := N, bk := D.nx } σ2 H2) := by
  refine ⟨fun i m σ H => m = n - i ∧ i ≤ n ∧ Pv i σ H, ⟨n, by simp, Nat.zero_le _, h0⟩, ?_⟩
  rintro i m σ H ⟨rfl, hi, p⟩
  by_cases hlt : i < n
  · refine .inr ⟨hlt, Pv (i + 1), fun σ' H' p' => ⟨n - (i + 1), by omega, rfl, hlt, p'⟩, fun x H' y => ?_⟩
    obtain ⟨e, y⟩ := y
    subst e y
    exact hs i σ _ hlt p
  · have e : i = n := by omega
    subst e
    exact .inl ⟨Nat.le_refl _, hd σ H p⟩
end L2
namespace L2
open PySem PySem.Spec PyProof.Rows
abbrev R2 := V → V → Hp → VK → Prop
def OpR (X : Cx) (f : Value → Value → Sem Value) (r : R2) : Prop :=
  ∀ (pins : List (Addr × Obj)) (s : Shared) (σ : St) (H : Hp) (x y : V) (v u : Value) (Q : VK), Inv X pins σ H s → RelV x v → RelV y u → r x y H Q →
    wpAny (model X.prog X.w) X.A (f v u) (EP X pins σ Q) X.xe s
def CallR (X : Cx) (f : Value) (r : List V → Hp → VK → Prop) : Prop :=
  ∀ (pins : List (Addr × Obj)) (s : Shared) (σ : St) (H : Hp) (xs : List V) (us : List Value) (Q : VK), Inv X pins σ H s → Vals xs us → r xs H Q →
    wpAny (model X.prog X.w) X.A (call f us) (EP X pins σ Q) X.xe s
def tOp (r : R2) (ta tb : TE) : TE := fun σ H Q => ta σ H fun x H1 => tb σ H1 fun y H2 => r x y H2 Q
inductive rI (C : Int → Int → Prop) (g : Int → Int → V) (x y : V) (H : Hp) (Q : VK) : Prop
  | mk (i j : Int) (ex : x = .int i) (ey : y = .int j) (c : C i j) (q : Q (g i j) H) : rI C g x y H Q
inductive rI0 (g : Int → Int → V) (x y : V) (H : Hp) (Q : VK) : Prop
  | mk (i j : Int) (ex : x = .int i) (ey : y = .int j) (q : Q (g i j) H) : rI0 g x y H Q
section
variable {X : Cx} {a b c : Expr} {ta tb tc : TE} {pos : Pos}
theorem binT (ha : PE X a ta) (hb : PE X b tb) {pins : List (Addr × Obj)} {s : Shared} {σ : St} {H : Hp} {R : V → V → Hp → Prop} (I : Inv X pins σ H s)
    (h : ta σ H fun x H1 => tb σ H1 fun y H2 => R x y H2) {Q : Value → Shared → Prop} {f : Value → Value → Sem Value}
    (hf : ∀ v u s2 x y H2, Inv X pins σ H2 s2 → RelV x v → RelV y u → R x y H2 → wpAny (model X.prog X.w) X.A (f v u) Q X.xe s2) :
    wpAny (model X.prog X.w) X.A (eval a X.env) (fun v s₁ => wpAny (model X.prog X.w) X.A (eval b X.env) (fun u s₂ => wpAny (model X.prog X.w) X.A (f v u) Q X.xe s₂) X.xe s₁) X.xe s := by
  refine thn (ha pins s σ H _ I h) fun v s1 ⟨x, H1, I1, r1, q1⟩ => ?_
  refine thn (hb pins s1 σ H1 _ I1 q1) fun u s2 ⟨y, H2, I2, r2, q2⟩ => ?_
  exact hf v u s2 x y H2 I2 r1 r2 q2
theorem pe_op {op : Operator} {r : R2} (ho : OpR X (binaryOp op) r) (ha : PE X a ta) (hb : PE X b tb) : PE X (.BinOp a op b pos) (tOp r ta tb) := by
  intro pins s σ H Q I h
  exact wpAny_BinOp (binT ha hb I h fun v u s2 x y H2 I2 rx ry q => ho pins s2 σ H2 x y v u Q I2 rx ry q)
theorem opI {f : Value → Value → Sem Value} {C : Int → Int → Prop} {g : Int → Int → Int}
    (rule : ∀ (i j : Int) (t u : Tok) (s : Shared) (Q : Value → Shared → Prop) (E : Value → Shared → Prop), C i j → Q (.int (g i j) s.toks) { s with toks := s.toks + 1 } → wpAny (model X.prog X.w) X.A (f (.int i t) (.int j u)) Q E s) :
    OpR X f (rI C fun i j => .int (g i j)) := by
  intro pins s σ H x y v u Q I rx ry h
  obtain ⟨i, j, rfl, rfl, hc, q⟩ := h
  obtain ⟨t, rfl⟩ := rx
  obtain ⟨t', rfl⟩ := ry
  exact rule i j t t' s _ _ hc ⟨.int (g i j), H, I.tok _, ⟨_, rfl⟩, q⟩
theorem opI0 {f : Value → Value → Sem Value} {g : Int → Int → Int}
    (rule : ∀ (i j : Int) (t u : Tok) (s : Shared) (Q : Value → Shared → Prop) (E : Value → Shared → Prop), Q (.int (g i j) s.toks) { s with toks := s.toks + 1 } → wpAny (model X.prog X.w) X.A (f (.int i t) (.int j u)) Q E s) :
    OpR X f (rI0 fun i j => .int (g i j)) := by
  intro pins s σ H x y v u Q I rx ry h
  obtain ⟨i, j, rfl, rfl, q⟩ := h
  obtain ⟨t, rfl⟩ := rx
  obtain ⟨t', rfl⟩ := ry
  exact rule i j t t' s _ _ ⟨.int (g i j), H, I.tok _, ⟨_, rfl⟩, q⟩
theorem opB0 {f : Value → Value → Sem Value} {g : Int → Int → Bool}
    (rule : ∀ (i j : Int) (t u : Tok) (s : Shared) (Q : Value → Shared → Prop) (E : Value → Shared → Prop), Q (.bool (g i j)) s → wpAny (model X.prog X.w) X.A (f (.int i t) (.int j u)) Q E s) :
    OpR X f (rI0 fun i j => .bl (g i j)) := by
  intro pins s σ H x y v u Q I rx ry h
  obtain ⟨i, j, rfl, rfl, q⟩ := h
  obtain ⟨t, rfl⟩ := rx
  obtain ⟨t', rfl⟩ := ry
  exact rule i j t t' s _ _ ⟨.bl (g i j), H, I, rfl, q⟩
def CDiv (i j : Int) : Prop := 0 < j ∧ j < 1073741824
def CMul (i j : Int) : Prop := (-(2 ^ 64) < i ∧ i < 2 ^ 64) ∨ (-(2 ^ 64) < j ∧ j < 2 ^ 64)
theorem CMul.ok {i j : Int} (h : CMul i j) : IntMulOk i j := by
  rcases h with ⟨h1, h2⟩ | ⟨h1, h2⟩
  · exact .of_left (intBits_le_64 h1 h2)
  · exact .of_right (intBits_le_64 h1 h2)
theorem two_pow_nn (k : Nat) : (0 : Int) ≤ 2 ^ k := by
  rw [two_pow_cast]
  exact Int.natCast_nonneg _
theorem op_add : OpR X (binaryOp .Add) (rI0 fun i j => .int (i + j)) := opI0 fun _ _ _ _ _ _ _ q => add_int q
theorem op_mul : OpR X (binaryOp .Mult) (rI CMul fun i j => .int (i * j)) := opI fun _ _ _ _ _ _ _ hc q => mul_int q hc.ok
theorem op_fdiv : OpR X (binaryOp .FloorDiv) (rI CDiv fun i j => .int (i / j)) := opI fun i j _ _ _ _ _ hc q => by
  have h1 : (0 : Int) < j := hc.1
  have h2 : j < 1073741824 := hc.2
  exact floordiv_int (by omega) (by rw [Int.fdiv_eq_ediv_of_nonneg i (by omega)]; exact q) (.inl (PyProof.noPylong_small (by omega)))
theorem op_mod : OpR X (binaryOp .Mod) (rI (fun _ j => 0 < j) fun i j => .int (i % j)) := opI fun i j _ _ _ _ _ hc q => by
  have h1 : (0 : Int) < j := hc
  exact mod_int' (by omega) (by rw [Int.fmod_eq_emod_of_nonneg i (by omega)]; exact q)
theorem op_shr : OpR X (binaryOp .RShift) (rI (fun _ j => 0 ≤ j) fun i j => .int (i / 2 ^ j.toNat)) := opI fun i j _ _ _ _ _ hc q =>
  rshift_int hc (by rw [Int.fdiv_eq_ediv_of_nonneg i (two_pow_nn _)]; exact q)
theorem op_xor : OpR X (binaryOp .BitXor) (rI0 fun i j => .int (Builtin.bitXor i j)) := opI0 fun _ _ _ _ _ _ _ q => xor_int q
end
def isI : V → Bool
  | .int _ => true
  | _ => false
def scal (x y : V) : Bool := isI x && isI y
theorem isI_int : ∀ {x : V}, isI x = true → ∃ i, x = .int i
  | .int i, _ => ⟨i, rfl⟩
theorem scal_int {x y : V} (h : scal x y = true) : (∃ i, x = .int i) ∧ ∃ j, y = .int j := by
  unfold scal at h
  rw [Bool.and_eq_true] at h
  exact ⟨isI_int h.1, isI_int h.2⟩
inductive rEq (x y : V) (H : Hp) (Q : VK) : Prop
  | mk (s : scal x y = true) (q : Q (.bl (decide (x = y))) H) : rEq x y H Q
inductive rNe (x y : V) (H : Hp) (Q : VK) : Prop
  | mk (s : scal x y = true) (q : Q (.bl (!decide (x = y))) H) : rNe x y H Q
theorem dec_int {i j : Int} : decide (V.int i = V.int j) = (i == j) := by
  rw [Bool.eq_iff_iff]
  simp
section
variable {X : Cx} {a b c : Expr} {ta tb tc : TE} {pos : Pos}
theorem fin_bl {pins : List (Addr × Obj)} {σ : St} {H : Hp} {s : Shared} {Q : VK} {k k' : Bool} (I : Inv X pins σ H s) (q : Q (.bl k) H) (e : k = k') : EP X pins σ Q (.bool k') s := by
  subst e
  exact ⟨.bl k, H, I, rfl, q⟩
theorem op_eq : OpR X (compareOp .Eq) rEq := by
  intro pins s σ H x y v u Q I rx ry h
  obtain ⟨hs, q⟩ := h
  obtain ⟨⟨i, rfl⟩, j, rfl⟩ := scal_int hs
  obtain ⟨t, rfl⟩ := rx
  obtain ⟨t', rfl⟩ := ry
  exact eq_int (fin_bl I q dec_int)
theorem op_ne : OpR X (compareOp .NotEq) rNe := by
  intro pins s σ H x y v u Q I rx ry h
  obtain ⟨hs, q⟩ := h
  obtain ⟨⟨i, rfl⟩, j, rfl⟩ := scal_int hs
  obtain ⟨t, rfl⟩ := rx
  obtain ⟨t', rfl⟩ := ry
  exact ne_int (fin_bl I q (congrArg not dec_int))
theorem op_lt : OpR X (compareOp .Lt) (rI0 fun i j => .bl (decide (i < j))) := opB0 fun _ _ _ _ _ _ _ q => lt_int q
theorem op_le : OpR X (compareOp .LtE) (rI0 fun i j => .bl (decide (i ≤ j))) := opB0 fun _ _ _ _ _ _ _ q => le_int q
theorem op_gt : OpR X (compareOp .Gt) (rI0 fun i j => .bl (decide (j < i))) := opB0 fun _ _ _ _ _ _ _ q => gt_int q
theorem op_ge : OpR X (compareOp .GtE) (rI0 fun i j => .bl (decide (j ≤ i))) := opB0 fun _ _ _ _ _ _ _ q => ge_int q
theorem nomark (b : Expr) {op : CmpOp} (h : op ≠ .In := by decide) (h2 : op ≠ .NotIn := by decide) : behindInMarks op b = false := by
  have e1 : (op == CmpOp.In) = false := by cases op <;> first | rfl | exact absurd rfl h
  have e2 : (op == CmpOp.NotIn) = false := by cases op <;> first | rfl | exact absurd rfl h2
  cases b <;> simp [behindInMarks, e1, e2]
theorem pe_cmpR {op : CmpOp} {r : R2} (ho : OpR X (compareOp op) r) (ha : PE X a ta) (hb : PE X b tb) (hm : behindInMarks op b = false) : PE X (.Compare a [op] [b] pos) (tOp r ta tb) := by
  intro pins s σ H Q I h
  exact wpAny_Compare1 (binT ha hb I h fun v u s2 x y H2 I2 rx ry q => ho pins s2 σ H2 x y v u Q I2 rx ry q) hm
def tTest (t : TE) : TT := fun σ H Q => t σ H fun x H' => BlAt x H' Q
theorem pt_cmpR {op : CmpOp} {r : R2} (ho : OpR X (compareOp op) r) (ha : PE X a ta) (hb : PE X b tb) (hm : behindInMarks op b = false) : PT X (.Compare a [op] [b] pos) (tTest (tOp r ta tb)) := by
  intro pins s σ H Q I h
  refine wpAny_isTrue_Compare1 (thn (ha pins s σ H _ I h) fun v s1 ⟨x, H1, I1, r1, q1⟩ => thn (hb pins s1 σ H1 _ I1 q1) fun u s2 ⟨y, H2, I2, r2, q2⟩ =>
    thn (ho pins s2 σ H2 x y v u _ I2 r1 r2 q2) fun c s3 ⟨z, H3, I3, r3, k, e, q3⟩ => ?_) hm
  subst e
  cases r3
  exact wpAny_truthy_bool ⟨H3, I3, q3⟩
theorem line63 : (sizeLine : Nat) < 2 ^ 63 := by rw [sizeLine_eq]; decide
theorem vals1 {x : V} {us : List Value} (r : Vals [x] us) : ∃ u, us = [u] ∧ RelV x u := by
  cases r with
  | cons r1 r2 => cases r2; exact ⟨_, rfl, r1⟩
end
end L2
namespace L2
open PySem PySem.Spec PyProof.Rows
structure ObjM (h : Heap) (x dx C : Addr) (mA : Str → Option Value) : Prop where
  obj : h.get? x = some (PySem.W.instObj C dx)
  ns : h.Ns1 dx mA
  ne : dx ≠ x
theorem lookIn_ns {h : Heap} {dx : Addr} {mA : Str → Option Value} (n : h.Ns1 dx mA) : ∃ od, h.get? dx = some od ∧ ∀ name, PySem.W.lookIn name od = some (mA name) := by
  obtain ⟨o, es, ep, ho, hd, hk, _, hm⟩ := n
  refine ⟨o, ho, fun name => ?_⟩
  have e := hm name
  unfold nsFind findBy at e
  rw [← Array.find?_toList] at e
  unfold PySem.W.lookIn
  rw [hd]
  dsimp only
  split
  · rename_i y q
    rw [q] at e
    exact congrArg some e
  · rename_i q
    rw [q] at e
    have a : es.toList.any (·.refKey) = false := by
      rw [List.any_eq_false]
      intro y hy
      obtain ⟨z, t, hkey⟩ := hk y (Array.mem_toList_iff.mp hy)
      simp [DictEntry.refKey, hkey]
    have a' : ¬ es.toList.any (·.refKey) = true := by rw [a]; exact Bool.false_ne_true
    rw [if_neg a']
    exact congrArg some e
theorem ObjM.look {h : Heap} {x dx C : Addr} {mA : Str → Option Value} (I : ObjM h x dx C mA) : ∃ od, PySem.W.InstAt h x (PySem.W.instObj C dx) C (some od) ∧ ∀ name, PySem.W.lookIn name od = some (mA name) :=
  let ⟨od, ho, hl⟩ := lookIn_ns I.ns
  ⟨od, ⟨I.obj, rfl, rfl, ho⟩, hl⟩
section
variable {prog : Program} {w : World} {A : Around} {E : Value → Shared → Prop} {s : Shared} {K : PySem.W.Frag} {x dx C f : Addr} {mA : Str → Option Value} {name : Str} {v : Value}
theorem get_map {expr : Bool} {Q : Value → Shared → Prop} (X : K.In s.heap) (I : ObjM s.heap x dx C mA) (hg : PySem.W.plainGet K C name = true) (hh : PySem.W.hasDictIn K C = true)
    (ha : PySem.W.findIn K (.ref C) name = some none) (hv : mA name = some v) (hv' : PySem.W.handedIn v = true) (h : Q v { s with toks := s.toks + 1 }) :
    wpAny (model prog w) A (getAttr (.ref x) name expr) Q E s := by
  obtain ⟨od, J, hl⟩ := I.look
  exact PySem.W.get_value X J (PySem.W.plainGet_of hg).1 (PySem.W.findObj_own hh ha rfl (by rw [hl, hv])) hv' h
theorem get_meth {pl : Sem Bool} {Q : Value × List Value → Shared → Prop} (X : K.In s.heap) (I : ObjM s.heap x dx C mA) (hg : PySem.W.plainGet K C name = true)
    (hf : PySem.W.findIn K (.ref C) name = some (some (.ref f))) (ht : PySem.W.isFn K (.ref f) = true) (hv : mA name = none) (h : Q (.ref f, [.ref x]) s) :
    wpAny (model prog w) A (getMethod (.ref x) name pl) Q E s := by
  obtain ⟨od, J, hl⟩ := I.look
  exact PySem.W.method_fn X J (PySem.W.plainGet_of hg).1 (PySem.W.plainGet_of hg).2 hf (beq_iff_eq.mp ht) (by show (PySem.W.lookIn name od).map (·.isSome) = some false; rw [hl, hv]; rfl) h
theorem set_map {ns : List Str} {Q : Unit → Shared → Prop} (X : K.In s.heap) (I : ObjM s.heap x dx C mA)
    (hs : PySem.W.findIn K (.ref C) "__setattr__" = some (some (.builtin "object.__setattr__"))) (hp : PySem.W.plainOver K C = true) (ht : PySem.W.takerIn K C name = some none) (hh : PySem.W.hasDictIn K C = true)
    (hw : PySem.Within mA ns) (hsz : ns.length ≤ sizeLine)
    (h : ∀ h', ObjM h' x dx C (fun y => if y = name then some v else mA y) → Heap.SameBut dx s.heap h' → Q () { s with heap := h', toks := s.toks + 2 }) :
    wpAny (model prog w) A (setAttr (.ref x) name v) Q E s := by
  obtain ⟨od, J, hl⟩ := I.look
  refine PySem.W.set_plain X J hs (PySem.W.osa_open (s := { s with toks := s.toks + 1 }) (r := none) X J hp ht fun b => ?_)
  obtain ⟨cd, hc, hd'⟩ := PySem.W.any_some hh
  have hx : s.heap.get? x = some ⟨.ref C, some dx, .plain, #[]⟩ := I.obj
  refine wpAny_bind (wpAny_pure (wpAny_bind (wpAny_bind (wpAny_loadPart hx (wpAny_bind (PySem.W.Looks.here (s := { s with toks := s.toks + 1 }) (PySem.W.looks_clsIn X hc) ?_))))))
  rw [hd']
  refine wpAny_pure (a := some dx) (wpAny_bind (wpAny_pure (wpAny_bind ?_)))
  refine wpAny_nsSet1 (s := { s with toks := s.toks + 1 }) I.ns fun h' hn2 hs2 => ?_
  obtain ⟨oD, esD, epD, hoD, hdD, hcD⟩ := hn2.count (PySem.Within.cons name v hw)
  refine wpAny_bind (wpAny_lookBehind hoD (by rw [hdD]; exact pastItsLine_dict (Nat.le_trans hcD (by rw [List.length_cons]; omega))) ?_)
  exact wpAny_pure (h _ ⟨(hs2.2 _ (Ne.symm I.ne)).trans I.obj, hn2, I.ne⟩ hs2)
theorem make_map {R : Result → Shared → Prop} {vs : List Value} {kw : List (Str × Value)} (X : K.In s.heap) (hm : PySem.W.makesIn K C = true)
    (hi : PySem.W.findIn K (.ref C) "__init__" = some (some (.ref f))) (hf : PySem.W.typeIn K (.ref f) = some (.type "function"))
    (h : codeAny (model prog w) (A.under (.builtin "type.__call__" ⟨.ref C :: vs, kw⟩)) (.call (.ref f) ⟨.ref (s.heap.objs.size + 1) :: vs, kw⟩) (PySem.W.InitBack (s.heap.objs.size + 1) R)
      { s with heap := (s.heap.push PySem.W.emptyDict).push (PySem.W.instObj C s.heap.objs.size) }) :
    codeAny (model prog w) A (.call (.ref C) ⟨vs, kw⟩) R s := by
  obtain ⟨hh, g, d, t, os⟩ := s
  exact PySem.W.make_core (PySem.W.makes_of X hm) (PySem.W.looks_findIn X hi) (fun self => PySem.W.bind_fn X self hf) (.inl rfl) h
end
def putF (f : Str) (v : V) : List (Str × V) → List (Str × V)
  | [] => [(f, v)]
  | (g, x) :: r => if g = f then (g, v) :: r else (g, x) :: putF f v r
theorem lookup_putF (f g : Str) (v : V) : ∀ fs : List (Str × V), (putF f v fs).lookup g = if g = f then some v else fs.lookup g
  | [] => by
    show List.lookup g [(f, v)] = _
    by_cases h : g = f
    · have hb : (g == f) = true := beq_iff_eq.mpr h
      simp only [List.lookup, hb, if_pos h]
    · have hb : (g == f) = false := beq_eq_false_iff_ne.mpr h
      simp only [List.lookup, hb, if_neg h]
  | (k, x) :: r => by
    have ih := lookup_putF f g v r
    rw [show putF f v ((k, x) :: r) = (if k = f then (k, v) :: r else (k, x) :: putF f v r) from rfl]
    by_cases hk : k = f
    · rw [if_pos hk]
      by_cases h : g = k
      · have hb : (g == k) = true := beq_iff_eq.mpr h
        simp only [List.lookup, hb, if_pos (h.trans hk)]
      · have hb : (g == k) = false := beq_eq_false_iff_ne.mpr h
        simp only [List.lookup, hb, if_neg (fun e : g = f => h (e.trans hk.symm))]
    · rw [if_neg hk]
      by_cases h : g = k
      · have hb : (g == k) = true := beq_iff_eq.mpr h
        simp only [List.lookup, hb, if_neg (fun e : g = f => hk (h.symm.trans e))]
      · have hb : (g == k) = false := beq_eq_false_iff_ne.mpr h
        simp only [List.lookup, hb]
        exact ih
theorem keys_putF (f : Str) (v : V) : ∀ fs : List (Str × V), f ∈ (putF f v fs).map (·.1) ∧ ∀ g, g ∈ fs.map (·.1) → g ∈ (putF f v fs).map (·.1)
  | [] => ⟨by simp [putF], fun g h => by simp at h⟩
  | (k, x) :: r => by
    obtain ⟨i1, i2⟩ := keys_putF f v r
    rw [show putF f v ((k, x) :: r) = (if k = f then (k, v) :: r else (k, x) :: putF f v r) from rfl]
    by_cases hk : k = f
    · rw [if_pos hk]
      subst hk
      exact ⟨by simp, fun g h => by simpa using h⟩
    · rw [if_neg hk]
      refine ⟨?_, fun g h => ?_⟩
      · rw [List.map_cons]
        exact List.mem_cons_of_mem _ i1
      · rw [List.map_cons] at h ⊢
        rcases List.mem_cons.mp h with e | e
        · exact List.mem_cons.mpr (.inl e)
        · exact List.mem_cons_of_mem _ (i2 g e)
theorem length_putF (f : Str) (v : V) : ∀ fs : List (Str × V), (putF f v fs).length ≤ fs.length + 1
  | [] => by simp [putF]
  | (k, x) :: r => by
    have ih := length_putF f v r
    rw [show putF f v ((k, x) :: r) = (if k = f then (k, v) :: r else (k, x) :: putF f v r) from rfl]
    by_cases hk : k = f
    · rw [if_pos hk, List.length_cons, List.length_cons]; omega
    · rw [if_neg hk, List.length_cons, List.length_cons]; omega
theorem RelO.some_of {v : V} {o : Option Value} (r : RelO (some v) o) : ∃ u, o = some u ∧ RelV v u := by
  cases o with
  | none => exact (show False from r).elim
  | some u => exact ⟨u, rfl, r⟩
theorem RelO.none_of {o : Option Value} (r : RelO none o) : o = none := by
  cases o with
  | none => rfl
  | some u => exact (show False from r).elim
theorem handed_of {v : V} {u : Value} (r : RelV v u) : PySem.W.handedIn u = true := by
  cases v with
  | non => cases (show u = Value.none from r); rfl
  | bl b => cases (show u = Value.bool b from r); rfl
  | int i => obtain ⟨t, e⟩ := (show ∃ t, u = Value.int i t from r); cases e; rfl
  | str x => obtain ⟨t, e⟩ := (show ∃ t, u = Value.str x t from r); cases e; rfl
  | byt b => obtain ⟨t, e⟩ := (show ∃ t, u = Value.bytes b t from r); cases e; rfl
  | flt b => obtain ⟨t, e⟩ := (show ∃ t, u = Value.float b t from r); cases e; rfl
  | ref a => cases (show u = Value.ref a from r); rfl
  | ty n => cases (show u = Value.type n from r); rfl
section
variable {P : Program} {w : World} {H H' : Hp} {h h' : Heap} {a C dx : Addr} {fs fs' : List (Str × V)}
theorem ins_get (hok : HOk P w H h) (e : H a = some (.ins C dx fs)) : ∃ mA, ObjM h a dx C mA ∧ (∀ f, RelO (fs.lookup f) (mA f)) ∧ PySem.Within mA (fs.map (·.1)) ∧ fs.length ≤ 1000 ∧ H dx = some (.own a) := by
  obtain ⟨d, z, ne, ob, mA, n, r, q⟩ := (show ObjOk P w H h a (.ins C dx fs) from hok a _ e)
  exact ⟨mA, ⟨ob, n, ne⟩, r, q, z, d⟩
end
structure Cls (K : PySem.W.Frag) (C : Addr) : Prop where
  pg : PySem.W.plainGet K C Str.empty = true
  hd : PySem.W.hasDictIn K C = true
  po : PySem.W.plainOver K C = true
  sa : PySem.W.findIn K (.ref C) "__setattr__" = some (some (.builtin "object.__setattr__"))
theorem Cls.get {K : PySem.W.Frag} {C : Addr} (c : Cls K C) (f : Str) : PySem.W.plainGet K C f = true := c.pg
def NoAttr (K : PySem.W.Frag) (C : Addr) (f : Str) : Prop := PySem.W.findIn K (.ref C) f = some none
theorem NoAttr.taker {K : PySem.W.Frag} {C : Addr} {f : Str} (n : NoAttr K C f) : PySem.W.takerIn K C f = some none := by
  unfold PySem.W.takerIn
  rw [show PySem.W.findIn K (.ref C) f = some none from n]
  rfl
structure Meth (K : PySem.W.Frag) (C : Addr) (m : Str) (f : Addr) : Prop where
  at_ : PySem.W.findIn K (.ref C) m = some (some (.ref f))
  fn : PySem.W.isFn K (.ref f) = true
  kp : PySem.W.keepIn K (.ref f) = true
section
variable {X : Cx} {pins : List (Addr × Obj)} {σ : St} {H : Hp} {s : Shared} {a C dx : Addr} {fs : List (Str × V)} {f : Str} {v : V} {A : Around} {E : Value → Shared → Prop}
theorem getattr_ok {b : Bool} {Q : Value → Shared → Prop} (I : Inv X pins σ H s) (e : H a = some (.ins C dx fs)) (c : Cls X.K C) (n : NoAttr X.K C f) (l : fs.lookup f = some v)
    (h : ∀ u s', Inv X pins σ H s' → RelV v u → Q u s') : wpAny (model X.prog X.w) A (getAttr (.ref a) f b) Q E s := by
  obtain ⟨mA, O, r, _, _, _⟩ := ins_get I.hok e
  obtain ⟨u, hu, ru⟩ := RelO.some_of (v := v) (o := mA f) (by rw [← l]; exact r f)
  exact get_map I.kIn O (c.get f) c.hd n hu (handed_of ru) (h u _ (I.tok _) ru)
theorem getmeth_ok {m : Str} {g : Addr} {pl : Sem Bool} {Q : Value × List Value → Shared → Prop} (I : Inv X pins σ H s) (e : H a = some (.ins C dx fs)) (c : Cls X.K C) (k : Meth X.K C m g) (l : fs.lookup m = none)
    (h : Q (.ref g, [.ref a]) s) : wpAny (model X.prog X.w) A (getMethod (.ref a) m pl) Q E s := by
  obtain ⟨mA, O, r, _, _, _⟩ := ins_get I.hok e
  have hn : mA m = none := RelO.none_of (by rw [← l]; exact r m)
  exact get_meth I.kIn O (c.get m) k.at_ k.fn hn h
theorem setattr_ok {y : V} {u : Value} {Q : Unit → Shared → Prop} (I : Inv X pins σ H s) (e : H a = some (.ins C dx fs)) (c : Cls X.K C) (n : NoAttr X.K C f) (hl : fs.length < 1000) (ry : RelV y u)
    (h : ∀ s', Inv X pins σ (upd H a (.ins C dx (putF f y fs))) s' → Q () s') : wpAny (model X.prog X.w) A (setAttr (.ref a) f u) Q E s := by
  obtain ⟨mA, O, r, wi, _, ho⟩ := ins_get I.hok e
  have hz : (fs.map (·.1)).length ≤ sizeLine := by rw [List.length_map, sizeLine_eq]; omega
  refine set_map I.kIn O c.sa c.po n.taker c.hd wi hz fun h' O' sb => h _ ?_
  have hd : ∃ o, h'.get? dx = some o := let ⟨o, _, _, e', _⟩ := O'.ns; ⟨o, e'⟩
  refine I.write (x := a) (e := dx) (by rw [e]; exact True.intro) (.inr ho) (fun b q hb z => (sb.2 b hb).trans z) hd ?_
  refine ⟨by rw [upd_ne O.ne]; exact ho, ?_, O.ne, O'.obj, _, O'.ns, fun g => ?_, fun g hg => ?_⟩
  · have := length_putF f y fs; omega
  · show RelO ((putF f y fs).lookup g) (if g = f then some u else mA g)
    rw [lookup_putF]
    by_cases q : g = f
    · rw [if_pos q, if_pos q]; exact ry
    · rw [if_neg q, if_neg q]; exact r g
  · by_cases q : g = f
    · rw [q]; exact (keys_putF f y fs).1
    · refine (keys_putF f y fs).2 g (wi g fun z => hg ?_)
      show (if g = f then some u else mA g) = none
      rw [if_neg q]; exact z
theorem Inv.made (I : Inv X pins σ H s) : Inv X pins σ (upd (upd H s.heap.objs.size (.own (s.heap.objs.size + 1))) (s.heap.objs.size + 1) (.ins C s.heap.objs.size []))
    { s with heap := (s.heap.push PySem.W.emptyDict).push (PySem.W.instObj C s.heap.objs.size) } := by
  have e1 : (s.heap.push PySem.W.emptyDict).get? s.heap.objs.size = some PySem.W.emptyDict := Heap.get?_push_size s.heap rfl
  have e2 : ((s.heap.push PySem.W.emptyDict).push (PySem.W.instObj C s.heap.objs.size)).get? (s.heap.objs.size + 1) = some (PySem.W.instObj C s.heap.objs.size) := by
    have := Heap.get?_push_size (s.heap.push PySem.W.emptyDict) (o := PySem.W.instObj C s.heap.objs.size) rfl
    rwa [Heap.size_push] at this
  have e3 : (s.heap.push PySem.W.emptyDict).Ns s.heap.objs.size (fun _ => none) := ⟨PySem.W.emptyDict, #[], _, e1, rfl, (fun e he => absurd he (by simp)), fun _ => rfl⟩
  have I1 := I.laid (a := s.heap.objs.size) (o := .own (s.heap.objs.size + 1)) (h' := s.heap.push PySem.W.emptyDict) (t' := s.toks) (fun b u q => Heap.get?_push_of_some _ q) (Nat.le_refl _) ⟨_, e1⟩
  refine I1.laid (a := s.heap.objs.size + 1) (o := .ins C s.heap.objs.size []) (t' := s.toks) (fun b u q => Heap.get?_push_of_some _ q) (Nat.le_of_eq (Heap.size_push _ _)) ?_
  have ne : s.heap.objs.size ≠ s.heap.objs.size + 1 := Nat.ne_of_lt (Nat.lt_succ_self _)
  refine ⟨by rw [upd_ne ne, upd_same], Nat.zero_le _, ne, e2, fun _ => none, (Heap.Ns1.of_empty e3).at fun o q => Heap.get?_push_of_some _ q, fun _ => True.intro, fun y hy => absurd rfl hy⟩
theorem attr_of {prog : Program} {w : World} {env : Env} {e : Expr} {f : Str} {pos : Pos} {s : Shared} {Q : Value → Shared → Prop} (hb : attributeBase e f env (eval e env) = eval e env)
    (h : wpAny (model prog w) A (eval e env) (fun o s₁ => wpAny (model prog w) A (getAttr o f true) Q E s₁) E s) : wpAny (model prog w) A (eval (.Attribute e f pos) env) Q E s :=
  Attribute_any_ h (by rw [arm_eval_Attribute, hb])
end
inductive FldAt (K : PySem.W.Frag) (f : Str) (x : V) (H : Hp) (Q : VK) : Prop
  | mk (a C dx : Addr) (fs : List (Str × V)) (v : V) (ex : x = .ref a) (h : H a = some (.ins C dx fs)) (c : Cls K C) (n : NoAttr K C f) (l : fs.lookup f = some v) (q : Q v H) : FldAt K f x H Q
def tFld (K : PySem.W.Frag) (ta : TE) (f : Str) : TE := fun σ H Q => ta σ H fun x H1 => FldAt K f x H1 Q
inductive FldPut (K : PySem.W.Frag) (f : Str) (y x : V) (H : Hp) (Q : Hp → Prop) : Prop
  | mk (a C dx : Addr) (fs : List (Str × V)) (ex : x = .ref a) (h : H a = some (.ins C dx fs)) (c : Cls K C) (n : NoAttr K C f) (l : fs.length < 1000) (q : Q (upd H a (.ins C dx (putF f y fs)))) : FldPut K f y x H Q
def sFld (K : PySem.W.Frag) (ta tv : TE) (f : Str) : TS := fun D σ H => tv σ H fun y H1 => ta σ H1 fun x H2 => FldPut K f y x H2 fun H3 => D.nx σ H3
section
variable {X : Cx} {o e value : Expr} {f : Str} {pos pos' tpos : Pos} {ta tv : TE}
theorem pe_fld (he : PE X e ta) (hb : attributeBase e f X.env (eval e X.env) = eval e X.env) : PE X (.Attribute e f pos) (tFld X.K ta f) := by
  intro pins s σ H Q I h
  refine attr_of hb (thn (he pins s σ H _ I h) fun u s1 ⟨x, H1, I1, rx, a, C, dx, fs, v, ex, ea, c, n, l, q⟩ => ?_)
  subst ex
  obtain rfl : u = Value.ref a := rx
  exact getattr_ok I1 ea c n l fun u' s2 I2 ru => ⟨v, H1, I2, ru, q⟩
theorem ps_fld (ha : PE X o ta) (hv : PE X value tv) (hs : swapsWith value (some (.Attribute o f pos')) pos.line X.env = pure false) : PS X (.Assign [.Attribute o f pos'] value pos) (sFld X.K ta tv f) := by
  intro pins s σ H D I h
  refine plainObj_wpAny_Assign_Attribute (thn (hv pins s σ H _ I h) fun u s1 ⟨y, H1, I1, ry, q⟩ => thn (ha pins s1 σ H1 _ I1 q) fun ov s2 ⟨x, H2, I2, rx, a, C, dx, fs, ex, ea, c, n, l, q2⟩ => ?_) hs
  subst ex
  obtain rfl : ov = Value.ref a := rx
  exact setattr_ok I2 ea c n l ry fun s3 I3 => ⟨σ, _, I3, q2⟩
theorem methcall_of {pl : Sem Bool} {m : Str} {apos : Pos} {args : List Expr} {pins : List (Addr × Obj)} {s : Shared} {σ : St} {H : Hp} {Q : Value → Shared → Prop} {te : TE} (he : PE X e te) (I : Inv X pins σ H s)
    (h : te σ H fun x H1 => ∃ a C dx fs g, x = .ref a ∧ H1 a = some (.ins C dx fs) ∧ Cls X.K C ∧ Meth X.K C m g ∧ fs.lookup m = none ∧
      ∀ s1, Inv X pins σ H1 s1 → wpAny (model X.prog X.w) X.A (callWith pos (.ref g) [.ref a] (backTo pos (starEach args X.env)) (backToKw pos (keywordEach [] X.env))) Q X.xe s1)
    (ht : eval (.Call (.Attribute e m apos) args [] pos) X.env = (do
      let ov ← eval e X.env
      standAt apos.atName
      let (f, first) ← holding [ov] (getMethod ov m pl)
      callWith pos f first (backTo pos (starEach args X.env)) (backToKw pos (keywordEach [] X.env)))) :
    wpAny (model X.prog X.w) X.A (eval (.Call (.Attribute e m apos) args [] pos) X.env) Q X.xe s := by
  refine PySem.W.methodCall_KW (pl := pl) (thn (he pins s σ H _ I h) fun u s1 ⟨x, H1, I1, rx, a, C, dx, fs, g, ex, ea, c, k, l, q⟩ => ?_) ht
  subst ex
  obtain rfl : u = Value.ref a := rx
  exact getmeth_ok I1 ea c k l (q s1 I1)
end
section
variable {X : Cx} {pins : List (Addr × Obj)} {σ : St} {H : Hp} {s : Shared} {A : Around} {E : Value → Shared → Prop} {Q : Value → Shared → Prop} {c : Value} {b : Bool}
end
end L2
namespace L2
open PySem PySem.Spec PyProof.Rows
structure Room (k : Nat) (A : Around) : Prop where
  hd : A.handled = none
  dp : A.depth + 3 * k + 5 < recursionLimit
  un : A.units + 16 * k + 200 < cLine
theorem Room.mono {j k : Nat} {A : Around} (r : Room k A) (h : j ≤ k) : Room j A := ⟨r.hd, by have := r.dp; omega, by have := r.un; omega⟩
theorem Room.deeper {k : Nat} {A : Around} (r : Room (k + 1) A) (env : Env) : Room k (A.deeper env) :=
  ⟨r.hd, by have := r.dp; show A.depth + 1 + 3 * k + 5 < _; omega, by have := r.un; show A.units + 3 + 16 * k + 200 < _; omega⟩
theorem make_depth {A : Around} {C : Addr} {us : List Value} {kw : List (Str × Value)} : (A.under (.builtin "type.__call__" ⟨.ref C :: us, kw⟩)).depth = A.depth + 1 := by
  first | rfl | simp [Around.under, Code.weight, Code.isCreation, Code.isGuard, Code.isCaller, Code.frames, Code.isFrame, guardIds]
theorem make_units {A : Around} {C : Addr} {us : List Value} {kw : List (Str × Value)} : (A.under (.builtin "type.__call__" ⟨.ref C :: us, kw⟩)).units = A.units + 1 := by
  first | rfl | simp [Around.under, Code.cUnits, Code.frames, Code.isFrame]
theorem Room.make {k : Nat} {A : Around} (r : Room (k + 1) A) (C : Addr) (us : List Value) (kw : List (Str × Value)) : Room k (A.under (.builtin "type.__call__" ⟨.ref C :: us, kw⟩)) :=
  ⟨r.hd, by have := r.dp; rw [make_depth]; omega, by have := r.un; rw [make_units]; omega⟩
theorem Room.depth {k : Nat} {A : Around} (r : Room k A) : A.depth < recursionLimit := by have := r.dp; omega
theorem Room.units {k : Nat} {A : Around} (r : Room k A) : A.units + 64 < cLine := by have := r.un; omega
def tNil : TA := fun _ H Q => Q [] H
def tCons (ta : TE) (tr : TA) : TA := fun σ H Q => ta σ H fun x H1 => tr σ H1 fun xs H2 => Q (x :: xs) H2
section
variable {X : Cx} {e : Expr} {es : List Expr} {te : TE} {t : TA} {pos : Pos}
theorem pa_nil : PA X [] tNil := fun _ _ _ _ H Q I h => Calls.spliced_nil ⟨[], H, I, .nil, h⟩
theorem pa_cons (ha : PE X e te) (hr : PA X es t) (hs : starEach (e :: es) X.env = (false, eval e X.env) :: starEach es X.env := by rfl) : PA X (e :: es) (tCons te t) := by
  intro pos pins s σ H Q I h
  rw [hs]
  show wpAny _ _ (spliced ((false, eval e X.env) :: backTo pos (starEach es X.env))) _ _ s
  refine Calls.spliced_cons (thn (ha pins s σ H _ I h) fun u s1 ⟨x, H1, I1, r1, q1⟩ => ?_)
  exact thn (hr pos pins s1 σ H1 _ I1 q1) fun us s2 ⟨xs, H2, I2, r2, q2⟩ => ⟨x :: xs, H2, I2, .cons r1 r2, q2⟩
inductive NewAt (o : HO) (n : Nat) (H : Hp) (Q : VK) : Prop
  | mk (l : n ≤ sizeLine) (q : ∀ p, H p = none → Q (.ref p) (upd H p o)) : NewAt o n H Q
def tTup (t : TA) : TE := fun σ H Q => t σ H fun xs H1 => NewAt (.tup xs) xs.length H1 Q
def tLst (t : TA) : TE := fun σ H Q => t σ H fun xs H1 => NewAt (.lst xs) xs.length H1 Q
theorem pe_tup {x1} (h : PA X es t) : PE X (.Tuple es x1 pos) (tTup t) := by
  intro pins s σ H Q I hq
  refine wpAny_Tuple_spliced (thn (h pos pins s σ H _ I hq) fun us s1 ⟨xs, H1, I1, r, z, q⟩ => ⟨by rw [← r.length]; exact z, ?_⟩)
  have hf : H1 s1.heap.objs.size = none := I1.hok.fresh (Nat.le_refl _)
  refine ⟨.ref s1.heap.objs.size, upd H1 s1.heap.objs.size (.tup xs), I1.laid (t' := s1.toks) (fun b u e => Heap.get?_push_of_some _ e) (Nat.le_refl _) ?_, rfl, q _ hf⟩
  exact ⟨z, us, r, ⟨_, Heap.get?_push_size _ rfl, rfl, _, rfl⟩⟩
theorem pe_lst (h : PA X es t) : PE X (.List es pos) (tLst t) := by
  intro pins s σ H Q I hq
  refine wpAny_List_spliced (thn (h pos pins s σ H _ I hq) fun us s1 ⟨xs, H1, I1, r, z, q⟩ => ⟨by rw [← r.length]; exact z, ?_⟩)
  have hf : H1 s1.heap.objs.size = none := I1.hok.fresh (Nat.le_refl _)
  refine ⟨.ref s1.heap.objs.size, upd H1 s1.heap.objs.size (.lst xs), I1.laid (t' := s1.toks) (fun b u e => Heap.get?_push_of_some _ e) (Nat.le_refl _) ?_, rfl, q _ hf⟩
  exact ⟨z, us, 0, r, Heap.get?_push_size _ rfl⟩
end
abbrev Sp := List V → Hp → VK → XK → Prop
abbrev CXT := List Env → Hp → Shared → XK → Value → Shared → Prop
structure Env0 (P : Program) (w : World) (K : PySem.W.Frag) (mg : Str → Option Value) (base : Heap) (A : Around) (outer : List Env) (s : Shared) (H : Hp) : Prop where
  frames : A.frames = some outer
  mod : Mod K mg base
  bs : ∀ b o, base.get? b = some o → s.heap.get? b = some o ∧ H b = none
  bsz : base.objs.size ≤ s.heap.objs.size
  funs : s.heap.FunFrames base outer
  frf : ∀ b ∈ frs outer, H b = none
  hok : HOk P w H s.heap
  bare : AllBare s.gens
def CE (outer : List Env) (P : Program) (w : World) (H : Hp) (s : Shared) (Q : VK) (u : Value) (s' : Shared) : Prop :=
  ∃ v H', s'.os = s.os ∧ AllBare s'.gens ∧ Un (frs outer) [] H H' s.heap s'.heap ∧ HOk P w H' s'.heap ∧ RelV v u ∧ Q v H'
def CR (CX : CXT) (outer : List Env) (P : Program) (w : World) (H : Hp) (s : Shared) (Q : VK) (E : XK) (r : Result) (s' : Shared) : Prop :=
  match r with
  | .ok (.ret u) => CE outer P w H s Q u s'
  | .ok _ => False
  | .error e => CX outer H s E e s'
structure FnOk (P : Program) (w : World) (K : PySem.W.Frag) (mg : Str → Option Value) (base : Heap) (CX : CXT) (k : Nat) (f : Addr) (fd : FuncData) (ps : List Str) (sp : Sp) : Prop where
  len : ∀ vs H Q E, sp vs H Q E → vs.length = ps.length
  run : ∀ (A : Around) (outer : List Env) (s : Shared) (H : Hp) (args : Args) (us : List Value) (vs : List V) (Q : VK) (E : XK), Room k A → Env0 P w K mg base A outer s H → BindsTo s fd args (ps.zip us) → Vals vs us → sp vs H Q E →
    codeAny (model P w) A (.call (.ref f) args) (CR CX outer P w H s Q E) s
theorem Env0.make {P : Program} {w : World} {K : PySem.W.Frag} {mg : Str → Option Value} {base : Heap} {A : Around} {outer : List Env} {s : Shared} {H : Hp} (e : Env0 P w K mg base A outer s H) (C : Addr) (us : List Value) (kw : List (Str × Value)) :
    Env0 P w K mg base (A.under (.builtin "type.__call__" ⟨.ref C :: us, kw⟩)) outer s H := ⟨by first | exact e.frames | (simpa [Around.under, Code.envs, Code.isFrame, pushEnvs] using e.frames), e.mod, e.bs, e.bsz, e.funs, e.frf, e.hok, e.bare⟩
section
variable {X : Cx} {pins : List (Addr × Obj)} {σ : St} {H : Hp} {s s' : Shared}
theorem Inv.env0 (I : Inv X pins σ H s) : Env0 X.prog X.w X.K X.mg X.base X.A X.stack s H :=
  ⟨I.ok.frames, I.ok.mod, I.bs, Nat.le_trans I.ok.bsz I.sz, I.stack, I.stkFree, I.hok, I.bare⟩
theorem Inv.after {Q : VK} {u : Value} (I : Inv X pins σ H s) (h : CE X.stack X.prog X.w H s Q u s') : EP X pins σ Q u s' := by
  obtain ⟨v, H', os, bare, un, hok, r, q⟩ := h
  obtain ⟨hh, g, d, t, os'⟩ := s'
  obtain rfl : os' = s.os := os
  exact ⟨v, H', I.call (h' := hh) (g' := g) (d' := d) (t' := t) (ch := []) un hok bare (fun b z => absurd z (by simp)), r, q⟩
end
def tCall (sp : Sp) (dvs : List V) (E : XK) (t : TA) : TE := fun σ H Q => t σ H fun vs H1 => sp (vs ++ dvs) H1 Q E
inductive MethAt (C : Addr) (m : Str) (x : V) (H : Hp) (Q : Prop) : Prop
  | mk (a dx : Addr) (fs : List (Str × V)) (ex : x = .ref a) (h : H a = some (.ins C dx fs)) (l : fs.lookup m = none) (q : Q) : MethAt C m x H Q
def tMeth (C : Addr) (m : Str) (sp : Sp) (dvs : List V) (E : XK) (ta : TE) (t : TA) : TE := fun σ H Q => ta σ H fun x H1 => MethAt C m x H1 (t σ H1 fun vs H2 => sp (x :: (vs ++ dvs)) H2 Q E)
def tMake (C : Addr) (sp : Sp) (dvs : List V) (E : XK) (t : TA) : TE := fun σ H Q => t σ H fun vs H1 => ∀ x dx, H1 x = none → H1 dx = none → dx ≠ x →
  sp (.ref x :: (vs ++ dvs)) (upd (upd H1 dx (.own x)) x (.ins C dx [])) (fun v H2 => v = .non ∧ Q (.ref x) H2) E
def Binds (K : PySem.W.Frag) (fd : FuncData) (ps : List Str) (ds : List Value) : Prop :=
  ∀ (s : Shared) (us : List Value), K.In s.heap → (us ++ ds).length = ps.length → BindsTo s fd ⟨us, []⟩ (ps.zip (us ++ ds))
theorem Binds.all {K : PySem.W.Frag} {fd : FuncData} {ps : List Str} (h : ∀ us : List Value, us.length = ps.length → bindArgs fd ⟨us, []⟩ = pure (ps.zip us)) : Binds K fd ps [] := fun s us _ hl => by
  rw [List.append_nil] at hl ⊢
  exact .of_eq (h us hl)
def Passes (CX : CXT) (X : Cx) (E : XK) : Prop := ∀ (pins : List (Addr × Obj)) (σ : St) (H : Hp) (s : Shared) (e : Value) (s' : Shared), Inv X pins σ H s → CX X.stack H s E e s' → X.xe e s'
section
variable {X : Cx} {CX : CXT} {k : Nat} {f C : Addr} {fd : FuncData} {ps : List Str} {sp : Sp} {dvs : List V} {ds : List Value} {E : XK} {x m : Str} {p pos apos : Pos} {e o : Expr} {es : List Expr} {ta : TE} {t : TA}
theorem run_fn {pins : List (Addr × Obj)} {σ : St} {H : Hp} {s : Shared} {Q : VK} {us : List Value} {vs : List V} (F : FnOk X.prog X.w X.K X.mg X.base CX k f fd ps sp) (hr : Room k X.A) (hb : Binds X.K fd ps ds) (hd : Vals dvs ds) (hx : Passes CX X E)
    (I : Inv X pins σ H s) (r : Vals vs us) (h : sp (vs ++ dvs) H Q E) : wpAny (model X.prog X.w) X.A (call (.ref f) us) (EP X pins σ Q) X.xe s := by
  have r2 : Vals (vs ++ dvs) (us ++ ds) := r.append hd
  have hl : (us ++ ds).length = ps.length := by rw [← r2.length]; exact F.len _ _ _ _ h
  refine wpAny_call (codeAny_mono (F.run X.A X.stack s H ⟨us, []⟩ (us ++ ds) (vs ++ dvs) Q E hr I.env0 (hb s us I.kIn hl) r2 h) fun r s' hq => ?_)
  cases r with
  | error e => exact hx pins σ H s e s' I hq
  | ok fl =>
    cases fl with
    | ret u => exact I.after hq
    | next => exact False.elim hq
    | brk => exact False.elim hq
    | cont => exact False.elim hq
theorem pe_call (F : FnOk X.prog X.w X.K X.mg X.base CX k f fd ps sp) (hr : Room k X.A) (hg : Gl X x) (hm : X.mg x = some (.ref f)) (hk : PySem.W.keepIn X.K (.ref f) = true) (hb : Binds X.K fd ps ds) (hd : Vals dvs ds) (hx : Passes CX X E)
    (ha : PA X (e :: es) t) (hdb : (x == ("__debug__" : Str)) = false := by decide) (he : starEach (e :: es) X.env = (false, eval e X.env) :: starEach es X.env := by rfl) (hpl : (backTo pos (starEach es X.env)).any (·.1) = false := by rfl) :
    PE X (.Call (.Name x p) (e :: es) [] pos) (tCall sp dvs E t) := by
  intro pins s σ H Q I h
  refine wpAny_Call_Name_kw (ld_glob I hg hm ?_ hdb)
  refine PySem.W.callWith_K (h₀ := X.base) I.ok.mod.kin hk (thn (ha pos pins s σ H _ I h) fun us s1 ⟨vs, H1, I1, r, q⟩ => ⟨I1.kIn, ?_⟩) he hpl
  exact run_fn F hr hb hd hx I1 r q
theorem pe_meth {pl : Sem Bool} (he : PE X o ta) (c : Cls X.K C) (hm : Meth X.K C m f) (F : FnOk X.prog X.w X.K X.mg X.base CX k f fd ps sp) (hr : Room k X.A) (hb : Binds X.K fd ps ds) (hd : Vals dvs ds) (hx : Passes CX X E) (ha : PA X (e :: es) t)
    (hst : starEach (e :: es) X.env = (false, eval e X.env) :: starEach es X.env := by rfl) (hpl : (backTo pos (starEach es X.env)).any (·.1) = false := by rfl)
    (ht : eval (.Call (.Attribute o m apos) (e :: es) [] pos) X.env = (do
      let ov ← eval o X.env
      standAt apos.atName
      let (f, first) ← holding [ov] (getMethod ov m pl)
      callWith pos f first (backTo pos (starEach (e :: es) X.env)) (backToKw pos (keywordEach [] X.env))) := by rfl) :
    PE X (.Call (.Attribute o m apos) (e :: es) [] pos) (tMeth C m sp dvs E ta t) := by
  intro pins s σ H Q I h
  refine PySem.W.methodCall_KW (pl := pl) (thn (he pins s σ H _ I h) fun u s1 ⟨x, H1, I1, rx, a, dx, fs, ex, ea, l, q⟩ => ?_) ht
  subst ex
  obtain rfl : u = Value.ref a := rx
  refine getmeth_ok I1 ea c hm l ?_
  refine PySem.W.callWith_K (first := [.ref a]) (h₀ := X.base) I.ok.mod.kin hm.kp (thn (ha pos pins s1 σ H1 _ I1 q) fun us s2 ⟨vs, H2, I2, r, q2⟩ => ⟨I2.kIn, ?_⟩) hst hpl
  exact run_fn (us := .ref a :: us) (vs := .ref a :: vs) F hr hb hd hx I2 (.cons rfl r) q2
theorem pe_meth0 {pl : Sem Bool} (he : PE X o ta) (c : Cls X.K C) (hm : Meth X.K C m f) (F : FnOk X.prog X.w X.K X.mg X.base CX k f fd ps sp) (hr : Room k X.A) (hb : Binds X.K fd ps ds) (hd : Vals dvs ds) (hx : Passes CX X E)
    (ht : eval (.Call (.Attribute o m apos) [] [] pos) X.env = (do
      let ov ← eval o X.env
      standAt apos.atName
      let (f, first) ← holding [ov] (getMethod ov m pl)
      callWith pos f first (backTo pos (starEach [] X.env)) (backToKw pos (keywordEach [] X.env))) := by rfl) :
    PE X (.Call (.Attribute o m apos) [] [] pos) (tMeth C m sp dvs E ta tNil) := by
  intro pins s σ H Q I h
  refine PySem.W.methodCall_KW (pl := pl) (thn (he pins s σ H _ I h) fun u s1 ⟨x, H1, I1, rx, a, dx, fs, ex, ea, l, q⟩ => ?_) ht
  subst ex
  obtain rfl : u = Value.ref a := rx
  refine getmeth_ok I1 ea c hm l ?_
  exact PySem.W.callWith_K0 (first := [.ref a]) I1.kIn hm.kp (run_fn (us := [.ref a]) (vs := [.ref a]) F hr hb hd hx I1 (.cons rfl .nil) q)
structure Mk (K : PySem.W.Frag) (C f : Addr) : Prop where
  makes : PySem.W.makesIn K C = true
  init : PySem.W.findIn K (.ref C) "__init__" = some (some (.ref f))
  fn : PySem.W.isFn K (.ref f) = true
  kp : PySem.W.keepIn K (.ref C) = true
theorem run_make {pins : List (Addr × Obj)} {σ : St} {H : Hp} {s : Shared} {Q : VK} {us : List Value} {vs : List V} (M : Mk X.K C f) (F : FnOk X.prog X.w X.K X.mg X.base CX k f fd ps sp) (hr : Room (k + 1) X.A) (hb : Binds X.K fd ps ds) (hd : Vals dvs ds)
    (hx : Passes CX X E) (I : Inv X pins σ H s) (r : Vals vs us)
    (h : ∀ x dx, H x = none → H dx = none → dx ≠ x → sp (.ref x :: (vs ++ dvs)) (upd (upd H dx (.own x)) x (.ins C dx [])) (fun v H2 => v = .non ∧ Q (.ref x) H2) E) :
    wpAny (model X.prog X.w) X.A (call (.ref C) us) (EP X pins σ Q) X.xe s := by
  have hq := h (s.heap.objs.size + 1) s.heap.objs.size (I.hok.fresh (Nat.le_succ _)) (I.hok.fresh (Nat.le_refl _)) (Nat.ne_of_lt (Nat.lt_succ_self _))
  have I2 := Inv.made (C := C) I
  have r2 : Vals (V.ref (s.heap.objs.size + 1) :: (vs ++ dvs)) (Value.ref (s.heap.objs.size + 1) :: (us ++ ds)) := .cons rfl (r.append hd)
  have hl : (Value.ref (s.heap.objs.size + 1) :: us ++ ds).length = ps.length := by
    have e := r2.length
    rw [F.len _ _ _ _ hq] at e
    exact e.symm
  refine wpAny_call (make_map (f := f) I.kIn M.makes M.init (beq_iff_eq.mp M.fn) (codeAny_mono (F.run _ X.stack _ _ ⟨Value.ref (s.heap.objs.size + 1) :: us, []⟩ (Value.ref (s.heap.objs.size + 1) :: (us ++ ds)) _ _ E (hr.make C us [])
    (I2.env0.make C us []) (hb _ (Value.ref (s.heap.objs.size + 1) :: us) I2.kIn hl) r2 hq) fun r s' hq' => ?_))
  cases r with
  | error e => exact hx pins σ _ _ e s' I2 hq'
  | ok fl =>
    cases fl with
    | ret u =>
      obtain ⟨v, H', I3, rv, ev, q3⟩ := I2.after hq'
      subst ev
      exact ⟨rv, ⟨V.ref (s.heap.objs.size + 1), H', I3, rfl, q3⟩⟩
    | next => exact False.elim hq'
    | brk => exact False.elim hq'
    | cont => exact False.elim hq'
theorem pe_make (M : Mk X.K C f) (F : FnOk X.prog X.w X.K X.mg X.base CX k f fd ps sp) (hr : Room (k + 1) X.A) (hg : Gl X x) (hm : X.mg x = some (.ref C)) (hb : Binds X.K fd ps ds) (hd : Vals dvs ds) (hx : Passes CX X E)
    (ha : PA X (e :: es) t) (hdb : (x == ("__debug__" : Str)) = false := by decide) (he : starEach (e :: es) X.env = (false, eval e X.env) :: starEach es X.env := by rfl) (hpl : (backTo pos (starEach es X.env)).any (·.1) = false := by rfl) :
    PE X (.Call (.Name x p) (e :: es) [] pos) (tMake C sp dvs E t) := by
  intro pins s σ H Q I h
  refine wpAny_Call_Name_kw (ld_glob I hg hm ?_ hdb)
  refine PySem.W.callWith_K (h₀ := X.base) I.ok.mod.kin M.kp (thn (ha pos pins s σ H _ I h) fun us s1 ⟨vs, H1, I1, r, q⟩ => ⟨I1.kIn, ?_⟩) he hpl
  exact run_make M F hr hb hd hx I1 r q
theorem pe_make0 (M : Mk X.K C f) (F : FnOk X.prog X.w X.K X.mg X.base CX k f fd ps sp) (hr : Room (k + 1) X.A) (hg : Gl X x) (hm : X.mg x = some (.ref C)) (hb : Binds X.K fd ps ds) (hd : Vals dvs ds) (hx : Passes CX X E)
    (hdb : (x == ("__debug__" : Str)) = false := by decide) : PE X (.Call (.Name x p) [] [] pos) (tMake C sp dvs E tNil) := by
  intro pins s σ H Q I h
  refine wpAny_Call_Name_kw (ld_glob I hg hm ?_ hdb)
  exact PySem.W.callWith_K0 I.kIn M.kp (run_make (us := []) M F hr hb hd hx I .nil h)
end
section
variable {X : Cx} {CX : CXT} {k : Nat} {f C : Addr} {fd : FuncData} {ps ks : List Str} {sp : Sp} {E : XK} {x m : Str} {p pos apos kpos : Pos} {e o : Expr} {es : List Expr} {kws : List Keyword} {te ta : TE} {t tk : TA} {nm : Option Str}
variable {g : List Value → List Value → List Value} {gV : List V → List V → List V}
end
structure FnScope (N P : List Str) (sc : Scope) : Prop where
  kind : sc.kind = .function
  co : sc.isCoroutine = false
  gen : sc.isGenerator = false
  nd : N.Nodup
  pre : N.take P.length = P
  par : ∀ x ∈ P, sc.names.lookup x = some .local ∨ sc.names.lookup x = some .cell
  nofree : ∀ y ∈ sc.names, y.2 ≠ .free
theorem bindL_out {kindOf : Str → Option NameKind} {x : Str} : ∀ {binds : List (Str × Value)} {m : Str → Option Value}, (∀ v, (x, v) ∉ binds) → bindL kindOf binds m x = m x
  | [], _, _ => rfl
  | (n, v) :: r, m, h => by
    unfold bindL
    rw [bindL_out fun w hw => h w (List.mem_cons_of_mem _ hw)]
    split
    · have : x ≠ n := by rintro rfl; exact h v List.mem_cons_self
      simp [this]
    · rfl
theorem bindC_out {kindOf : Str → Option NameKind} {x : Str} : ∀ {binds : List (Str × Value)} {m : Str → Option Value}, (∀ v, (x, v) ∉ binds) → bindC kindOf binds m x = m x
  | [], _, _ => rfl
  | (n, v) :: r, m, h => by
    unfold bindC
    rw [bindC_out fun w hw => h w (List.mem_cons_of_mem _ hw)]
    split
    · rfl
    · have : x ≠ n := by rintro rfl; exact h v List.mem_cons_self
      simp [this]
theorem bindL_get {kindOf : Str → Option NameKind} {x : Str} {v : Value} : ∀ {P : List Str} {vs : List Value} {i : Nat} {m : Str → Option Value}, P.Nodup → P[i]? = some x → vs[i]? = some v → kindOf x = some .local →
    bindL kindOf (P.zip vs) m x = some v
  | [], _, _, _, _, h, _, _ => by simp at h
  | _ :: _, [], _, _, _, _, h, _ => by simp at h
  | p :: P, w :: vs, 0, m, nd, h1, h2, hk => by
    simp at h1 h2; subst h1; subst h2
    show bindL kindOf ((p, w) :: P.zip vs) m p = _
    unfold bindL
    rw [bindL_out fun v hv => (List.nodup_cons.mp nd).1 (List.of_mem_zip hv).1, if_pos hk]
    simp
  | p :: P, w :: vs, i + 1, m, nd, h1, h2, hk => by
    show bindL kindOf ((p, w) :: P.zip vs) m x = _
    unfold bindL
    exact bindL_get (i := i) (List.nodup_cons.mp nd).2 (by simpa using h1) (by simpa using h2) hk
theorem bindC_get {kindOf : Str → Option NameKind} {x : Str} {v : Value} : ∀ {P : List Str} {vs : List Value} {i : Nat} {m : Str → Option Value}, P.Nodup → P[i]? = some x → vs[i]? = some v → kindOf x ≠ some .local →
    bindC kindOf (P.zip vs) m x = some v
  | [], _, _, _, _, h, _, _ => by simp at h
  | _ :: _, [], _, _, _, _, h, _ => by simp at h
  | p :: P, w :: vs, 0, m, nd, h1, h2, hk => by
    simp at h1 h2; subst h1; subst h2
    show bindC kindOf ((p, w) :: P.zip vs) m p = _
    unfold bindC
    rw [bindC_out fun v hv => (List.nodup_cons.mp nd).1 (List.of_mem_zip hv).1, if_neg hk]
    simp
  | p :: P, w :: vs, i + 1, m, nd, h1, h2, hk => by
    show bindC kindOf ((p, w) :: P.zip vs) m x = _
    unfold bindC
    exact bindC_get (i := i) (List.nodup_cons.mp nd).2 (by simpa using h1) (by simpa using h2) hk
def start (N : List Str) (vs : List V) : St := vs.map some ++ List.replicate (N.length - vs.length) none
def cxOf (CX : CXT) (P : Program) (w : World) (K : PySem.W.Frag) (mg : Str → Option Value) (base : Heap) (N : List Str) (qual : Str) (scope : Scope) (f : Addr) (cd : Value) (A : Around) (outer : List Env) (s : Shared) (H : Hp) (E : XK) : Cx where
  prog := P
  w := w
  K := K
  mg := mg
  base := base
  A := A.deeper (envOfC qual scope s.heap.objs.size f cd)
  N := N
  s_0 := s
  H_0 := H
  env := envOfC qual scope s.heap.objs.size f cd
  outer := outer
  stack := envOfC qual scope s.heap.objs.size f cd :: outer
  ex := []
  calm := true
  fn := fun _ => true
  pn := []
  xe := fun e s' => wpAny (model P w) (A.deeper (envOfC qual scope s.heap.objs.size f cd)) (leaving (envOfC qual scope s.heap.objs.size f cd) e) (fun _ s'' => CX outer H s E e s'') (fun e' s'' => CX outer H s E e' s'') s'
theorem cell_has {sc : Scope} {n : Nat} {x : Str} (h : sc.names.lookup x = some .cell) : ∃ c, (cellsFrom n sc.names []).lookup x = some c := by
  have q := PySem.W.cellsFrom_some sc.names n [] (.inl h)
  exact Option.isSome_iff_exists.mp q
theorem inv_start {CX : CXT} {P : Program} {w : World} {K : PySem.W.Frag} {mg : Str → Option Value} {base : Heap} {N ps : List Str} {qual : Str} {scope : Scope} {f : Addr} {cd : Value} {A : Around} {outer : List Env} {s s1 : Shared} {H : Hp} {E : XK} {us : List Value} {vs : List V}
    (S : FnScope N ps scope) (hd : A.handled = none) (e0 : Env0 P w K mg base A outer s H) (hl : vs.length = ps.length) (r : Vals vs us)
    (x : InCallC s s.heap.objs.size (bindL (envOfC qual scope s.heap.objs.size f cd).kindOf (ps.zip us) fun _ => none) (cellsFrom (s.heap.objs.size + 1) scope.names []) (bindC (envOfC qual scope s.heap.objs.size f cd).kindOf (ps.zip us) fun _ => none) s1) :
    Inv (cxOf CX P w K mg base N qual scope f cd A outer s H E) [] (start N vs) H s1 := by
  have hpl : ps.length ≤ N.length := by have := congrArg List.length S.pre; rw [List.length_take] at this; omega
  obtain ⟨h1, tk, rfl, hk⟩ := x.done
  have noA : ∀ b : Addr, b ∉ (cxOf CX P w K mg base N qual scope f cd A outer s H E).ex := fun b z => absurd (show b ∈ ([] : List Addr) from z) (by simp)
  refine ⟨⟨e0.mod, S.kind, rfl, rfl, Nat.le_refl _, fun y z c h1 h2 => ?_, fun y hy => ?_, fun y c _ h => ?_, fun _ => hd, Around.frames_deeper e0.frames, .inr ⟨rfl, rfl⟩, fun b z => absurd z (noA b), e0.bs, e0.bsz, fun b _ _ => noA b, fun b z => absurd z (noA b), e0.funs, e0.frf⟩,
    rfl, e0.bare, Un.kept hk, ⟨_, x.toInCall.ns, fun i y v h1 h2 h3 => ?_⟩, fun y c h => ⟨_, x.cell y c h⟩, e0.hok.fresh (Nat.le_refl _), fun y c h => ?_, fun p hp => absurd (show p ∈ ([] : List (Addr × Obj)) from hp) (by simp), e0.hok.kept hk, ?_⟩
  · exact name_of_addr x.apart (PySem.mem_of_lookup h1) (PySem.mem_of_lookup h2)
  · have hy : scope.names.lookup y = some .cell ∨ scope.names.lookup y = some .free := hy
    rcases hy with hy | hy
    · exact cell_has hy
    · exact absurd rfl (S.nofree _ (PySem.mem_of_lookup hy))
  · exact Nat.le_of_lt (x.above y c (PySem.mem_of_lookup h))
  · have hi : i < vs.length := by
      unfold start at h2
      by_cases hi : i < vs.length
      · exact hi
      · rw [List.getElem?_append_right (by simpa using hi)] at h2
        rw [List.getElem?_replicate] at h2
        split at h2 <;> cases h2
    have ha : vs[i]? = some v := by
      unfold start at h2
      rw [List.getElem?_append_left (by simpa using hi), List.getElem?_map] at h2
      cases e : vs[i]? with
      | none => rw [e] at h2; cases h2
      | some a => rw [e] at h2; cases h2; rfl
    obtain ⟨u, hu, rv⟩ := r.get ha
    have hp : ps[i]? = some y := by
      rw [← S.pre, List.getElem?_take_of_lt (by omega)]; exact h1
    have ndP : ps.Nodup := by rw [← S.pre]; exact S.nd.sublist (List.take_sublist _ _)
    refine ⟨u, rv, ?_⟩
    rcases S.par y (List.mem_of_getElem? hp) with k | k
    · exact .inl ⟨k, bindL_get ndP hp hu k⟩
    · obtain ⟨c, e⟩ := cell_has (n := s.heap.objs.size + 1) k
      refine .inr ⟨.inl k, c, e, ?_⟩
      have q := x.cell y c e
      rw [bindC_get ndP hp hu (by show scope.names.lookup y ≠ _; rw [k]; decide)] at q
      exact q
  · exact e0.hok.fresh (Nat.le_of_lt (x.above y c (PySem.mem_of_lookup h)))
  · unfold start
    show _ = N.length
    rw [List.length_append, List.length_map, List.length_replicate]
    omega
theorem fn_of {CX : CXT} {P : Program} {w : World} {K : PySem.W.Frag} {mg : Str → Option Value} {base : Heap} {k : Nat} {f : Addr} {name qual : Str} {params : Arguments} {body : List Stmt} {scope : Scope} {dV kV doc pm cdv ct oc : Value} {an od : Option Addr}
    {osl : Array (Option Value)} {N ps : List Str} {sp : Sp} (lk : K.lookup f = some ⟨oc, od, .func (PySem.W.fnOf name qual params body scope dV kV doc pm an cdv ct), osl⟩) (hcd : PySem.W.codeIn K cdv qual = true) (S : FnScope N ps scope)
    (len : ∀ vs H Q E, sp vs H Q E → vs.length = ps.length)
    (hbody : ∀ (A : Around) (outer : List Env) (s : Shared) (H : Hp) (vs : List V) (Q : VK) (E : XK), Room k (A.deeper (envOfC qual scope s.heap.objs.size f cdv)) → sp vs H Q E →
      ∃ t, PSs (cxOf CX P w K mg base N qual scope f cdv A outer s H E) body t ∧ t { nx := fun _ H' => Q .non H', rt := Q } (start N vs) H) :
    FnOk P w K mg base CX (k + 1) f (PySem.W.fnOf name qual params body scope dV kV doc pm an cdv ct) ps sp := by
  refine ⟨len, fun A outer s H args us vs Q E hr e0 hb r hsp => ?_⟩
  have hl := len _ _ _ _ hsp
  have KX : K.In s.heap := e0.mod.kin.keeps fun b o e => (e0.bs b o e).1
  have lim : s.heap.NoLimit := e0.mod.nolimit.keeps fun b o e => (e0.bs b o e).1
  have hkind : ∀ y ∈ ps.zip us, scope.names.lookup y.1 = some .local ∨ (scope.names.lookup y.1 = some .cell ∧ ((cellsFrom (s.heap.objs.size + 1) scope.names []).lookup y.1).isSome = true) := fun ⟨n, v⟩ hy => by
    rcases S.par n (List.of_mem_zip hy).1 with q | q
    · exact .inl q
    · exact .inr ⟨q, PySem.W.cellsFrom_some _ _ _ (.inl q)⟩
  refine codeAny_call_function hr.depth (KX _ _ lk) rfl S.co S.gen rfl (PySem.W.codeRec_of KX hcd) (hb _ _ _ _ ?_)
  refine wpAny_newFunctionEnv_cells S.kind hkind fun env he s1 x => ?_
  subst he
  refine ⟨lim.keeps x.toInCall.keep, codeAny_func ?_⟩
  obtain ⟨t, ht, hq⟩ := hbody A outer s H vs Q E (hr.deeper _) hsp
  have I : Inv (cxOf CX P w K mg base N qual scope f cdv A outer s H E) [] (start N vs) H s1 := inv_start S hr.hd e0 hl r x
  refine wpAny_mono (ht [] s1 (start N vs) H _ I hq) (fun fl s' hs => ?_) fun e s' hs => hs
  have fin : ∀ {σ' : St} {H' : Hp} {v : V} {u : Value}, Inv (cxOf CX P w K mg base N qual scope f cdv A outer s H E) [] σ' H' s' → RelV v u → Q v H' → CE outer P w H s Q u s' :=
    fun {σ' H' v u} J rv q => ⟨v, H', J.os, J.bare, J.base, J.hok, rv, q⟩
  cases fl with
  | ret u =>
    obtain ⟨v, σ', H', J, rv, q⟩ := hs
    exact fin J rv q
  | next =>
    obtain ⟨σ', H', J, q⟩ := hs
    exact fin (v := V.non) (u := Value.none) J rfl q
  | brk =>
    obtain ⟨_, _, _, q⟩ := hs
    exact False.elim q
  | cont =>
    obtain ⟨_, _, _, q⟩ := hs
    exact False.elim q
end L2
namespace L2
open PySem PySem.Spec PyProof.Rows
section
variable {X : Cx} {x : Str} {p pos : Pos} {e : Expr} {es : List Expr} {t : TA} {id T : String} {r : List V → Hp → VK → Prop}
def tCB (r : List V → Hp → VK → Prop) (t : TA) : TE := fun σ H Q => t σ H fun vs H1 => r vs H1 Q
theorem pe_callB (hc : CallR X (.builtin id) r) (hg : Gl X x) (hm : X.mg x = none) (hv : bootBuiltins x = some (.builtin id)) (ha : PA X (e :: es) t) (hn : x ≠ "__name__" := by decide) (hdb : (x == ("__debug__" : Str)) = false := by decide)
    (he : starEach (e :: es) X.env = (false, eval e X.env) :: starEach es X.env := by rfl) (hpl : (backTo pos (starEach es X.env)).any (·.1) = false := by rfl) : PE X (.Call (.Name x p) (e :: es) [] pos) (tCB r t) := by
  intro pins s σ H Q I h
  refine wpAny_Call_Name_kw (ld_blt I hg hm hv ?_ hn hdb)
  exact PyProof.Rows.callWith_builtin1 (thn (ha pos pins s σ H _ I h) fun us s1 ⟨vs, H1, I1, r1, q1⟩ => hc pins s1 σ H1 vs us Q I1 r1 q1) he hpl
end
end L2
namespace HT
open PySem PyProof.Rows
section
open PySem.SeqAt
open PySem.AutoSeq1 (wpAny_loadPart')
open PySem.MeetsSeq PySem.MeetsSeq2 PySem.MeetsSeq3
end
section
variable {prog : Program} {w : World} {A : Around} {E : Value → Shared → Prop} {s : Shared}
def sIx (n d : Nat) : Option Int → Nat
  | none => d
  | some v => if v < 0 then (v + (n : Int)).toNat else min v.toNat n
theorem sIx_none (n d : Nat) : sIx n d none = d := rfl
theorem sIx_nat (n d k : Nat) : sIx n d (some (k : Int)) = min k n := by
  show (if (k : Int) < 0 then ((k : Int) + (n : Int)).toNat else min (k : Int).toNat n) = min k n
  rw [if_neg (by omega), Int.toNat_natCast]
end
end HT
namespace L2
open PySem PySem.Spec PyProof.Rows
abbrev TO := St → Hp → (Option Int → Hp → Prop) → Prop
def PO (X : Cx) (e : Option Expr) (t : TO) : Prop :=
  ∀ (pins : List (Addr × Obj)) (s : Shared) (σ : St) (H : Hp) (Q : Option Int → Hp → Prop), Inv X pins σ H s → t σ H Q →
    wpAny (model X.prog X.w) X.A (evalPart e X.env) (fun u s' => ∃ o H', Inv X pins σ H' s' ∧ IsPart u o ∧ Q o H') X.xe s
def tNoPart : TO := fun _ H Q => Q none H
def tPart (t : TE) : TO := fun σ H Q => t σ H fun x H1 => ∃ i, x = .int i ∧ Q (some i) H1
section
variable {X : Cx} {e : Expr} {te : TE} {lo hi : Option Expr} {tl th : TO} {pos p2 : Pos}
theorem po_none : PO X none tNoPart := by
  intro pins s σ H Q I h
  rw [evalPart_none]
  exact wpAny_pure ⟨none, H, I, .none, h⟩
theorem po_some (h : PE X e te) : PO X (some e) (tPart te) := by
  intro pins s σ H Q I hw
  rw [evalPart_some]
  refine thn (h pins s σ H _ I hw) fun u s1 ⟨x, H1, I1, r1, q1⟩ => ?_
  obtain ⟨i, rfl, q⟩ := q1
  obtain ⟨t, rfl⟩ := r1
  exact ⟨some i, H1, I1, .int i t, q⟩
def SlR (X : Cx) (r : V → Option Int → Option Int → Hp → VK → Prop) : Prop :=
  ∀ (pins : List (Addr × Obj)) (s : Shared) (σ : St) (H : Hp) (x : V) (v vl vu : Value) (lo hi : Option Int) (sl : Addr) (Q : VK), Inv X pins σ H s → RelV x v → s.heap.IsSliceOf sl vl vu .none → IsPart vl lo → IsPart vu hi → r x lo hi H Q →
    ∃ T id, typeLookup (.type T) "__getitem__" = pure (some (.builtin id)) ∧ s.TypeIs v T ∧ wpAny (model X.prog X.w) X.A (getItem v (.ref sl)) (EP X pins σ Q) X.xe s
def tSl (r : V → Option Int → Option Int → Hp → VK → Prop) (te : TE) (tl th : TO) : TE := fun σ H Q => te σ H fun x H1 => tl σ H1 fun l H2 => th σ H2 fun u H3 => r x l u H3 Q
theorem pe_slice {r : V → Option Int → Option Int → Hp → VK → Prop} (hr : SlR X r) (he : PE X e te) (hl : PO X lo tl) (hu : PO X hi th) : PE X (.Subscript e (.Slice lo hi none p2) pos) (tSl r te tl th) := by
  intro pins s σ H Q I h
  refine Subscript_ (thn (he pins s σ H _ I h) fun v s1 ⟨x, H1, I1, r1, q1⟩ => ?_)
  refine wpAny_Slice (thn (hl pins s1 σ H1 _ I1 q1) fun vl s2 ⟨l, H2, I2, pl, q2⟩ => thn (hu pins s2 σ H2 _ I2 q2) fun vu s3 ⟨u, H3, I3, pu, q3⟩ => ?_)
  rw [evalPart_none]
  refine wpAny_pure ?_
  have I4 : Inv X pins σ H3 { s3 with heap := s3.heap.push { cls := .type "slice", data := .fields #[vl, vu, .none] } } := I3.kept (t' := s3.toks) fun b ob q => Heap.get?_push_of_some _ q
  obtain ⟨T, id, hT, ht, hg⟩ := hr pins { s3 with heap := s3.heap.push { cls := .type "slice", data := .fields #[vl, vu, .none] } } σ H3 x v vl vu l u s3.heap.objs.size Q I4 r1 (Heap.IsSliceOf.new ..) pl pu q3
  show wpAny (model X.prog X.w) X.A (subscriptTail e (.Slice lo hi none p2) v (.ref s3.heap.objs.size)) (EP X pins σ Q) X.xe { s3 with heap := s3.heap.push { cls := .type "slice", data := .fields #[vl, vu, .none] } }
  exact tail_any (ops := [.ref s3.heap.objs.size, v]) ht hT hg (by with_unfolding_all rfl)
def cutV (xs : List V) (lo hi : Option Int) : List V := (xs.drop (HT.sIx xs.length 0 lo)).take (HT.sIx xs.length xs.length hi - HT.sIx xs.length 0 lo)
theorem cutV_length (xs : List V) (lo hi : Option Int) : (cutV xs lo hi).length ≤ xs.length := by
  unfold cutV
  rw [List.length_take, List.length_drop]
  omega
end
end L2
namespace L2
open PySem PySem.Spec PyProof.Rows
def ixN (n : Nat) (i : Int) : Option Nat := if 0 ≤ i then (if i < n then some i.toNat else none) else if -(n : Int) ≤ i then some (i + n).toNat else none
def atI {α : Type} (xs : List α) (i : Int) : Option α := (ixN xs.length i).bind fun j => xs[j]?
theorem ixN_seq {n : Nat} {i : Int} {j : Nat} (h : ixN n i = some j) : seqIndex? i n = some j ∧ j < n ∧ -(n : Int) ≤ i ∧ i < n := by
  unfold ixN at h
  by_cases h0 : 0 ≤ i
  · rw [if_pos h0] at h
    by_cases h1 : i < n
    · rw [if_pos h1] at h
      have e : i.toNat = j := Option.some.inj h
      exact ⟨by rw [seqIndex_of h0 h1, e], by omega, by omega, h1⟩
    · rw [if_neg h1] at h; cases h
  · rw [if_neg h0] at h
    by_cases h1 : -(n : Int) ≤ i
    · rw [if_pos h1] at h
      have e : (i + n).toNat = j := Option.some.inj h
      exact ⟨by rw [seqIndex_neg (by omega) h1, e], by omega, h1, by omega⟩
    · rw [if_neg h1] at h; cases h
theorem atI_get {α : Type} {xs : List α} {i : Int} {v : α} (h : atI xs i = some v) : ∃ j, seqIndex? i xs.length = some j ∧ xs[j]? = some v ∧ j < xs.length ∧ -(xs.length : Int) ≤ i ∧ i < xs.length := by
  unfold atI at h
  cases e : ixN xs.length i with
  | none => rw [e] at h; cases h
  | some j =>
    rw [e] at h
    obtain ⟨h1, h2, h3, h4⟩ := ixN_seq e
    exact ⟨j, h1, h, h2, h3, h4⟩
theorem atI_nat {α : Type} {xs : List α} {j : Nat} {v : α} (h : xs[j]? = some v) : atI xs (j : Int) = some v := by
  have hj : j < xs.length := (List.getElem?_eq_some_iff.mp h).1
  have e : ixN xs.length (j : Int) = some j := by
    unfold ixN
    rw [if_pos (by omega), if_pos (by omega)]; simp
  unfold atI; rw [e]; exact h
def PlainIx (b : Expr) : Prop := ∀ o i, subscripted b false o i = operate [o, i] (getItem o i)
def IxR (X : Cx) (r : R2) : Prop :=
  ∀ (value slice : Expr) (pins : List (Addr × Obj)) (s : Shared) (σ : St) (H : Hp) (x y : V) (v u : Value) (Q : VK), Inv X pins σ H s → RelV x v → RelV y u → r x y H Q →
    subscripted slice false v u = operate [v, u] (getItem v u) → wpAny (model X.prog X.w) X.A (subscriptTail value slice v u) (EP X pins σ Q) X.xe s
def MtR (X : Cx) (id : String) (r : V → List V → Hp → VK → Prop) : Prop :=
  ∀ (pins : List (Addr × Obj)) (s : Shared) (σ : St) (H : Hp) (x : V) (xs : List V) (v : Value) (us : List Value) (Q : VK), Inv X pins σ H s → RelV x v → Vals xs us → r x xs H Q →
    wpAny (model X.prog X.w) X.A (call (.builtin id) (v :: us)) (EP X pins σ Q) X.xe s
section
variable {X : Cx} {a b : Expr} {ta tb : TE} {pos : Pos}
theorem pe_ix {r : R2} (hr : IxR X r) (ha : PE X a ta) (hb : PE X b tb) (hs : PlainIx b) : PE X (.Subscript a b pos) (tOp r ta tb) := by
  intro pins s σ H Q I h
  exact Subscript_ (binT ha hb I h fun v u s2 x y H2 I2 rx ry q => hr a b pins s2 σ H2 x y v u Q I2 rx ry q (hs _ _))
inductive rIxL (K : PySem.W.Frag) (x y : V) (H : Hp) (Q : VK) : Prop
  | mk (p : Addr) (xs : List V) (i : Int) (v : V) (ex : x = .ref p) (ey : y = .int i) (s : SqL K H p xs) (a : atI xs i = some v) (q : Q v H) : rIxL K x y H Q
theorem ix_list : IxR X (rIxL X.K) := by
  intro value slice pins s σ H x y v u Q I rx ry h hs
  obtain ⟨p, xs, i, z, rfl, rfl, hq, he, q⟩ := h
  cases rx
  obtain ⟨t, rfl⟩ := ry
  obtain ⟨its, r, pl, hz⟩ := I.list hq
  obtain ⟨j, h1, h2, h3, h4, h5⟩ := atI_get he
  obtain ⟨w, ew, rw'⟩ := r.get h2
  have hl := r.length
  have hn := line63
  have fin : EP X pins σ Q w s := ⟨z, H, I, rw', q⟩
  by_cases h0 : 0 ≤ i
  · have hj : i.toNat = j := by
      rw [seqIndex_of h0 h5] at h1
      exact Option.some.inj h1
    exact item_listR pl.isList h0 (by omega) (by rw [hj]; simpa using ew) fin hs
  · have hj : (i + (its.toArray.size : Int)).toNat = j := by
      rw [seqIndex_neg (by omega) h4] at h1
      rw [List.size_toArray, ← hl]
      exact Option.some.inj h1
    exact subscriptTail_builtinR (x := w) pl.isList.typeIs slot_list_getitem.lookup
      (wpAny_getItem_list_neg (Q := fun r s' => r = w ∧ EP X pins σ Q r s') pl.isList (by omega) (by rw [List.size_toArray] <;> omega) (by omega) (by rw [hj]; simpa using ew) ⟨rfl, fin⟩) hs
theorem mapSeq_set (its : List Value) (n j : Nat) (u : Value) : Obj.mapSeq (·.setIfInBounds j u) { cls := .type "list", data := .seq its.toArray n } = { cls := .type "list", data := .seq (its.set j u).toArray n } := by
  simp [Obj.mapSeq]
theorem Inv.lst {pins : List (Addr × Obj)} {σ : St} {H : Hp} {s : Shared} {p : Addr} {xs : List V} (I : Inv X pins σ H s) (h : H p = some (.lst xs)) :
    ∃ (its : List Value) (n : Nat), Vals xs its ∧ s.heap.get? p = some { cls := .type "list", data := .seq its.toArray n } ∧ xs.length ≤ sizeLine := by
  obtain ⟨z, its, n, r, e⟩ := I.hok p _ h
  exact ⟨its, n, r, e, z⟩
theorem Inv.lstUpd {pins : List (Addr × Obj)} {σ : St} {H : Hp} {s : Shared} {p : Addr} {xs ys : List V} {its its' : List Value} {n n' : Nat} {f : Obj → Obj} (I : Inv X pins σ H s) (h : H p = some (.lst xs))
    (ho : s.heap.get? p = some { cls := .type "list", data := .seq its.toArray n }) (hf : f { cls := .type "list", data := .seq its.toArray n } = { cls := .type "list", data := .seq its'.toArray n' }) (r : Vals ys its') (hz : ys.length ≤ sizeLine) (t : Nat) :
    Inv X pins σ (upd H p (.lst ys)) { s with heap := s.heap.update p f, toks := t } := by
  have e : (s.heap.update p f).get? p = some { cls := .type "list", data := .seq its'.toArray n' } := by
    rw [Heap.get?_update_self f ho (by rw [hf] <;> rfl), hf]
  refine I.write (x := p) (e := p) (by rw [h]; trivial) (.inl rfl) (fun b u hb q => (Heap.get?_update_other _ _ (Ne.symm hb)).trans q) ⟨_, e⟩ ?_
  exact ⟨hz, its', n', r, e⟩
def rSetL : V → V → V → Hp → (Hp → Prop) → Prop := fun o i v H Q => ∃ p xs k j, o = .ref p ∧ i = .int k ∧ H p = some (.lst xs) ∧ ixN xs.length k = some j ∧ Q (upd H p (.lst (xs.set j v)))
theorem set_list : PSet X rSetL := by
  intro pins s σ H o i v ov iv u Q I ro ri rv h
  obtain ⟨p, xs, k, j, rfl, rfl, hp, hj, q⟩ := h
  cases ro
  obtain ⟨t, rfl⟩ := ri
  obtain ⟨its, n, r, ho, hz⟩ := I.lst hp
  obtain ⟨h1, h2, h3, h4⟩ := ixN_seq hj
  have hl := r.length
  have hn := line63
  have I' : Inv X pins σ (upd H p (.lst (xs.set j v))) { s with heap := s.heap.update p (Obj.mapSeq (·.setIfInBounds j u)) } :=
    I.lstUpd hp ho (mapSeq_set its n j u) (r.set rv j) (by rw [List.length_set]; exact hz) s.toks
  by_cases h0 : 0 ≤ k
  · have hk : k.toNat = j := by
      rw [seqIndex_of h0 h4] at h1
      exact Option.some.inj h1
    exact PySem.W.ki_setAt ho h0 (by omega) (by rw [List.size_toArray, ← hl]; exact h4) (by rw [hk]; exact ⟨_, I', q⟩)
  · have hk : (k + (its.toArray.size : Int)).toNat = j := by
      rw [seqIndex_neg (by omega) h3] at h1
      rw [List.size_toArray, ← hl]
      exact Option.some.inj h1
    exact PySem.W.ki_setBack ho (by omega) (by rw [List.size_toArray, ← hl]; exact h3) (by omega) (by rw [hk]; exact ⟨_, I', q⟩)
theorem slice_bounds (lo hi : Option Int) (n : Nat) : (sliceBounds lo hi none n).1 = ((HT.sIx n 0 lo : Nat) : Int) ∧ (sliceBounds lo hi none n).2.1 = ((HT.sIx n n hi : Nat) : Int) ∧ (sliceBounds lo hi none n).2.2 = 1 := by
  refine ⟨?_, ?_, rfl⟩
  · cases lo with
    | none => simp [sliceBounds, HT.sIx]
    | some i =>
      simp only [sliceBounds, HT.sIx, Option.getD_none, show (1 : Int) > 0 by decide, if_true]
      by_cases h : i < 0
      · simp only [h, if_true] <;> omega
      · simp only [h, if_false] <;> omega
  · cases hi with
    | none => simp [sliceBounds, HT.sIx]
    | some i =>
      simp only [sliceBounds, HT.sIx, Option.getD_none, show (1 : Int) > 0 by decide, if_true]
      by_cases h : i < 0
      · simp only [h, if_true] <;> omega
      · simp only [h, if_false] <;> omega
theorem slicePick_cut (its : List Value) (lo hi : Option Int) : slicePick its.toArray lo hi none = ((its.drop (HT.sIx its.length 0 lo)).take (HT.sIx its.length its.length hi - HT.sIx its.length 0 lo)).toArray := by
  obtain ⟨h1, h2, h3⟩ := slice_bounds lo hi its.toArray.size
  unfold slicePick
  rw [h1, h2, h3]
  simp only [sliceRange_one, pick_run, List.size_toArray] <;> rfl
def rSlL (K : PySem.W.Frag) : V → Option Int → Option Int → Hp → VK → Prop := fun x lo hi H Q => ∃ a xs, x = .ref a ∧ SqL K H a xs ∧ ∀ p, H p = none → Q (.ref p) (upd H p (.lst (cutV xs lo hi)))
theorem sl_list : SlR X (rSlL X.K) := by
  intro pins s σ H x v vl vu lo hi sl Q I rx hs pl pu h
  obtain ⟨a, xs, rfl, hx, q⟩ := h
  cases rx
  obtain ⟨its, r, ht, hz⟩ := I.list hx
  have hlen := r.length
  refine ⟨"list", _, slot_list_getitem.lookup, ht.isList.typeIs, ?_⟩
  refine wpAny_getItem_list_slice ht.isList hs pl pu .none (by simp) ?_ (by rw [List.size_toArray] <;> omega)
  rw [slicePick_cut, ← hlen]
  refine ⟨.ref s.heap.objs.size, _, I.laid (t' := s.toks) (o := .lst (cutV xs lo hi)) (fun b ob q => Heap.get?_push_of_some _ q) (Nat.le_refl _) ?_, rfl, q _ (I.hok.fresh (Nat.le_refl _))⟩
  exact ⟨Nat.le_trans (cutV_length xs lo hi) hz, _, 0, (r.drop (HT.sIx xs.length 0 lo)).take (HT.sIx xs.length xs.length hi - HT.sIx xs.length 0 lo), Heap.get?_push_size _ rfl⟩
def flatV : V → Bool
  | .non => true
  | .bl _ => true
  | .int _ => true
  | .str _ => true
  | _ => false
def eqV : V → V → Bool
  | .non, .non => true
  | .bl a, .bl b => a == b
  | .bl a, .int b => (if a then 1 else 0) == b
  | .int a, .bl b => a == (if b then 1 else 0)
  | .int a, .int b => a == b
  | .str a, .str b => a == b
  | _, _ => false
theorem eqAt_V {A : Around} {s : Shared} {y x : V} {u v : Value} (ry : RelV y u) (rx : RelV x v) (fy : flatV y = true) (fx : flatV x = true) : SeqAt.EqAt A s u v (eqV y x) := by
  cases y with
  | non =>
    cases ry
    cases x with
    | non => cases rx; exact SeqAt.EqAt.same _
    | bl b => cases rx; exact SeqAt.EqAt.none_bool b
    | int b => obtain ⟨t, rfl⟩ := rx; exact SeqAt.EqAt.none_int b t
    | str b => obtain ⟨t, rfl⟩ := rx; exact SeqAt.EqAt.none_str b t
    | _ => exact absurd (show false = true from fx) Bool.false_ne_true
  | bl a =>
    cases ry
    cases x with
    | non => cases rx; exact SeqAt.EqAt.bool_none a
    | bl b => cases rx; exact SeqAt.EqAt.bool_bool a b
    | int b => obtain ⟨t, rfl⟩ := rx; exact SeqAt.EqAt.bool_int a b t
    | str b => obtain ⟨t, rfl⟩ := rx; exact SeqAt.EqAt.bool_str a b t
    | _ => exact absurd (show false = true from fx) Bool.false_ne_true
  | int a =>
    obtain ⟨t', rfl⟩ := ry
    cases x with
    | non => cases rx; exact SeqAt.EqAt.int_none a t'
    | bl b => cases rx; exact SeqAt.EqAt.int_bool a t' b
    | int b => obtain ⟨t, rfl⟩ := rx; exact SeqAt.EqAt.int_int a t' b t
    | str b => obtain ⟨t, rfl⟩ := rx; exact SeqAt.EqAt.int_str a t' b t
    | _ => exact absurd (show false = true from fx) Bool.false_ne_true
  | str a =>
    obtain ⟨t', rfl⟩ := ry
    cases x with
    | non => cases rx; exact SeqAt.EqAt.str_none a t'
    | bl b => cases rx; exact SeqAt.EqAt.str_bool a t' b
    | int b => obtain ⟨t, rfl⟩ := rx; exact SeqAt.EqAt.str_int a t' b t
    | str b => obtain ⟨t, rfl⟩ := rx; exact SeqAt.EqAt.str_str a t' b t
    | _ => exact absurd (show false = true from fx) Bool.false_ne_true
  | _ => exact absurd (show false = true from fy) Bool.false_ne_true
def eqU (x : V) (u : Value) : Bool := match u with
  | .none => eqV .non x
  | .bool b => eqV (.bl b) x
  | .int i _ => eqV (.int i) x
  | .str z _ => eqV (.str z) x
  | _ => false
theorem eqU_of {x y : V} {u : Value} (r : RelV y u) (f : flatV y = true) : eqU x u = eqV y x := by
  cases y with
  | non => cases r; rfl
  | bl b => cases r; rfl
  | int i => obtain ⟨t, rfl⟩ := r; rfl
  | str z => obtain ⟨t, rfl⟩ := r; rfl
  | _ => exact absurd (show false = true from f) Bool.false_ne_true
theorem any_eqU {x : V} : ∀ {xs : List V} {us : List Value}, Vals xs us → xs.all flatV = true → us.any (eqU x) = xs.any fun y => eqV y x
  | _, _, .nil, _ => rfl
  | y :: xs, u :: us, .cons r t, f => by
    rw [List.all_cons, Bool.and_eq_true] at f
    rw [List.any_cons, List.any_cons, eqU_of r f.1, any_eqU t f.2]
theorem mem_eqAt {A : Around} {s : Shared} {x : V} {v : Value} (rx : RelV x v) (fx : flatV x = true) : ∀ {xs : List V} {us : List Value}, Vals xs us → xs.all flatV = true → ∀ u ∈ us, SeqAt.EqAt A s u v (eqU x u)
  | _, _, .nil, _ => fun u hu => by cases hu
  | y :: xs, u :: us, .cons r t, f => fun u' hu => by
    rw [List.all_cons, Bool.and_eq_true] at f
    rcases List.mem_cons.mp hu with rfl | hu
    · rw [eqU_of r f.1]; exact eqAt_V r rx f.1 fx
    · exact mem_eqAt rx fx t f.2 u' hu
def inV (x : V) (xs : List V) : Bool := xs.any fun y => eqV y x
def rIn (K : PySem.W.Frag) (neg : Bool) : R2 := fun x y H Q => ∃ p xs, y = .ref p ∧ (SqL K H p xs ∨ SqT K H p xs) ∧ flatV x = true ∧ xs.all flatV = true ∧ Q (.bl (if neg then !inV x xs else inV x xs)) H
theorem op_in_seq : OpR X (compareOp .In) (rIn X.K false) := by
  intro pins s σ H x y v u Q I rx ry h
  obtain ⟨p, xs, rfl, hq, fx, fs, q⟩ := h
  cases ry
  rcases hq with hq | hq
  · obtain ⟨its, r, pl, hz⟩ := I.list hq
    refine SeqAt.in_listAt (eqU x) pl.isList (fun w hw => mem_eqAt rx fx r fs w (by simpa using hw)) ⟨.bl _, H, I, rfl, ?_⟩
    rw [show its.toArray.any (eqU x) = its.any (eqU x) by simp, any_eqU r fs]
    exact q
  · obtain ⟨its, r, pl, hz⟩ := I.tuple hq
    refine SeqAt.in_tupleAt (eqU x) pl (fun w hw => mem_eqAt rx fx r fs w (by simpa using hw)) ⟨.bl _, H, I, rfl, ?_⟩
    rw [show its.toArray.any (eqU x) = its.any (eqU x) by simp, any_eqU r fs]
    exact q
inductive rLenS (K : PySem.W.Frag) (xs : List V) (H : Hp) (Q : VK) : Prop
  | mk (p : Addr) (ys : List V) (ex : xs = [.ref p]) (h : SqL K H p ys ∨ SqT K H p ys) (q : Q (.int ys.length) H) : rLenS K xs H Q
theorem call_len_seq : CallR X (.builtin "len") (rLenS X.K) := by
  intro pins s σ H xs us Q I r h
  obtain ⟨p, ys, rfl, hq, q⟩ := h
  obtain ⟨u, rfl, rx⟩ := vals1 r
  cases rx
  have hn := line63
  rcases hq with hq | hq
  · obtain ⟨its, r', pl, hz⟩ := I.list hq
    have hlen := r'.length
    exact Calls.call_len_list pl.isList (by simp only [List.size_toArray] <;> omega) ⟨.int ys.length, H, I.tok _, ⟨s.toks + 1, by rw [List.size_toArray, hlen]⟩, q⟩
  · obtain ⟨its, r', pl, hz⟩ := I.tuple hq
    have hlen := r'.length
    exact len_tuple pl (by simp only [List.size_toArray] <;> omega) ⟨.int ys.length, H, I.tok _, ⟨s.toks + 1, by rw [List.size_toArray, hlen]⟩, q⟩
def tyV (K : PySem.W.Frag) (T : String) (x : V) (H : Hp) : Prop := match x with
  | .ref p => (T = "list" ∧ ∃ xs, SqL K H p xs) ∨ (T = "dict" ∧ ∃ kvs, H p = some (.dK kvs))
  | _ => False
theorem tyV_is {pins : List (Addr × Obj)} {σ : St} {H : Hp} {s : Shared} {T : String} {x : V} {v : Value} (I : Inv X pins σ H s) (r : RelV x v) (ty : tyV X.K T x H) :
    s.TypeIs v T ∧ ∀ a, v = .ref a → ∃ ob, s.heap.get? a = some ob ∧ ob.dict = none := by
  cases x with
  | ref p =>
    cases r
    rcases ty with ⟨rfl, xs, hq⟩ | ⟨rfl, kvs, hk⟩
    · obtain ⟨its, _, pl, _⟩ := I.list hq
      refine ⟨pl.isList.typeIs, fun a e => ?_⟩
      cases e
      obtain ⟨o, n, e, c, hd, _⟩ := pl
      exact ⟨o, e, hd⟩
    · obtain ⟨_, _, _, _, o, _, _, e, ex, _⟩ := I.hok p _ hk
      refine ⟨⟨o, e, ex.1⟩, fun a e2 => ?_⟩
      cases e2
      exact ⟨o, e, ex.2.1⟩
  | _ => exact False.elim ty
def tBM0 (K : PySem.W.Frag) (T : String) (r : V → List V → Hp → VK → Prop) (to : TE) : TE := fun σ H Q => to σ H fun x H1 => tyV K T x H1 ∧ r x [] H1 Q
def tBM (K : PySem.W.Frag) (T : String) (r : V → List V → Hp → VK → Prop) (to : TE) (t : TA) : TE := fun σ H Q => to σ H fun x H1 => tyV K T x H1 ∧ t σ H1 fun xs H2 => r x xs H2 Q
variable {o e : Expr} {es : List Expr} {to : TE} {t : TA} {name : Str} {apos cpos : Pos} {T id : String} {r : V → List V → Hp → VK → Prop}
theorem pe_bm0 (pa : PlainAttrs T) (slot : Slot T name id) (hty : typeOf (.builtin id) = pure (.type "method_descriptor")) (hm : MtR X id r) (ho : PE X o to)
    (hbase : attributeBase o name X.env (eval o X.env) = eval o X.env := by rfl) (hline : (apos.endLine == cpos.line) = true := by rfl) : PE X (.Call (.Attribute o name apos) [] [] cpos) (tBM0 X.K T r to) := by
  intro pins s σ H Q I h
  refine wpAny_Call_method0_late hbase hline (thn (ho pins s σ H _ I h) fun v s1 ⟨x, H1, I1, r1, ty, q1⟩ => ?_)
  obtain ⟨h1, h2⟩ := tyV_is I1 r1 ty
  exact ⟨T, id, pa, slot, hty, h1, h2, Calls.callWith_builtin rfl (PySem.evalArgs_none (hm pins s1 σ H1 x [] v [] Q I1 r1 .nil q1))⟩
theorem pe_bm (pa : PlainAttrs T) (slot : Slot T name id) (hty : typeOf (.builtin id) = pure (.type "method_descriptor")) (hm : MtR X id r) (ho : PE X o to) (ha : PA X (e :: es) t)
    (hbase : attributeBase o name X.env (eval o X.env) = eval o X.env := by rfl)
    (hfew : ((backTo cpos (starEach (e :: es) X.env)).all (fun x => !x.1) && (backToKw cpos (keywordEach [] X.env)).all (fun x => x.1.isSome)
      && decide ((e :: es).length + ([] : List Keyword).length + (if ([] : List Keyword).isEmpty then 0 else 1) < 30)) = true := by rfl)
    (hline : (apos.endLine == cpos.line) = true := by rfl) (hs : starEach (e :: es) X.env = (false, eval e X.env) :: starEach es X.env := by rfl) (hplain : (backTo cpos (starEach es X.env)).any (·.1) = false := by rfl) :
    PE X (.Call (.Attribute o name apos) (e :: es) [] cpos) (tBM X.K T r to t) := by
  intro pins s σ H Q I h
  refine wpAny_Call_method_late hbase hfew hline rfl (thn (ho pins s σ H _ I h) fun v s1 ⟨x, H1, I1, r1, ty, q1⟩ => ?_)
  obtain ⟨h1, h2⟩ := tyV_is I1 r1 ty
  refine ⟨T, id, pa, slot, hty, h1, h2, ?_⟩
  have hA := ha cpos pins s1 σ H1 _ I1 q1
  rw [hs] at hA ⊢
  refine Calls.callWith_builtin (by show (false || (backTo cpos (starEach es X.env)).any (·.1)) = false; rw [hplain] <;> rfl) (Calls.evalArgs_plain ?_)
  exact thn hA fun us s2 ⟨vs, H2, I2, r2, q2⟩ => hm pins s2 σ H2 x vs v us Q I2 r1 r2 q2
end
end L2
namespace L2
open PySem PySem.Spec PyProof.Rows
def MtM (X : Cx) (id : String) (r : V → List V → Hp → VK → Prop) : Prop :=
  ∀ (pins : List (Addr × Obj)) (s : Shared) (σ : St) (H : Hp) (x : V) (xs : List V) (v : Value) (us : List Value) (Q : VK), Inv X pins σ H s → RelV x v → Vals xs us → r x xs H Q →
    wpAny (model X.prog X.w) X.A (call (.builtin id) (v :: us)) (EP X pins σ Q) X.xe s
theorem Vals.one : ∀ {x : V} {us : List Value}, Vals [x] us → ∃ u, us = [u] ∧ RelV x u
  | _, _, .cons r .nil => ⟨_, rfl, r⟩
section
variable {X : Cx} {pins : List (Addr × Obj)} {σ : St} {H : Hp} {s : Shared} {l b : Addr} {xs ys zs : List V}
theorem Inv.lset {its its' : List Value} {n : Nat} {f : Array Value → Array Value} {t' : Nat} (I : Inv X pins σ H s) (hH : H l = some (.lst xs))
    (e : s.heap.get? l = some { cls := .type "list", data := .seq its.toArray n }) (hf : f its.toArray = its'.toArray) (hv : Vals ys its') (hz : ys.length ≤ sizeLine) :
    Inv X pins σ (upd H l (.lst ys)) { s with heap := s.heap.update l (Obj.mapSeq f), toks := t' } := by
  have q := PySem.IsL.update e f
  rw [hf] at q
  refine I.write (x := l) (e := l) (by rw [hH]; exact trivial) (.inl rfl) (fun b' u hb hu => (Heap.get?_update_other s.heap (Obj.mapSeq f) (Ne.symm hb)).trans hu) ⟨_, q⟩ ?_
  exact ⟨hz, its', _, hv, q⟩
theorem Inv.lnew {its : List Value} {t' : Nat} (I : Inv X pins σ H s) (hv : Vals ys its) (hz : ys.length ≤ sizeLine) :
    Inv X pins σ (upd H s.heap.objs.size (.lst ys)) { s with heap := s.heap.push { cls := .type "list", data := .seq its.toArray }, toks := t' } :=
  I.laid (fun _ _ q => Heap.get?_push_of_some _ q) (Nat.le_refl _) ⟨hz, its, 0, hv, Heap.get?_push_size _ rfl⟩
theorem Inv.fresh (I : Inv X pins σ H s) : H s.heap.objs.size = none := I.hok.fresh (Nat.le_refl _)
theorem Inv.lstM (I : Inv X pins σ H s) (hH : H l = some (.lst xs)) : xs.length ≤ sizeLine ∧ ∃ (its : List Value) (n : Nat), Vals xs its ∧ xs.length = its.length ∧ s.heap.get? l = some { cls := .type "list", data := .seq its.toArray n } := by
  obtain ⟨z, its, n, r, e⟩ := I.hok l _ hH
  exact ⟨z, its, n, r, r.length, e⟩
theorem notLongL {n : Nat} (h : n ≤ sizeLine) : Builtin.List.listTooLong n = false := by
  unfold Builtin.List.listTooLong
  exact decide_eq_false (by omega)
end
section
variable {X : Cx}
inductive rAppend (x : V) (vs : List V) (H : Hp) (Q : VK) : Prop
  | mk (l : Addr) (xs : List V) (y : V) (ex : x = .ref l) (ey : vs = [y]) (h : H l = some (.lst xs)) (z : xs.length < sizeLine) (q : Q .non (upd H l (.lst (xs ++ [y])))) : rAppend x vs H Q
theorem mt_append : MtM X "list.append" rAppend := by
  intro pins s σ H x vs v us Q I rx rv h
  obtain ⟨l, xs, y, rfl, rfl, hH, hz, q⟩ := h
  cases rx
  obtain ⟨u, rfl, ru⟩ := rv.one
  obtain ⟨z, its, n, r, hl, e⟩ := I.lstM hH
  refine call_meets F.slot_list_append ⟨_, e, rfl⟩ F.entry_list_append (F.args_list_append_2 _ _) (PySem.list_append l its.toArray n u (by rw [List.size_toArray]; omega)) ⟨e, ?_⟩
  refine ⟨.non, _, I.lset (its' := its ++ [u]) hH e (by simp) (r.append (.cons ru .nil)) ?_, rfl, q⟩
  rw [List.length_append, List.length_singleton]
  omega
inductive rExtend (x : V) (vs : List V) (H : Hp) (Q : VK) : Prop
  | mk (l b : Addr) (xs zs : List V) (ex : x = .ref l) (ey : vs = [.ref b]) (h : H l = some (.lst xs)) (h2 : H b = some (.lst zs)) (z : xs.length + zs.length ≤ sizeLine) (q : Q .non (upd H l (.lst (xs ++ zs)))) : rExtend x vs H Q
theorem mt_extend : MtM X "list.extend" rExtend := by
  intro pins s σ H x vs v us Q I rx rv h
  obtain ⟨l, b, xs, zs, rfl, rfl, hH, hB, hz, q⟩ := h
  cases rx
  obtain ⟨u, rfl, ru⟩ := rv.one
  cases ru
  obtain ⟨z, its, n, r, hl, e⟩ := I.lstM hH
  obtain ⟨z2, its2, n2, r2, hl2, e2⟩ := I.lstM hB
  have hsz : its.toArray.size + its2.toArray.size ≤ sizeLine := by rw [List.size_toArray, List.size_toArray]; omega
  have hlong : ¬ (!its.toArray.isEmpty && Builtin.List.listTooLong (its.toArray.size + its2.toArray.size)) = true := by
    rw [notLongL hsz, Bool.and_false]
    exact Bool.false_ne_true
  refine call_meets F.slot_list_extend ⟨_, e, rfl⟩ F.entry_list_extend (F.args_list_extend_2 _ _)
    (AutoSeq1.list_extend_list_list_0 l its.toArray n b its2.toArray n2 hlong (by rw [List.size_toArray]; omega) (by omega)) ⟨e, e2, ?_⟩
  refine ⟨.non, _, I.lset (its' := its ++ its2) hH e (by simp) (r.append r2) ?_, rfl, q⟩
  rw [List.length_append]
  omega
inductive rCat (x y : V) (H : Hp) (Q : VK) : Prop
  | mk (l b : Addr) (xs zs : List V) (ex : x = .ref l) (ey : y = .ref b) (h : H l = some (.lst xs)) (h2 : H b = some (.lst zs)) (z : xs.length + zs.length ≤ sizeLine) (q : ∀ p, H p = none → Q (.ref p) (upd H p (.lst (xs ++ zs)))) : rCat x y H Q
theorem op_cat : OpR X (binaryOp .Add) rCat := by
  intro pins s σ H x y v u Q I rx ry h
  obtain ⟨l, b, xs, zs, rfl, rfl, hH, hB, hz, q⟩ := h
  cases rx
  cases ry
  obtain ⟨z, its, n, r, hl, e⟩ := I.lstM hH
  obtain ⟨z2, its2, n2, r2, hl2, e2⟩ := I.lstM hB
  refine PySem.P.add_list e e2 ?_ (by rw [List.size_toArray, List.size_toArray]; omega)
  have ea : its.toArray ++ its2.toArray = (its ++ its2).toArray := by simp
  rw [ea]
  exact ⟨.ref _, _, I.lnew (t' := s.toks) (r.append r2) (by rw [List.length_append]; omega), rfl, q _ I.fresh⟩
end
section
variable {prog : Program} {w : World} {A : Around} {E : Value → Shared → Prop} {s : Shared}
end
section
variable {X : Cx}
end
end L2
namespace L2
open PySem PySem.Spec PyProof.Rows
theorem Vals.ref1 {a : Addr} {us : List Value} (r : Vals [V.ref a] us) : us = [Value.ref a] := by
  cases r with
  | cons r t =>
    cases t
    cases r
    rfl
section
variable {prog : Program} {w : World} {A : Around} {E : Value → Shared → Prop} {s : Shared} {l : Addr} {its : List Value} {ns : List Int} {Q : Value → Shared → Prop}
end
section
variable {X : Cx}
end
section
variable {X : Cx}
end
section
variable {X : Cx}
end
section
variable {X : Cx}
end
mutual
inductive Dp (K : PySem.W.Frag) (H : Hp) : V → PyData → Prop
  | non : Dp K H .non .none
  | bl (b : Bool) : Dp K H (.bl b) (.bool b)
  | int (i : Int) : Dp K H (.int i) (.int i)
  | str (x : Str) : Dp K H (.str x) (.str x)
  | lst {a : Addr} {xs : List V} {ds : List PyData} : SqL K H a xs → DpAll K H xs ds → Dp K H (.ref a) (.list ds)
  | tup {a : Addr} {xs : List V} {ds : List PyData} : SqT K H a xs → DpAll K H xs ds → Dp K H (.ref a) (.tuple ds)
inductive DpAll (K : PySem.W.Frag) (H : Hp) : List V → List PyData → Prop
  | nil : DpAll K H [] []
  | cons {v : V} {vs : List V} {d : PyData} {ds : List PyData} : Dp K H v d → DpAll K H vs ds → DpAll K H (v :: vs) (d :: ds)
end
section
variable {X : Cx} {pins : List (Addr × Obj)} {σ : St} {H : Hp} {s : Shared}
mutual
theorem Dp.reads (I : Inv X pins σ H s) : ∀ (d : PyData) (v : V) (u : Value), Dp X.K H v d → RelV v u → ∃ as, Reads s.heap u d as
  | .none, _, _, h, r => by
    cases h
    cases r
    exact ⟨_, Reads.none⟩
  | .bool b, _, _, h, r => by
    cases h
    cases r
    exact ⟨_, Reads.bool b⟩
  | .int i, _, _, h, r => by
    cases h
    obtain ⟨t, rfl⟩ := r
    exact ⟨_, Reads.int i t⟩
  | .str x, _, _, h, r => by
    cases h
    obtain ⟨t, rfl⟩ := r
    exact ⟨_, Reads.str x t⟩
  | .list ds, _, _, h, r => by
    cases h with
    | lst hs ha =>
      cases r
      obtain ⟨its, rv, ⟨o, n, ho, hc, _, hd⟩, _⟩ := I.list hs
      obtain ⟨as, hr⟩ := Dp.readsAll I ds _ its ha rv
      exact ⟨_, Reads.list ho hc hd hr⟩
  | .tuple ds, _, _, h, r => by
    cases h with
    | tup hs ha =>
      cases r
      obtain ⟨its, rv, ⟨o, ho, hc, n, hd⟩, _⟩ := I.tuple hs
      obtain ⟨as, hr⟩ := Dp.readsAll I ds _ its ha rv
      exact ⟨_, Reads.tuple ho hc hd hr⟩
  | .dict _, _, _, h, _ => by cases h
theorem Dp.readsAll (I : Inv X pins σ H s) : ∀ (ds : List PyData) (vs : List V) (us : List Value), DpAll X.K H vs ds → Vals vs us → ∃ as, ReadsAll s.heap us ds as
  | [], _, _, h, r => by
    cases h
    cases r
    exact ⟨_, ReadsAll.nil⟩
  | d :: ds, _, _, h, r => by
    cases h with
    | cons h1 h2 =>
      cases r with
      | cons r1 r2 =>
        obtain ⟨as, q1⟩ := Dp.reads I d _ _ h1 r1
        obtain ⟨bs, q2⟩ := Dp.readsAll I ds _ _ h2 r2
        exact ⟨_, ReadsAll.cons q1 q2⟩
end
end
section
variable {X : Cx}
def rNeD (K : PySem.W.Frag) : R2 := fun x y H Q => ∃ d e, Dp K H x d ∧ Dp K H y e ∧ SeqAt.shaped d = true ∧ SeqAt.shaped e = true ∧ Q (.bl (!PyData.eqv d e)) H
theorem op_neD (hu : X.A.units + 64 < cLine) : OpR X (compareOp .NotEq) (rNeD X.K) := by
  intro pins s σ H x y v u Q I rx ry h
  obtain ⟨d, e, hd, he, sd, se, q⟩ := h
  obtain ⟨as, r1⟩ := Dp.reads I d x v hd rx
  obtain ⟨bs, r2⟩ := Dp.reads I e y u he ry
  exact SeqAt.compareNe_shaped r1 r2 sd se hu ⟨.bl _, H, I, rfl, q⟩
end
end L2
namespace L2
open PySem PySem.Spec PyProof.Rows
abbrev CellAt (h : Heap) (c : Addr) (v : Option Value) : Prop := h.IsCell c v
def relS (scope sc : Scope) : Scope :=
  { scope with names := scope.names.map fun (n, k) => if (k == .free && sc.kind == .function && sc.names.lookup n == some .cell) then (n, .cell) else (n, k) }
def cloFrom (cells : List (Str × Addr)) : List (Str × NameKind) → List (Str × Addr) → List (Str × Addr)
  | [], acc => acc
  | (n, k) :: r, acc => if k == .free then cloFrom cells r ((n, (cells.lookup n).getD 0) :: acc) else cloFrom cells r acc
theorem closure_loop (env : Env) (f : Str × NameKind → List (Str × Addr) → Sem (ForInStep (List (Str × Addr))))
    (hf : ∀ n k c, f (n, k) c = if k == .free then (do let a ← cellOf env n; pure (.yield ((n, a) :: c))) else pure (.yield c)) :
    ∀ (names : List (Str × NameKind)) (acc : List (Str × Addr)), (∀ y ∈ names, y.2 = .free → ∃ c, env.cells.lookup y.1 = some c) → forIn names acc f = pure (cloFrom env.cells names acc)
  | [], acc, _ => by rw [List.forIn_nil]; rfl
  | (n, k) :: r, acc, h => by
    rw [List.forIn_cons, hf]
    have ih := fun acc => closure_loop env f hf r acc fun y hy => h y (List.mem_cons_of_mem _ hy)
    unfold cloFrom
    by_cases hk : (k == NameKind.free) = true
    · rw [if_pos hk, if_pos hk]
      obtain ⟨c, hc⟩ := h (n, k) List.mem_cons_self (by simpa using hk)
      have e : cellOf env n = pure c := by unfold cellOf; rw [hc]
      rw [e]
      have e2 : (env.cells.lookup n).getD 0 = c := by rw [hc]; rfl
      rw [e2]
      exact ih _
    · rw [if_neg hk, if_neg hk]
      exact ih _
theorem closure_ok {scope : Scope} {env : Env} (h : ∀ y ∈ scope.names, y.2 = .free → ∃ c, env.cells.lookup y.1 = some c) : closureFor scope env = pure (cloFrom env.cells scope.names []) := by
  simp only [closureFor]
  rw [closure_loop env _ (fun n k c => rfl) scope.names [] h]
  rfl
theorem mem_lookup {α : Type} : ∀ {l : List (Str × α)} {n : Str} {c : α}, (n, c) ∈ l → ∃ c', l.lookup n = some c'
  | (k, v) :: r, n, c, h => by
    rw [List.lookup_cons]
    cases hb : n == k with
    | true => exact ⟨_, rfl⟩
    | false =>
      rcases List.mem_cons.mp h with e | h
      · cases e; simp at hb
      · exact mem_lookup h
theorem cloFrom_mem {cells : List (Str × Addr)} : ∀ {names : List (Str × NameKind)} {acc : List (Str × Addr)} {n : Str} {c : Addr}, (n, c) ∈ cloFrom cells names acc → (n, c) ∈ acc ∨ ((n, .free) ∈ names ∧ c = (cells.lookup n).getD 0)
  | [], _, _, _, h => .inl h
  | (m, k) :: r, acc, n, c, h => by
    unfold cloFrom at h
    split at h
    · rename_i hk
      have hk : k = .free := by simpa using hk
      rcases cloFrom_mem h with h | ⟨h1, h2⟩
      · rcases List.mem_cons.mp h with e | h
        · cases e; exact .inr ⟨hk ▸ List.mem_cons_self, rfl⟩
        · exact .inl h
      · exact .inr ⟨List.mem_cons_of_mem _ h1, h2⟩
    · rcases cloFrom_mem h with h | ⟨h1, h2⟩
      · exact .inl h
      · exact .inr ⟨List.mem_cons_of_mem _ h1, h2⟩
theorem cloFrom_acc {cells : List (Str × Addr)} : ∀ {names : List (Str × NameKind)} {acc : List (Str × Addr)} {p : Str × Addr}, p ∈ acc → p ∈ cloFrom cells names acc
  | [], _, _, h => h
  | (m, k) :: r, acc, p, h => by
    unfold cloFrom
    split
    · exact cloFrom_acc (List.mem_cons_of_mem _ h)
    · exact cloFrom_acc h
theorem cloFrom_has {cells : List (Str × Addr)} : ∀ {names : List (Str × NameKind)} {acc : List (Str × Addr)} {n : Str}, (n, .free) ∈ names → (n, (cells.lookup n).getD 0) ∈ cloFrom cells names acc
  | (m, k) :: r, acc, n, h => by
    unfold cloFrom
    rcases List.mem_cons.mp h with e | h
    · cases e
      exact cloFrom_acc List.mem_cons_self
    · split
      · exact cloFrom_has h
      · exact cloFrom_has h
theorem cells_mem : ∀ {names : List (Str × NameKind)} {h : Heap} {acc : List (Str × Addr)} {x : Str} {c : Addr}, (x, c) ∈ cellsFrom h.objs.size names acc →
    (x, c) ∈ acc ∨ ((x, .cell) ∈ names ∧ h.objs.size ≤ c ∧ CellAt (pushCells h names) c none)
  | [], _, _, _, _, h => .inl h
  | (n, k) :: r, h, acc, x, c, hm => by
    unfold cellsFrom at hm
    unfold pushCells
    split at hm
    · rename_i hk
      rw [if_pos hk]
      have hk : k = .cell := by simpa using hk
      rw [← Heap.size_push h { cls := .type "cell", data := .cell none }] at hm
      rcases cells_mem hm with hm | ⟨h1, h2, h3⟩
      · rcases List.mem_cons.mp hm with e | hm
        · cases e
          exact .inr ⟨hk ▸ List.mem_cons_self, Nat.le_refl _, _, pushCells_keeps r _ _ _ (Heap.get?_push_size _ rfl), rfl⟩
        · exact .inl hm
      · rw [Heap.size_push] at h2
        exact .inr ⟨List.mem_cons_of_mem _ h1, Nat.le_of_succ_le h2, h3⟩
    · rename_i hk
      rw [if_neg hk]
      rcases cells_mem hm with hm | ⟨h1, h2, h3⟩
      · exact .inl hm
      · exact .inr ⟨List.mem_cons_of_mem _ h1, h2, h3⟩
theorem cells_acc : ∀ {names : List (Str × NameKind)} {n : Nat} {acc : List (Str × Addr)} {p : Str × Addr}, p ∈ acc → p ∈ cellsFrom n names acc
  | [], _, _, _, h => h
  | (m, k) :: r, n, acc, p, h => by
    unfold cellsFrom
    split
    · exact cells_acc (List.mem_cons_of_mem _ h)
    · exact cells_acc h
theorem cells_has : ∀ {names : List (Str × NameKind)} {n : Nat} {acc : List (Str × Addr)} {x : Str}, (x, .cell) ∈ names → ∃ c, (x, c) ∈ cellsFrom n names acc
  | (m, k) :: r, n, acc, x, h => by
    unfold cellsFrom
    rcases List.mem_cons.mp h with e | h
    · cases e
      exact ⟨n, cells_acc List.mem_cons_self⟩
    · split
      · exact cells_has h
      · exact cells_has h
theorem cells_inj : ∀ {names : List (Str × NameKind)} {h : Heap} {acc : List (Str × Addr)} {x y : Str} {c : Addr}, (∀ p ∈ acc, p.2 < h.objs.size) → (∀ x y c, (x, c) ∈ acc → (y, c) ∈ acc → x = y) →
    (x, c) ∈ cellsFrom h.objs.size names acc → (y, c) ∈ cellsFrom h.objs.size names acc → x = y
  | [], _, _, _, _, _, _, hi, h1, h2 => hi _ _ _ h1 h2
  | (n, k) :: r, h, acc, x, y, c, hl, hi, h1, h2 => by
    unfold cellsFrom at h1 h2
    split at h1
    · rename_i hk
      rw [if_pos hk] at h2
      rw [← Heap.size_push h { cls := .type "cell", data := .cell none }] at h1 h2
      refine cells_inj (h := h.push _) (fun p hp => ?_) (fun x y c a b => ?_) h1 h2
      · rw [Heap.size_push]
        rcases List.mem_cons.mp hp with rfl | hp
        · exact Nat.lt_succ_self _
        · exact Nat.lt_succ_of_lt (hl p hp)
      · rcases List.mem_cons.mp a with e | a <;> rcases List.mem_cons.mp b with e' | b
        · cases e; cases e'; rfl
        · cases e; exact absurd (hl _ b) (Nat.lt_irrefl _)
        · cases e'; exact absurd (hl _ a) (Nat.lt_irrefl _)
        · exact hi _ _ _ a b
    · rename_i hk
      rw [if_neg hk] at h2
      exact cells_inj hl hi h1 h2
theorem newEnv_comp {M : Model} {A : Around} {E : Value → Shared → Prop} {s : Shared} {scope : Scope} {globals : Addr} {closure : List (Str × Addr)} {qual : Str} {func : Option Addr} {code : Value} {around : Env} {builtins : Addr} {Q : Env → Shared → Prop}
    (h : Q (newEnv scope s.heap.objs.size globals (cellsFrom (s.heap.objs.size + 1) scope.names closure) qual func code (some around) builtins)
      { s with heap := pushCells (s.heap.push { cls := .type "dict", data := .dict #[] }) scope.names }) :
    wpAny M A (newFunctionEnv scope globals closure [] qual func code (some around) builtins) Q E s := by
  simp only [newFunctionEnv, Option.isSome_some, if_true]
  refine wpAny_bind (wpAny_alloc ?_)
  refine wpAny_bind (wpAny_layCells _ (fun n k c => rfl) scope.names closure _ _ ?_)
  rw [show ({ s with heap := s.heap.push { cls := .type "dict", data := .dict #[] } } : Shared).heap.objs.size = s.heap.objs.size + 1 from Heap.size_push ..]
  rw [List.forIn_nil]
  exact wpAny_bind (wpAny_pure (wpAny_pure h))
theorem lookup_relS {sc : Scope} : ∀ {names : List (Str × NameKind)} {x : Str} {k : NameKind},
    (names.map fun (n, k) => if (k == NameKind.free && sc.kind == .function && sc.names.lookup n == some .cell) then (n, NameKind.cell) else (n, k)).lookup x = some k →
    ∃ k', names.lookup x = some k' ∧ (k = k' ∨ (k' = .free ∧ k = .cell))
  | [], _, _, h => by simp at h
  | (n, k₀) :: r, x, k, h => by
    have ih := @lookup_relS sc r x k
    have h' : List.lookup x ((if (k₀ == NameKind.free && sc.kind == .function && sc.names.lookup n == some .cell) = true then (n, NameKind.cell) else (n, k₀)) :: (r.map _)) = some k := h
    cases hx : x == n with
    | true =>
      simp only [List.lookup_cons, hx]
      by_cases hc : (k₀ == NameKind.free && sc.kind == .function && sc.names.lookup n == some .cell) = true
      · rw [if_pos hc] at h'
        simp only [List.lookup_cons, hx] at h'
        cases h'
        simp only [Bool.and_eq_true, beq_iff_eq] at hc
        exact ⟨k₀, rfl, .inr ⟨hc.1.1, rfl⟩⟩
      · rw [if_neg hc] at h'
        simp only [List.lookup_cons, hx] at h'
        cases h'
        exact ⟨_, rfl, .inl rfl⟩
    | false =>
      simp only [List.lookup_cons, hx]
      by_cases hc : (k₀ == NameKind.free && sc.kind == .function && sc.names.lookup n == some .cell) = true
      · rw [if_pos hc] at h'
        simp only [List.lookup_cons, hx] at h'
        exact ih h'
      · rw [if_neg hc] at h'
        simp only [List.lookup_cons, hx] at h'
        exact ih h'
structure BlkOk (N : List Str) (sc scope : Scope) (own : List (Str × Nat)) : Prop where
  kind : scope.kind = .function
  uniq : ∀ y ∈ scope.names, scope.names.lookup y.1 = some y.2
  ix : ∀ p ∈ own, N[p.2]? = some p.1
  free : ∀ y ∈ scope.names, y.2 = .free → sc.names.lookup y.1 = some .cell ∨ sc.names.lookup y.1 = some .free
  own : ∀ y ∈ scope.names, y.2 = .local ∨ y.2 = .cell → y.1 ∈ own.map (·.1) ∨ y.1 ∉ N
def wipe (σ : St) : List Nat → St
  | [] => σ
  | v :: vs => (wipe σ vs).set v none
theorem wipe_length (σ : St) : ∀ vs : List Nat, (wipe σ vs).length = σ.length
  | [] => rfl
  | v :: vs => by unfold wipe; rw [List.length_set, wipe_length σ vs]
theorem wipe_some {σ : St} {i : Nat} {x : V} : ∀ {vs : List Nat}, (wipe σ vs)[i]? = some (some x) → σ[i]? = some (some x) ∧ i ∉ vs
  | [], h => ⟨h, by simp⟩
  | v :: vs, h => by
    unfold wipe at h
    by_cases hi : v = i
    · subst hi
      by_cases hv : v < (wipe σ vs).length
      · rw [List.getElem?_set_self hv] at h; cases h
      · rw [List.getElem?_eq_none (by simpa using hv)] at h; cases h
    · rw [List.getElem?_set_ne hi] at h
      obtain ⟨h1, h2⟩ := wipe_some h
      exact ⟨h1, by simp only [List.mem_cons, not_or]; exact ⟨fun e => hi e.symm, h2⟩⟩
abbrev Cx.blk (X : Cx) (s : Shared) (H : Hp) (scope : Scope) (cenv : Env) (fp : List Addr) : Cx := { X with s_0 := s, H_0 := H, env := cenv, outer := X.stack, ex := fp, fn := fun x => scope.names.lookup x == some .cell, pn := [], xe := fun _ _ => False }
section
variable {X : Cx} {pins : List (Addr × Obj)} {σ : St} {H : Hp} {s : Shared}
theorem block_start {scope : Scope} {own : List (Str × Nat)} {fp : List Addr} (I : Inv X pins σ H s) (ok : BlkOk X.N X.env.scope scope own) (hN : X.N.Nodup) (hfp : ∀ b ∈ fp, FpOk X pins H b ∧ b < s.heap.objs.size) :
    Inv (X.blk s H scope (compEnvC scope (cellsFrom (s.heap.objs.size + 1) scope.names (cloFrom X.env.cells scope.names [])) s.heap.objs.size X.env) fp) [] (wipe σ (own.map (·.2))) H { s with heap := pushCells (s.heap.push { cls := .type "dict", data := .dict #[] }) scope.names } := by
  have hfree : ∀ y ∈ scope.names, y.2 = .free → ∃ c, X.env.cells.lookup y.1 = some c := fun y hy e => by
    rcases ok.free y hy e with k | k
    · exact I.ok.has _ (.inl k)
    · exact I.ok.has _ (.inr k)
  generalize hcenv : compEnvC scope (cellsFrom (s.heap.objs.size + 1) scope.names (cloFrom X.env.cells scope.names [])) s.heap.objs.size X.env = cenv
  have kp : ∀ b o, s.heap.get? b = some o → (pushCells (s.heap.push { cls := .type "dict", data := .dict #[] }) scope.names).get? b = some o := fun b o e => pushCells_keeps _ _ _ _ (Heap.get?_push_of_some _ e)
  have hL : cenv.locals = s.heap.objs.size := by rw [← hcenv]; rfl
  have hcl : cenv.cells = cellsFrom (s.heap.objs.size + 1) scope.names (cloFrom X.env.cells scope.names []) := by rw [← hcenv]; rfl
  have hsc : cenv.scope = relS scope X.env.scope := by rw [← hcenv]; rfl
  rw [← Heap.size_push s.heap { cls := .type "dict", data := .dict #[] }] at hcl
  have cm : ∀ {y c}, (y, c) ∈ cloFrom X.env.cells scope.names [] → X.env.cells.lookup y = some c ∧ c < s.heap.objs.size := fun {y c} hm => by
    rcases cloFrom_mem hm with hm | ⟨h1, rfl⟩
    · cases hm
    · obtain ⟨c, hc⟩ := hfree _ h1 rfl
      rw [hc]
      obtain ⟨w, z⟩ := I.cell _ _ hc
      exact ⟨rfl, z.lt⟩
  have mem : ∀ {y c}, cenv.cells.lookup y = some c → (X.env.cells.lookup y = some c ∧ c < s.heap.objs.size) ∨ (s.heap.objs.size + 1 ≤ c ∧ CellAt (pushCells (s.heap.push { cls := .type "dict", data := .dict #[] }) scope.names) c none) := fun {y c} e => by
    rw [hcl] at e
    rcases cells_mem (PySem.mem_of_lookup e) with hm | ⟨_, h2, h3⟩
    · exact .inl (cm hm)
    · rw [Heap.size_push] at h2; exact .inr ⟨h2, h3⟩
  have look : ∀ {y}, scope.names.lookup y = some .free → ∃ c, cenv.cells.lookup y = some c ∧ X.env.cells.lookup y = some c := fun {y} hl => by
    have hy : (y, NameKind.free) ∈ scope.names := PySem.mem_of_lookup hl
    obtain ⟨c', e'⟩ := mem_lookup (cells_acc (names := scope.names) (n := (s.heap.push { cls := .type "dict", data := .dict #[] }).objs.size) (cloFrom_has (cells := X.env.cells) (acc := []) hy))
    rw [← hcl] at e'
    refine ⟨c', e', ?_⟩
    rw [hcl] at e'
    rcases cells_mem (PySem.mem_of_lookup e') with hm | ⟨h1, _, _⟩
    · exact (cm hm).1
    · have := ok.uniq _ h1
      rw [hl] at this; cases this
  have okB : (X.blk s H scope cenv fp).Ok := by
    refine ⟨I.ok.mod, by show cenv.scope.kind = _; rw [hsc]; exact ok.kind, by show cenv.globals = _; rw [← hcenv]; exact I.ok.glob, by show cenv.builtins = _; rw [← hcenv]; exact I.ok.blt, by show s.heap.objs.size ≤ cenv.locals; rw [hL]; exact Nat.le_refl _,
      fun y z c e1 e2 => ?_, fun y hy => ?_, fun y c z e => ?_, I.ok.hd, I.ok.frames, .inl rfl, fun b hb => ⟨?_, fun y c e z => ?_⟩, I.bs, Nat.le_trans I.ok.bsz I.sz, fun b o e hb => ?_, fun b hb z => ?_, I.stack, I.stkFree⟩
    · have e1 : cenv.cells.lookup y = some c := e1
      have e2 : cenv.cells.lookup z = some c := e2
      rw [hcl] at e1 e2
      refine cells_inj (fun p hp => ?_) (fun y z c a b => I.ok.inj y z c (cm a).1 (cm b).1) (PySem.mem_of_lookup e1) (PySem.mem_of_lookup e2)
      rw [Heap.size_push]
      exact Nat.lt_succ_of_lt (cm (y := p.1) (c := p.2) hp).2
    · show ∃ c, cenv.cells.lookup y = some c
      have key : ∀ k, cenv.kindOf y = some k → (k = .cell ∨ k = .free) → ∃ c, cenv.cells.lookup y = some c := fun k hk hk' => by
        unfold Env.kindOf at hk
        rw [hsc] at hk
        obtain ⟨k', e, r⟩ := lookup_relS hk
        have : k' = .cell ∨ k' = .free := by
          rcases r with rfl | ⟨rfl, _⟩
          · exact hk'
          · exact .inr rfl
        rcases this with rfl | rfl
        · obtain ⟨c, hm⟩ := cells_has (n := (s.heap.push { cls := .type "dict", data := .dict #[] }).objs.size) (acc := cloFrom X.env.cells scope.names []) (PySem.mem_of_lookup e)
          obtain ⟨c', e'⟩ := mem_lookup hm
          exact ⟨c', by rw [hcl]; exact e'⟩
        · obtain ⟨c, h1, _⟩ := look e
          exact ⟨c, h1⟩
      rcases hy with hy | hy
      · exact key _ hy (.inl rfl)
      · exact key _ hy (.inr rfl)
    · have z : (scope.names.lookup y == some NameKind.cell) = true := z
      have z : scope.names.lookup y = some .cell := by simpa using z
      have e : cenv.cells.lookup y = some c := e
      rw [hcl] at e
      rcases cells_mem (PySem.mem_of_lookup e) with hm | ⟨_, h2, _⟩
      · rcases cloFrom_mem hm with hm | ⟨h1, _⟩
        · cases hm
        · have q := ok.uniq _ h1
          rw [z] at q; cases q
      · rw [Heap.size_push] at h2
        exact Nat.le_of_succ_le h2
    · show b ≠ cenv.locals
      rw [hL]; exact Nat.ne_of_lt (hfp b hb).2
    · have e : cenv.cells.lookup y = some c := e
      rcases mem e with ⟨h1, _⟩ | ⟨h1, _⟩
      · exact (hfp b hb).1.2.2.2.2.1 y c h1 z
      · have h2 : s.heap.objs.size + 1 ≤ b := by rw [← z]; exact h1
        exact absurd (Nat.lt_of_lt_of_le (hfp b hb).2 (Nat.le_of_succ_le h2)) (Nat.lt_irrefl _)
    · rcases (hfp b hb).1.2.2.2.1 with z | z
      · exact I.ok.noex b o e z
      · exact absurd (Nat.lt_of_lt_of_le (Heap.lt_size e) (Nat.le_trans I.ok.bsz z)) (Nat.lt_irrefl _)
    · rcases List.mem_cons.mp (I.stkSub b z) with z | z
      · exact (hfp b hb).1.2.1 z
      · exact (hfp b hb).1.2.2.1 z
  refine ⟨okB, rfl, I.bare, Un.kept kp, ⟨fun _ => none, ?_, fun i y av e1 e2 e3 => ?_⟩, fun y c e => ?_, ?_, fun y c e => ?_, fun p hp => ?_, I.hok.kept kp, by rw [wipe_length]; exact I.len⟩
  · show Heap.Ns _ cenv.locals _
    rw [hL]
    exact Heap.Ns.keeps (Heap.Ns.new ..) fun b o e => pushCells_keeps _ _ _ _ e
  · obtain ⟨e2, hne⟩ := wipe_some e2
    have hfr : scope.names.lookup y = some .free ∧ (cenv.kindOf y = some .cell ∨ cenv.kindOf y = some .free) := by
      have key : ∀ k, cenv.scope.names.lookup y = some k → k = .local ∨ k = .cell ∨ k = .free → scope.names.lookup y = some .free ∧ (cenv.kindOf y = some .cell ∨ cenv.kindOf y = some .free) := fun k hk hk' => by
        have hk0 := hk
        rw [hsc] at hk
        obtain ⟨k', e, r⟩ := lookup_relS hk
        have no : ¬ (k' = .local ∨ k' = .cell) := fun hh => by
          rcases ok.own _ (PySem.mem_of_lookup e) hh with e' | e'
          · obtain ⟨p, hp, hpy⟩ := List.mem_map.mp e'
            have e3 := ok.ix p hp
            have : p.1 = y := hpy
            rw [this] at e3
            exact hne (List.mem_map.mpr ⟨p, hp, nodup_ix hN e3 e1⟩)
          · exact e' (List.mem_of_getElem? e1)
        rcases r with rfl | ⟨rfl, rfl⟩
        · rcases hk' with rfl | rfl | rfl
          · exact absurd (.inl rfl) no
          · exact absurd (.inr rfl) no
          · exact ⟨e, .inr hk0⟩
        · exact ⟨e, .inl hk0⟩
      have e3 : Vis cenv.scope y := e3
      rcases e3 with e3 | e3 | e3
      · exact key _ e3 (.inl rfl)
      · exact key _ e3 (.inr (.inl rfl))
      · exact key _ e3 (.inr (.inr rfl))
    obtain ⟨m, hn, hl⟩ := I.loc
    have hvis : Vis X.env.scope y := (ok.free _ (PySem.mem_of_lookup hfr.1) rfl).elim (fun k => .inr (.inl k)) (fun k => .inr (.inr k))
    obtain ⟨w, r, q⟩ := hl i y av e1 e2 hvis
    refine ⟨w, r, .inr ⟨hfr.2, ?_⟩⟩
    obtain ⟨c, h1, h2⟩ := look hfr.1
    rcases q with ⟨k, _⟩ | ⟨_, c', e', z⟩
    · have k : X.env.scope.names.lookup y = some .local := k
      rcases ok.free _ (PySem.mem_of_lookup hfr.1) rfl with k' | k' <;> rw [show X.env.scope.names.lookup y = _ from k'] at k <;> cases k
    · rw [h2] at e'; cases e'
      exact ⟨c, h1, z.keeps kp⟩
  · have e : cenv.cells.lookup y = some c := e
    rcases mem e with ⟨h1, _⟩ | ⟨_, z⟩
    · obtain ⟨w, z⟩ := I.cell y c h1
      exact ⟨w, z.keeps kp⟩
    · exact ⟨_, z⟩
  · show H cenv.locals = none
    rw [hL]; exact I.hok.fresh (Nat.le_refl _)
  · have e : cenv.cells.lookup y = some c := e
    rcases mem e with ⟨h1, _⟩ | ⟨h1, _⟩
    · exact I.freeC y c h1
    · exact I.hok.fresh (Nat.le_of_succ_le h1)
  · exact absurd (show p ∈ ([] : List (Addr × Obj)) ++ [] from hp) (by simp)
theorem app_ok {E : Value → Shared → Prop} {D : Addr} {xs : List V} {y : V} {v : Value} {Q : Value → Shared → Prop} (I : Inv X pins σ H s) (hD : H D = some (.lst xs)) (hz : xs.length < sizeLine) (r : RelV y v)
    (h : ∀ s', Inv X pins σ (upd H D (.lst (xs ++ [y]))) s' → Q .none s') : wpAny (model X.prog X.w) X.A (call (.builtin "list.append") [.ref D, v]) Q E s := by
  obtain ⟨hz', its, n, ri, e⟩ := I.hok D _ hD
  have hl := ri.length
  refine append_at (hsz := by rw [List.size_toArray]; omega) e fun h' sb ho' => ?_
  refine h { s with heap := h' } (I.write (t' := s.toks) (by rw [hD]; trivial) (.inl rfl) (fun b u hb q => (sb.2 b hb).trans q) ⟨_, ho'⟩ ⟨by rw [List.length_append]; exact hz, its ++ [v], n + 1, ri.append (.cons r .nil), ?_⟩)
  rw [ho']
  simp
def PTs (X : Cx) (ifs : List Expr) (t : TT) : Prop :=
  ∀ (pins : List (Addr × Obj)) (s : Shared) (σ : St) (H : Hp) (Q : Bool → Hp → Prop), Inv X pins σ H s → t σ H Q →
    wpAny (model X.prog X.w) X.A (forIn ifs true fun c r => if r = true then do let ok ← isTrue c X.env (eval c X.env); pure (ForInStep.yield ok) else pure (ForInStep.yield r)) (TP X pins σ Q) X.xe s
theorem pts_one {c : Expr} {t : TT} (h : PT X c t) : PTs X [c] t := fun pins s σ H Q I hw => wpAny_tests_one (h pins s σ H Q I hw)
end
theorem thnF {α : Type} {t : Sem α} {Q Q' : α → Shared → Prop} {M : Model} {A : Around} {E : Value → Shared → Prop} {s : Shared} (h : wpAny M A t Q (fun _ _ => False) s) (hQ : ∀ a s, Q a s → Q' a s) : wpAny M A t Q' E s := wpAny_mono h hQ fun _ _ z => False.elim z
theorem compLoop_any {prog : Program} {w : World} {A : Around} {R : Result → Shared → Prop} {s : Shared} {elt target iter : Expr} {ifs : List Expr} {scope : Scope} {pos : Pos} {it acc : Value} {env : Env} (I : Nat → Shared → Prop)
    (turn : ∀ n s, I n s → wpAny (model prog w) A (pyNext it) (fun r s₁ => match r with
      | none => R (.ok .next) s₁
      | some v => wpAny (model prog w) A (letOwnedTupleGo target it v) (fun _ s₁' => wpAny (model prog w) A (assign target env v) (fun _ s₂ =>
          wpAny (model prog w) A (forIn ifs true fun c r => if r = true then do let ok ← isTrue c env (eval c env); pure (ForInStep.yield ok) else pure (ForInStep.yield r)) (fun ok s₃ =>
            if ok = true then wpAny (model prog w) A (eval elt env) (fun x s₄ =>
              wpAny (model prog w) A (call (.builtin "list.append") [acc, x]) (fun _ s₅ => ∃ m, m < n ∧ I m s₅) (notedBy (model prog w) A env fun e s' => R (.error e) s') s₄) (notedBy (model prog w) A env fun e s' => R (.error e) s') s₃
            else ∃ m, m < n ∧ I m s₃) (notedBy (model prog w) A env fun e s' => R (.error e) s') s₂) (notedBy (model prog w) A env fun e s' => R (.error e) s') s₁') (notedBy (model prog w) A env fun e s' => R (.error e) s') s₁) (notedBy (model prog w) A env fun e s' => R (.error e) s') s)
    (n : Nat) (h : I n s) :
    codeAny (model prog w) A (.compLoop (.ListComp elt [⟨target, iter, ifs, 0⟩] scope pos) 0 it acc env) R s := by
  refine codeAny_loop rfl I (fun n s hI => ?_) n h
  show wpAny _ A ((compTurn (.ListComp elt [⟨target, iter, ifs, 0⟩] scope pos) 0 it acc env).onRaise (fun x => do noteFrame x env; theTreesLotGoes x)) _ _ s
  refine wpAny_noted ?_
  rw [compTurn_list]
  refine wpAny_bind (wpAny_standAt (wpAny_bind (wpAny_mono (turn n s hI) (fun r s₁ h₁ => ?_) fun _ _ h' => h')))
  cases r with
  | none => exact wpAny_pure h₁
  | some v =>
    refine wpAny_bind (wpAny_mono h₁ (fun _ s₁' h₁' => ?_) fun _ _ h' => h')
    refine wpAny_bind (wpAny_mono h₁' (fun _ s₂ h₂ => wpAny_bind (wpAny_mono h₂ (fun ok s₃ h₃ => ?_) fun _ _ h' => h')) fun _ _ h' => h')
    cases ok with
    | false => exact wpAny_pure ⟨rfl, h₃⟩
    | true =>
      exact wpAny_bind (wpAny_bind (wpAny_mono h₃ (fun x s₄ h₄ => wpAny_bind (wpAny_mono h₄ (fun _ s₅ h₅ => wpAny_pure (wpAny_pure ⟨rfl, h₅⟩)) fun _ _ h' => h')) fun _ _ h' => h'))
section
variable {X : Cx}
def tLc (wi : TI) (g : TG) (tt : TT) (te : TE) (vs : List Nat) : TE := fun σ H Q => wi σ H fun J H1 => ∀ D, H1 D = none → ∃ W : Nat → Nat → Hp → Prop, (∃ m, W 0 m (upd H1 D (.lst []))) ∧ ∀ i m H, W i m H →
  (J.stop i H ∧ Q (.ref D) H) ∨ (J.go i H ∧ ∃ Nx : Hp → Prop, (∀ H', Nx H' → ∃ m', m' < m ∧ W (i + 1) m' H') ∧ ∀ x H', J.yld i H x H' → g x (wipe σ vs) H' fun σ2 H2 => wipe σ2 vs = wipe σ vs ∧ tt σ2 H2 fun b H3 =>
    if b = true then te σ2 H3 fun y H4 => ∃ acc, H4 D = some (.lst acc) ∧ acc.length < sizeLine ∧ Nx (upd H4 D (.lst (acc ++ [y]))) else Nx H3)
theorem lc_core {pins : List (Addr × Obj)} {s : Shared} {σ : St} {H : Hp} {Q : VK} {elt tg iter : Expr} {ifs : List Expr} {scope : Scope} {own : List (Str × Nat)} {pos pos' : Pos} {wi : TI} {g : TG} {tt : TT} {te : TE} {use : Option (Value → Sem Unit)} {Qf : Value → Shared → Prop}
    (hc : X.calm = true) (hN : X.N.Nodup) (I : Inv X pins σ H s) (hi : PI X tg iter wi) (ok : BlkOk X.N X.env.scope scope own)
    (hg : ∀ (s : Shared) (H : Hp) (C : Addr) (cl : List (Str × Addr)) (fp : List Addr), PG (X.blk s H scope (compEnvC scope cl C X.env) fp) tg g) (ht : ∀ (s : Shared) (H : Hp) (C : Addr) (cl : List (Str × Addr)) (fp : List Addr), PTs (X.blk s H scope (compEnvC scope cl C X.env) fp) ifs tt)
    (he : ∀ (s : Shared) (H : Hp) (C : Addr) (cl : List (Str × Addr)) (fp : List Addr), PE (X.blk s H scope (compEnvC scope cl C X.env) fp) elt te) (hs : ∀ x, foldedSetIterable iter X.env x = pure x)
    (h : tLc wi g tt te (own.map (·.2)) σ H Q)
    (hRR : ∀ D C s' m H', Inv X pins σ H' s' → Q (.ref D) H' → s'.heap.Ns C m → FpOk X pins H' C → compPost (model X.prog X.w) X.A X.xe use Qf (.ref D) C (.ok .next) s') :
    wpAny (model X.prog X.w) X.A (comprehension (.ListComp elt [⟨tg, iter, ifs, 0⟩] scope pos) scope X.env pos' (newList []) false (eval iter X.env) use) Qf X.xe s := by
  have hfree : ∀ y ∈ scope.names, y.2 = .free → ∃ c, X.env.cells.lookup y.1 = some c := fun y hy e => by
    rcases ok.free y hy e with k | k
    · exact I.ok.has _ (.inl k)
    · exact I.ok.has _ (.inr k)
  refine wpAny_comprehension_free (use := use) rfl hs (closure_ok hfree) ok.kind (fun y hy e => by rw [ok.uniq y hy, e])
    (thn (hi pins s σ H _ I h) fun xv s1 hx => thn hx fun itv s2 h2 => ?_)
  obtain ⟨it, fp, tn, J, H2, e, I2, T, st2, f2, q⟩ := h2
  subst e
  refine wpAny_newObj_type (newEnv_comp ?_) (by show 0 ≤ sizeLine; decide)
  generalize hD : s2.heap.objs.size = D
  have hDn : H2 D = none := I2.hok.fresh (Nat.le_of_eq hD)
  obtain ⟨W, ⟨m0, w0⟩, turn⟩ := q D hDn
  generalize hs3 : ({ s2 with heap := s2.heap.push { cls := .type "list", data := .seq ([] : List Value).toArray } } : Shared) = s3
  have I3 : Inv X pins σ (upd H2 D (.lst [])) s3 := by
    rw [← hs3]
    refine I2.laid (t' := s2.toks) (fun b o e => Heap.get?_push_of_some _ e) (Nat.le_of_eq hD) ⟨Nat.zero_le _, [], 0, .nil, ?_⟩
    rw [← hD]
    exact Heap.get?_push_size _ rfl
  have h3 : s3.heap = s2.heap.push { cls := .type "list", data := .seq ([] : List Value).toArray } := by rw [← hs3]
  have sz : ∀ b ∈ fp, b < s2.heap.objs.size := fun b hb => by
    obtain ⟨o, e, _⟩ := T.obj _ _ st2 b hb
    exact Heap.lt_size e
  have f3 : ∀ b ∈ fp, FpOk X pins (upd H2 D (.lst [])) b ∧ b < s3.heap.objs.size := fun b hb => by
    have hlt := sz b hb
    refine ⟨⟨?_, (f2 b hb).2⟩, by rw [h3, Heap.size_push]; exact Nat.lt_succ_of_lt hlt⟩
    rw [upd_ne (by rw [← hD]; exact Nat.ne_of_lt hlt)]
    exact (f2 b hb).1
  have st3 : tn 0 s3.heap := T.keep _ _ _ st2 fun b _ o e => by rw [h3]; exact Heap.get?_push_of_some _ e
  have I4 := block_start I3 ok hN f3
  have pg := hg s3 (upd H2 D (.lst [])) s3.heap.objs.size (cellsFrom (s3.heap.objs.size + 1) scope.names (cloFrom X.env.cells scope.names [])) fp
  have pt := ht s3 (upd H2 D (.lst [])) s3.heap.objs.size (cellsFrom (s3.heap.objs.size + 1) scope.names (cloFrom X.env.cells scope.names [])) fp
  have pe := he s3 (upd H2 D (.lst [])) s3.heap.objs.size (cellsFrom (s3.heap.objs.size + 1) scope.names (cloFrom X.env.cells scope.names [])) fp
  show codeAny _ _ (.compStart (.ListComp elt [⟨tg, iter, ifs, 0⟩] scope pos) 0 (.ref it) (.ref D) (compEnvC scope (cellsFrom (s3.heap.objs.size + 1) scope.names (cloFrom X.env.cells scope.names [])) s3.heap.objs.size X.env)) (compPost (model X.prog X.w) X.A X.xe use Qf (.ref D) s3.heap.objs.size) { s3 with heap := pushCells (s3.heap.push { cls := .type "dict", data := .dict #[] }) scope.names }
  have nfp : ∀ b ∈ fp, (upd H2 D (.lst [])) b = none := fun b hb => (f3 b hb).1.1
  generalize hce : compEnvC scope (cellsFrom (s3.heap.objs.size + 1) scope.names (cloFrom X.env.cells scope.names [])) s3.heap.objs.size X.env = ce at I4 pg pt pe ⊢
  have cL : ce.locals = s3.heap.objs.size := by subst hce; rfl
  generalize hH3 : upd H2 D (.lst []) = H3 at I3 I4 pg pt pe w0 nfp f3
  generalize hs4 : ({ s3 with heap := pushCells (s3.heap.push { cls := .type "dict", data := .dict #[] }) scope.names } : Shared) = s4 at I4 ⊢
  have st4 : tn 0 s4.heap := T.keep _ _ _ st3 fun b _ o e => by rw [← hs4]; exact pushCells_keeps _ _ _ _ (Heap.get?_push_of_some _ e)
  have stat : ∀ {σ' : St} {H' : Hp} {s' : Shared}, Inv (X.blk s3 H3 scope ce fp) [] σ' H' s' → (∀ b ∈ fp, H' b = none) → ∀ b ∈ fp, FpOk (X.blk s3 H3 scope ce fp) [] H' b := fun {σ' H' s'} I' hn b hb =>
    ⟨hn b hb, (I'.ok.exf b hb).1, I'.ok.exfs b hb, .inl hb, fun x c e => (I'.ok.exf b hb).2 x c e, fun p hp => absurd (show p ∈ ([] : List (Addr × Obj)) ++ [] from hp) (by simp)⟩
  have loop : codeAny (model X.prog X.w) X.A (.compLoop (.ListComp elt [⟨tg, iter, ifs, 0⟩] scope pos) 0 (.ref it) (.ref D) ce) (compPost (model X.prog X.w) X.A X.xe use Qf (.ref D) s3.heap.objs.size) s4 := by
    refine compLoop_any (fun n s' => ∃ i H', Inv (X.blk s3 H3 scope ce fp) [] (wipe σ (own.map (·.2))) H' s' ∧ tn i s'.heap ∧ (∀ b ∈ fp, H' b = none) ∧ W i n H') ?_ m0 ⟨0, H3, I4, st4, nfp, w0⟩
    rintro n s5 ⟨i, H5, I5, st5, n5, w5⟩
    rcases turn i n H5 w5 with ⟨stop, qq⟩ | ⟨go, Nx, hNx, step⟩
    · have td := T.done (X.blk s3 H3 scope ce fp) rfl rfl rfl hc i [] s5 _ H5 (fun _ _ => False) I5 (stat I5 n5) st5 stop
      refine thnF td fun r s6 ⟨hr, I6⟩ => ?_
      subst hr
      have I7 : Inv X pins σ H5 s6 := I3.call' (ch := fp) I6.os I6.base I6.hok I6.bare fun b hb => ⟨(f3 b hb).1.2.2.2.1, (f3 b hb).1.2.1, (f3 b hb).1.2.2.2.2.1, (f3 b hb).1.2.2.2.2.2⟩
      have nC : H5 s3.heap.objs.size = none := by
        have z : H5 ce.locals = none := I6.free
        rw [cL] at z
        exact z
      obtain ⟨m, hn, _⟩ := I6.loc
      have hn : s6.heap.Ns ce.locals m := hn
      rw [cL] at hn
      exact hRR D s3.heap.objs.size s6 m H5 I7 qq hn (I3.fpOk (Nat.le_refl _) nC)
    · have ti := T.item (X.blk s3 H3 scope ce fp) rfl rfl rfl hc i [] s5 _ H5 (fun _ _ => False) I5 (stat I5 n5) st5 go
      refine thnF ti fun r s6 ⟨u, hr, h6⟩ => ?_
      subst hr
      refine thnF h6 fun _ s7 ⟨x, H7, I7, r7, y7, st7, n7⟩ => ?_
      have I7' := I7.pinned (stat I7 n7) (T.obj _ _ st7)
      refine thnF (pg _ s7 _ H7 x u _ I7' r7 (step x H7 y7)) fun _ s8 ⟨σ8, H8, I8, hw8, q8⟩ => ?_
      refine thnF (pt _ s8 σ8 H8 _ I8 q8) fun b s9 ⟨H9, I9, q9⟩ => ?_
      have fin : ∀ {s' : Shared} {H' : Hp}, Inv (X.blk s3 H3 scope ce fp) ([] ++ pinsAt fp s7.heap) σ8 H' s' → Nx H' → ∃ m, m < n ∧ ∃ i H', Inv (X.blk s3 H3 scope ce fp) [] (wipe σ (own.map (·.2))) H' s' ∧ tn i s'.heap ∧ (∀ b ∈ fp, H' b = none) ∧ W i m H' := fun {s' H'} I' nx => by
        obtain ⟨m', hm, w'⟩ := hNx H' nx
        have pin' : ∀ b ∈ fp, ∀ o, s7.heap.get? b = some o → s'.heap.get? b = some o ∧ H' b = none := fun b hb o e =>
          let z := I'.pin (b, o) (List.mem_append_right _ (List.mem_append_right _ (mem_pinsAt hb e)))
          ⟨z.1, z.2.1⟩
        have hl : (wipe σ (own.map (·.2))).length = σ8.length := by rw [← hw8, wipe_length]
        refine ⟨m', hm, i + 1, H', (I'.unpinned (pins := [])).weak hl (fun j v e => ?_), T.keep _ _ _ st7 fun b hb o e => (pin' b hb o e).1, fun b hb => ?_, w'⟩
        · rw [← hw8] at e
          exact (wipe_some e).1
        · obtain ⟨o, e, _⟩ := T.obj _ _ st7 b hb
          exact (pin' b hb o e).2
      cases b with
      | false =>
        simp only [Bool.false_eq_true, if_false] at q9 ⊢
        exact fin I9 q9
      | true =>
        simp only [if_true] at q9 ⊢
        refine thnF (pe _ s9 σ8 H9 _ I9 q9) fun z s10 ⟨yv, H10, I10, r10, acc, hD10, hz10, nx⟩ => ?_
        exact app_ok (X := X.blk s3 H3 scope ce fp) I10 hD10 hz10 r10 fun s11 I11 => fin I11 nx
  exact codeAny_compStart_list loop (T.self X.A 0 _ _ _ st4 loop)
theorem pe_lc {elt tg iter : Expr} {ifs : List Expr} {scope : Scope} {own : List (Str × Nat)} {pos : Pos} {wi : TI} {g : TG} {tt : TT} {te : TE} (hc : X.calm = true) (hN : X.N.Nodup) (hi : PI X tg iter wi) (ok : BlkOk X.N X.env.scope scope own)
    (hg : ∀ (s : Shared) (H : Hp) (C : Addr) (cl : List (Str × Addr)) (fp : List Addr), PG (X.blk s H scope (compEnvC scope cl C X.env) fp) tg g) (ht : ∀ (s : Shared) (H : Hp) (C : Addr) (cl : List (Str × Addr)) (fp : List Addr), PTs (X.blk s H scope (compEnvC scope cl C X.env) fp) ifs tt)
    (he : ∀ (s : Shared) (H : Hp) (C : Addr) (cl : List (Str × Addr)) (fp : List Addr), PE (X.blk s H scope (compEnvC scope cl C X.env) fp) elt te) (hs : ∀ x, foldedSetIterable iter X.env x = pure x := by intro _; rfl) :
    PE X (.ListComp elt [⟨tg, iter, ifs, 0⟩] scope pos) (tLc wi g tt te (own.map (·.2))) := by
  intro pins s σ H Q I h
  rw [eval_ListComp]
  refine lc_core hc hN I hi ok hg ht he hs h fun D C s' m H' I' q hn f => ⟨m, hn, fun h'' sb => ?_⟩
  obtain ⟨f0, f1, f2, f3, f4, f5⟩ := f
  exact ⟨.ref D, H', I'.turned (t' := s'.toks) (fun b o hb e => (sb.2 b hb).trans e) f0 f1 f3 f4 f5, rfl, q⟩
end
theorem lc_list {K : PySem.W.Frag} {a : Addr} {xs : List V} {g : TG} {tt : TT} {te : TE} {vs : List Nat} {σ : St} {H1 : Hp} {D : Addr} {Qd : Hp → Prop} (Pv : Nat → Hp → Prop) (h0 : Pv 0 (upd H1 D (.lst []))) (hl : ∀ i H, i ≤ xs.length → Pv i H → SqL K H a xs)
    (hs : ∀ i x H, xs[i]? = some x → Pv i H → g x (wipe σ vs) H fun σ2 H2 => wipe σ2 vs = wipe σ vs ∧ tt σ2 H2 fun b H3 =>
      if b = true then te σ2 H3 fun y H4 => ∃ acc, H4 D = some (.lst acc) ∧ acc.length < sizeLine ∧ Pv (i + 1) (upd H4 D (.lst (acc ++ [y]))) else Pv (i + 1) H3) (hd : ∀ H, Pv xs.length H → Qd H) :
    ∃ W : Nat → Nat → Hp → Prop, (∃ m, W 0 m (upd H1 D (.lst []))) ∧ ∀ i m H, W i m H →
      ((Itl K a).stop i H ∧ Qd H) ∨ ((Itl K a).go i H ∧ ∃ Nx : Hp → Prop, (∀ H', Nx H' → ∃ m', m' < m ∧ W (i + 1) m' H') ∧ ∀ x H', (Itl K a).yld i H x H' → g x (wipe σ vs) H' fun σ2 H2 => wipe σ2 vs = wipe σ vs ∧ tt σ2 H2 fun b H3 =>
        if b = true then te σ2 H3 fun y H4 => ∃ acc, H4 D = some (.lst acc) ∧ acc.length < sizeLine ∧ Nx (upd H4 D (.lst (acc ++ [y]))) else Nx H3) := by
  refine ⟨fun i m H => m = xs.length - i ∧ i ≤ xs.length ∧ Pv i H, ⟨xs.length, by simp, Nat.zero_le _, h0⟩, ?_⟩
  rintro i m H ⟨rfl, hi, p⟩
  have q := hl i H hi p
  by_cases hlt : i < xs.length
  · refine .inr ⟨⟨xs, xs[i], q, by simp [hlt]⟩, Pv (i + 1), fun H' p' => ⟨xs.length - (i + 1), by omega, rfl, hlt, p'⟩, fun x H' y => ?_⟩
    obtain ⟨e, y⟩ := y
    subst e
    exact hs i x _ (y xs q) p
  · have e : i = xs.length := by omega
    subst e
    exact .inl ⟨⟨xs, q, Nat.le_refl _⟩, hd H p⟩
end L2
namespace L2
open PySem PySem.Spec PyProof.Rows
section
variable {κ : Type} [DecidableEq κ]
def valV (kvs : List (κ × V)) (k : κ) : Option V := (kvs.find? fun kv => decide (kv.1 = k)).map (·.2)
def putK (kvs : List (κ × V)) (k : κ) (v : V) : List (κ × V) :=
  if (kvs.any fun kv => decide (kv.1 = k)) = true then kvs.map (fun kv => if kv.1 = k then (kv.1, v) else kv) else kvs ++ [(k, v)]
theorem valV_pos {p : κ × V} {r : List (κ × V)} {k : κ} (e : p.1 = k) : valV (p :: r) k = some p.2 := by simp [valV, List.find?_cons, e]
theorem valV_neg {p : κ × V} {r : List (κ × V)} {k : κ} (e : ¬ p.1 = k) : valV (p :: r) k = valV r k := by simp [valV, List.find?_cons, e]
theorem valV_any (k : κ) : ∀ kvs : List (κ × V), (kvs.any fun kv => decide (kv.1 = k)) = (valV kvs k).isSome
  | [] => rfl
  | p :: r => by
    rw [List.any_cons]
    by_cases e : p.1 = k
    · simp only [valV_pos e, decide_eq_true e, Bool.true_or, Option.isSome_some]
    · rw [valV_neg e, decide_eq_false e, Bool.false_or]; exact valV_any k r
theorem length_putK (kvs : List (κ × V)) (k : κ) (v : V) : (putK kvs k v).length ≤ kvs.length + 1 := by
  unfold putK
  split
  · rw [List.length_map]; omega
  · rw [List.length_append, List.length_cons, List.length_nil]; omega
theorem putK_new {kvs : List (κ × V)} {k : κ} (v : V) (h : valV kvs k = none) : putK kvs k v = kvs ++ [(k, v)] := by
  unfold putK
  rw [valV_any, h]
  exact if_neg (by decide)
theorem RelO.isSome_eq {o : Option V} {u : Option Value} (r : RelO o u) : o.isSome = u.isSome := by
  cases o with
  | none => cases u with
    | none => rfl
    | some _ => exact (show False from r).elim
  | some _ => cases u with
    | none => exact (show False from r).elim
    | some _ => rfl
theorem KV.val {kvs : List (κ × V)} {vs : List (κ × Value)} (r : KV kvs vs) (k : κ) : RelO (valV kvs k) (valueAt vs k) := by
  unfold KV at r
  induction r with
  | nil => exact True.intro
  | @cons p q ps qs h t ih =>
    obtain ⟨h1, h2⟩ := h
    by_cases e : p.1 = k
    · have e' : q.1 = k := h1.symm.trans e
      have b : valueAt (q :: qs) k = some q.2 := by simp [valueAt, List.find?_cons, e']
      rw [valV_pos e, b]; exact h2
    · have e' : ¬ q.1 = k := fun z => e (h1.trans z)
      have b : valueAt (q :: qs) k = valueAt qs k := by simp [valueAt, List.find?_cons, e']
      rw [valV_neg e, b]; exact ih
theorem KV.any {kvs : List (κ × V)} {vs : List (κ × Value)} (r : KV kvs vs) (k : κ) : (kvs.any fun kv => decide (kv.1 = k)) = vs.any fun kv => decide (kv.1 = k) := by
  unfold KV at r
  induction r with
  | nil => rfl
  | cons h t ih => rw [List.any_cons, List.any_cons, ih, h.1]
theorem KV.repl {kvs : List (κ × V)} {vs : List (κ × Value)} (r : KV kvs vs) (k : κ) {y : V} {u : Value} (ry : RelV y u) :
    KV (kvs.map fun kv => if kv.1 = k then (kv.1, y) else kv) (vs.map fun kv => if kv.1 = k then (kv.1, u) else kv) := by
  unfold KV at r ⊢
  induction r with
  | nil => exact .nil
  | @cons p q ps qs h t ih =>
    rw [List.map_cons, List.map_cons]
    refine .cons ?_ ih
    obtain ⟨h1, h2⟩ := h
    by_cases e : p.1 = k
    · rw [if_pos e, if_pos (h1.symm.trans e)]; exact ⟨h1, ry⟩
    · rw [if_neg e, if_neg (fun z => e (h1.trans z))]; exact ⟨h1, h2⟩
theorem KV.put {kvs : List (κ × V)} {vs : List (κ × Value)} (r : KV kvs vs) (k : κ) {y : V} {u : Value} (ry : RelV y u) : KV (putK kvs k y) (stored vs k u) := by
  unfold putK stored
  rw [r.any k]
  by_cases e : (vs.any fun kv => decide (kv.1 = k)) = true
  · rw [if_pos e, if_pos e]; exact r.repl k ry
  · rw [if_neg e, if_neg e]; exact Paired.snoc r ⟨rfl, ry⟩
theorem KV.length {kvs : List (κ × V)} {vs : List (κ × Value)} (r : KV kvs vs) : kvs.length = vs.length := Paired.length r
end
theorem kV_is {P : Program} {w : World} {k : Key} {u : Value} (r : RelV (kV k) u) : (mixKind P w).is k u = true := by
  cases k with
  | inl i => obtain ⟨t, e⟩ := (show ∃ t, u = Value.int i t from r); subst e; exact mixKind_int P w i t
  | inr x => obtain ⟨t, e⟩ := (show ∃ t, u = Value.str x t from r); subst e; exact mixKind_str P w x t
section
variable {P : Program} {w : World} {H : Hp} {h : Heap} {a : Addr}
theorem rd_of {u : HO} (ok : HOk P w H h) (e : Rd H a u) : ObjOk P w H h a u := e.ok ok
theorem dk_rd {kvs : List (Key × V)} (ok : HOk P w H h) (e : Rd H a (.dK kvs)) : kvs.length ≤ sizeLine ∧ (a == sysModules) = false ∧ ∃ vs, KV kvs vs ∧ h.DictOf (mixKind P w) a vs :=
  show ObjOk P w H h a (.dK kvs) from rd_of ok e
theorem dk_of {kvs : List (Key × V)} (ok : HOk P w H h) (e : H a = some (.dK kvs)) : kvs.length ≤ sizeLine ∧ (a == sysModules) = false ∧ ∃ vs, KV kvs vs ∧ h.DictOf (mixKind P w) a vs := dk_rd ok (.inl e)
end
def DGet (H : Hp) (a : Addr) (y : V) (r : Option V) : Prop := ∃ kvs k, Rd H a (.dK kvs) ∧ y = kV k ∧ r = valV kvs k
def DPut (H : Hp) (a : Addr) (y v : V) (H' : Hp) : Prop := ∃ kvs k, H a = some (.dK kvs) ∧ y = kV k ∧ kvs.length < sizeLine ∧ H' = upd H a (.dK (putK kvs k v))
theorem DGet.k {H : Hp} {a : Addr} {kvs : List (Key × V)} {k : Key} (e : H a = some (.dK kvs)) : DGet H a (kV k) (valV kvs k) := ⟨kvs, k, .inl e, rfl, rfl⟩
theorem DPut.k {H : Hp} {a : Addr} {kvs : List (Key × V)} {k : Key} {v : V} (e : H a = some (.dK kvs)) (hl : kvs.length < sizeLine) : DPut H a (kV k) v (upd H a (.dK (putK kvs k v))) := ⟨kvs, k, e, rfl, hl, rfl⟩
section
variable {X : Cx} {pins : List (Addr × Obj)} {σ : St} {H : Hp} {s : Shared} {a : Addr} {y v : V} {u r : Value} {o : Option V} {A : Around} {E : Value → Shared → Prop}
theorem Inv.big (I : Inv X pins σ H s) : sysModules < s.heap.objs.size := by
  have h : mainGlobals < s.heap.objs.size := (I.mod.glob.keeps I.bk).lt
  exact Nat.lt_trans (by decide) h
theorem d_notIn {Q : Value → Shared → Prop} (hu : A.units + 1 < cLine) (I : Inv X pins σ H s) (g : DGet H a y o) (ry : RelV y u) (h : ∀ s', Inv X pins σ H s' → Q (.bool (!o.isSome)) s') :
    wpAny (model X.prog X.w) A (compareOp .NotIn u (.ref a)) Q E s := by
  obtain ⟨kvs, k, e, ey, l⟩ := g
  · subst ey
    obtain ⟨z, hd, vs, rel, dd⟩ := dk_rd I.hok e
    refine wpAny_notIn_of (kV_is ry) hd dd.mapOf ?_
    rw [← (rel.val k).isSome_eq, ← l]
    exact h _ (I.tok _)
theorem d_write {h' : Heap} {t' : Nat} {ob : HO} (I : Inv X pins σ H s) (mu : Mut (H a)) (hs : Heap.SameBut a s.heap h') (he : ∃ q, h'.get? a = some q) (new : ObjOk X.prog X.w (upd H a ob) h' a ob) :
    Inv X pins σ (upd H a ob) { s with heap := h', toks := t' } :=
  I.write (x := a) (e := a) mu (.inl rfl) (fun b q hb z => (hs.2 b hb).trans z) he new
theorem dk_new {P : Program} {w : World} {H' : Hp} {h' : Heap} {kvs : List (Key × V)} {vs : List (Key × Value)} (z : kvs.length ≤ sizeLine) (hd : (a == sysModules) = false) (rel : KV kvs vs) (dd : h'.DictOf (mixKind P w) a vs) :
    ObjOk P w H' h' a (.dK kvs) := ⟨z, hd, vs, rel, dd⟩
theorem d_setItem {H' : Hp} {Q : Unit → Shared → Prop} (hu : A.units + 1 < cLine) (I : Inv X pins σ H s) (g : DPut H a y v H') (ry : RelV y u) (rv : RelV v r) (h : ∀ s', Inv X pins σ H' s' → Q () s') :
    wpAny (model X.prog X.w) A (setItem (.ref a) u r) Q E s := by
  obtain ⟨kvs, k, e, ey, l, eH⟩ := g
  · subst ey eH
    obtain ⟨z, hd, vs, rel, dd⟩ := dk_of I.hok e
    have hz : vs.length ≤ sizeLine := by rw [← rel.length]; exact z
    have hl : (putK kvs k v).length ≤ sizeLine := by have := length_putK kvs k v; omega
    refine wpAny_setItem_pairs (hsz := hz) (kV_is ry) dd fun h' dd' hs => h _ ?_
    have he : ∃ q, h'.get? a = some q := let ⟨q, _, _, hq, _⟩ := dd'; ⟨q, hq⟩
    exact d_write I (by rw [e]; exact True.intro) hs he (dk_new hl hd (rel.put k rv) dd')
end
section
variable {X : Cx} {pins : List (Addr × Obj)} {σ : St} {H : Hp} {s : Shared} {a : Addr} {kvs : List (Key × V)} {k : Key} {u : Value} {A : Around} {E : Value → Shared → Prop}
theorem d_len {Q : Value → Shared → Prop} (I : Inv X pins σ H s) (e : Rd H a (.dK kvs)) (h : ∀ t s', Inv X pins σ H s' → Q (.int kvs.length t) s') : wpAny (model X.prog X.w) A (call (.builtin "len") [.ref a]) Q E s := by
  obtain ⟨z, hd, vs, rel, dd⟩ := dk_rd I.hok e
  refine call_len_dict hd dd (by rw [← rel.length]; rw [sizeLine_eq] at z; omega) ?_
  rw [← rel.length]
  exact h _ _ (I.tok _)
end
def tDNotIn (ty td : TE) : TE := fun σ H Q => ty σ H fun y H1 => td σ H1 fun x H2 => ∃ a o, x = .ref a ∧ DGet H2 a y o ∧ Q (.bl (!o.isSome)) H2
def sDPut (td ty tv : TE) : TS := fun D σ H => tv σ H fun v H1 => td σ H1 fun x H2 => ty σ H2 fun y H3 => ∃ a H4, x = .ref a ∧ DPut H3 a y v H4 ∧ D.nx σ H4
section
variable {X : Cx} {o i e value : Expr} {pos pos' tpos : Pos} {td ty tv : TE}
theorem pc_dnotin (hu : X.A.units + 1 < cLine) (hi : PE X i ty) (ho : PE X o td) : PC X .NotIn i o (tDNotIn ty td) := by
  intro pins s σ H Q I h
  refine thn (hi pins s σ H _ I h) fun iv s1 ⟨y, H1, I1, ry, q1⟩ => thn (ho pins s1 σ H1 _ I1 q1) fun u s2 ⟨x, H2, I2, rx, a, ov, ex, g, q2⟩ => ?_
  subst ex
  obtain rfl : u = Value.ref a := rx
  exact d_notIn hu I2 g ry fun s3 I3 => ⟨.bl (!ov.isSome), H2, I3, rfl, q2⟩
theorem ps_dput (hu : X.A.units + 1 < cLine) (ho : PE X o td) (hi : PE X i ty) (hv : PE X value tv) (hs : swapsWith value (some (.Subscript o i pos')) pos.line X.env = pure false) :
    PS X (.Assign [.Subscript o i pos'] value pos) (sDPut td ty tv) := by
  intro pins s σ H D I h
  refine wpAny_Assign_Subscript (thn (hv pins s σ H _ I h) fun r s1 ⟨v, H1, I1, rv, q1⟩ => thn (ho pins s1 σ H1 _ I1 q1) fun u s2 ⟨x, H2, I2, rx, q2⟩ => thn (hi pins s2 σ H2 _ I2 q2) fun iv s3 ⟨y, H3, I3, ry, a, H4, ex, g, q3⟩ => ?_) hs
  subst ex
  obtain rfl : u = Value.ref a := rx
  exact d_setItem hu I3 g ry rv fun s4 I4 => ⟨σ, H4, I4, q3⟩
end
theorem dk_empty {P : Program} {w : World} {H : Hp} (h : Heap) (hb : sysModules < h.objs.size) : ObjOk P w H (h.push { cls := .type "dict", data := .dict #[] }) h.objs.size (.dK []) :=
  ⟨Nat.zero_le _, beq_eq_false_iff_ne.mpr (Ne.symm (Nat.ne_of_lt hb)), [], .nil, Heap.DictOf.new h⟩
def tDNewK : TE := fun _ H Q => ∀ p, H p = none → Q (.ref p) (upd H p (.dK []))
section
variable {X : Cx} {pos : Pos}
theorem pe_dnewK : PE X (.Dict [] [] pos) tDNewK := fun pins s σ H Q I h =>
  wpAny_Dict_empty ⟨.ref s.heap.objs.size, _, I.laid (a := s.heap.objs.size) (o := .dK []) (t' := s.toks) (fun _ _ q => Heap.get?_push_of_some _ q) (Nat.le_refl _) (dk_empty s.heap I.big), rfl, h _ (I.hok.fresh (Nat.le_refl _))⟩
end
section
variable {X : Cx} {pins : List (Addr × Obj)} {σ : St} {H : Hp} {s : Shared} {a : Addr} {y d : V} {u r : Value} {o : Option V} {A : Around} {E : Value → Shared → Prop}
end
section
variable {X : Cx} {o e f : Expr} {apos cpos : Pos} {td ty tx : TE}
end
section
variable {X : Cx} {pins : List (Addr × Obj)} {σ : St} {H : Hp} {s : Shared} {a : Addr} {kvs : List (Key × V)} {A : Around} {E : Value → Shared → Prop}
end
section
variable {X : Cx} {pins : List (Addr × Obj)} {σ : St} {H : Hp} {s : Shared} {a : Addr} {y : V} {u : Value} {A : Around} {E : Value → Shared → Prop}
end
end L2
section
namespace Bits
open PySem PyProof.Rows
end Bits
end
namespace Att
open PySem PySem.W PySem.Calls PyProof.Rows
section
variable {prog : Program} {w : World} {A : Around} {E : Value → Shared → Prop} {s : Shared} {K : Frag}
end
end Att
namespace L2
open PySem PySem.Spec PyProof.Rows
end L2
namespace L2
open PySem PySem.Spec PyProof.Rows
end L2
namespace L2
open PySem PySem.Spec PyProof.Rows
def inClass (s : Stmt) (j : Nat) : Stmt := match s with
  | .ClassDef _ _ _ body _ _ _ _ _ _ _ => body.getD j (.Pass ⟨0, 0, 0, 0⟩)
  | _ => .Pass ⟨0, 0, 0, 0⟩
def defArgs (s : Stmt) : Arguments := match s with
  | .FunctionDef _ a _ _ _ _ _ _ _ _ => a
  | _ => { posonlyargs := [], args := [], vararg := none, kwonlyargs := [], kw_defaults := [], kwarg := none, defaults := [] }
def defBody (s : Stmt) : List Stmt := match s with
  | .FunctionDef _ _ b _ _ _ _ _ _ _ => b
  | _ => []
def defScope (s : Stmt) : Scope := match s with
  | .FunctionDef _ _ _ _ _ _ sc _ _ _ => sc
  | _ => { kind := .function, names := [], isGenerator := false, isCoroutine := false }
abbrev CX0 : CXT := fun _ _ _ _ _ _ => False
abbrev E0 : XK := fun _ _ _ => False
theorem pass0 {X : Cx} : Passes CX0 X E0 := fun _ _ _ _ _ _ _ h => h.elim
structure Fun (K : PySem.W.Frag) (x qual : Str) (st : Stmt) (f : Addr) (fd : FuncData) : Prop where
  ex : ∃ (oc : Value) (od : Option Addr) (kV doc pm : Value) (an : Option Addr) (cdv ct : Value) (osl : Array (Option Value)),
    fd = PySem.W.fnOf x qual (defArgs st) (defBody st) (defScope st) .none kV doc pm an cdv ct ∧ K.lookup f = some ⟨oc, od, .func fd, osl⟩ ∧ PySem.W.codeIn K cdv qual = true
  kp : PySem.W.keepIn K (.ref f) = true
section
variable {P : Program} {w : World} {K : PySem.W.Frag} {mg : Str → Option Value} {base : Heap}
theorem Fun.ok {x qual : Str} {st : Stmt} {f : Addr} {fd : FuncData} {N ps : List Str} {k : Nat} {sp : Sp} (F : Fun K x qual st f fd) (S : FnScope N ps (defScope st)) (len : ∀ vs H Q E, sp vs H Q E → vs.length = ps.length)
    (hbody : ∀ (cdv : Value) (A : Around) (outer : List Env) (s : Shared) (H : Hp) (vs : List V) (Q : VK) (E : XK), Room k (A.deeper (envOfC qual (defScope st) s.heap.objs.size f cdv)) → sp vs H Q E →
      ∃ t, PSs (cxOf CX0 P w K mg base N qual (defScope st) f cdv A outer s H E).nox (defBody st) t ∧ t { nx := fun _ H' => Q .non H', rt := Q } (start N vs) H) : FnOk P w K mg base CX0 (k + 1) f fd ps sp := by
  obtain ⟨oc, od, kV, doc, pm, an, cdv, ct, osl, rfl, lk, hcd⟩ := F.ex
  refine fn_of lk hcd S len fun A outer s H vs Q E hr hsp => ?_
  obtain ⟨t, h, q⟩ := hbody cdv A outer s H vs Q E hr hsp
  exact ⟨t, h.nox, q⟩
theorem Fun.binds {x qual : Str} {st : Stmt} {f : Addr} {fd : FuncData} {ps : List Str} (F : Fun K x qual st f fd)
    (h : ∀ (kV doc pm : Value) (an : Option Addr) (cdv ct : Value) (us : List Value), us.length = ps.length → bindArgs (PySem.W.fnOf x qual (defArgs st) (defBody st) (defScope st) .none kV doc pm an cdv ct) ⟨us, []⟩ = pure (ps.zip us)) : Binds K fd ps [] := by
  obtain ⟨oc, od, kV, doc, pm, an, cdv, ct, osl, rfl, lk, hcd⟩ := F.ex
  exact .all (h kV doc pm an cdv ct)
theorem fun_mk {x qual : Str} {st : Stmt} {f : Addr} {oc : Value} {od an : Option Addr} {osl : Array (Option Value)} {kV doc pm cdv ct : Value} (l : K.lookup f = some ⟨oc, od, .func (PySem.W.fnOf x qual (defArgs st) (defBody st) (defScope st) .none kV doc pm an cdv ct), osl⟩)
    (c : PySem.W.codeIn K cdv qual = true) (k : PySem.W.keepIn K (.ref f) = true) : Fun K x qual st f (PySem.W.fnOf x qual (defArgs st) (defBody st) (defScope st) .none kV doc pm an cdv ct) := ⟨⟨oc, od, kV, doc, pm, an, cdv, ct, osl, rfl, l, c⟩, k⟩
end
theorem hu_of {A : Around} {k : Nat} (hr : Room k A) : A.units + 1 < cLine := Nat.lt_of_le_of_lt (Nat.add_le_add_left (by decide : 1 ≤ 64) _) hr.units
section
variable {X : Cx}
theorem pv (i : Nat) {x : Str} {pos : Pos} (hN : X.N[i]? = some x := by rfl) (hv : Vis X.env.scope x := by first | exact Or.inl rfl | exact Or.inr (Or.inl rfl) | exact Or.inr (Or.inr rfl)) (hd : (x == ("__debug__" : Str)) = false := by decide)
    (hcd : (x == ("__classdict__" : Str)) = false := by decide) : PE X (.Name x pos) (tVar i) := pe_var hN hv hd hcd
theorem call_lenD : CallR X (.builtin "len") (fun xs H Q => ∃ a kvs, xs = [V.ref a] ∧ H a = some (.dK kvs) ∧ Q (.int kvs.length) H) := by
  intro pins s σ H xs us Q I r h
  obtain ⟨a, kvs, rfl, ha, q⟩ := h
  obtain ⟨u, rfl, ru⟩ := vals1 r
  cases ru
  exact d_len I (.inl ha) fun t s' I' => ⟨.int kvs.length, H, I', ⟨t, rfl⟩, q⟩
end
theorem iteF {A B : Prop} (h : B) : if false = true then A else B := by
  rw [if_neg Bool.false_ne_true]
  exact h
theorem iteT {A B : Prop} (h : A) : if true = true then A else B := by
  rw [if_pos rfl]
  exact h
theorem ite2 {c A B : Prop} [Decidable c] (h1 : c → A) (h2 : ¬ c → B) : if c then A else B := by
  by_cases h : c
  · rw [if_pos h]
    exact h1 h
  · rw [if_neg h]
    exact h2 h
def Same (H H' : Hp) : Prop := ∀ b o, H b = some o → H' b = some o
theorem Same.trans {H H1 H2 : Hp} (a : Same H H1) (b : Same H1 H2) : Same H H2 := fun c o h => b c o (a c o h)
theorem Same.free {H H' : Hp} (e : Same H H') {l : Addr} (h : H' l = Option.none) : H l = Option.none := by
  cases q : H l with
  | none => rfl
  | some o =>
    rw [e l o q] at h
    cases h
theorem Same.seq {K : PySem.W.Frag} {H H' : Hp} {a : Addr} {xs : List V} (e : Same H H') (h : SqL K H a xs) : SqL K H' a xs := by
  rcases h with (h | ⟨o, h⟩) | h
  · exact .inl (.inl (e _ _ h))
  · exact .inl (.inr ⟨o, e _ _ h⟩)
  · exact .inr h
section
variable {κ : Type} [DecidableEq κ]
end
theorem at_of {xs : List V} {z : Int} {j : Nat} {v : V} (e : z = (j : Int)) (h : xs[j]? = some v) : atI xs z = some v := by
  rw [e]
  exact atI_nat h
theorem sum_take : ∀ {l : List Int} {i : Nat} {z : Int}, l[i]? = some z → (l.take (i + 1)).sum = (l.take i).sum + z
  | [], i, z, h => by simp at h
  | a :: r, 0, z, h => by
    have e : a = z := Option.some.inj h
    subst e
    show ([a] : List Int).sum = ([] : List Int).sum + a
    rw [List.sum_cons]
    exact Int.add_comm _ _
  | a :: r, i + 1, z, h => by
    have ih := sum_take (l := r) (i := i) (z := z) h
    show (a :: r.take (i + 1)).sum = (a :: r.take i).sum + z
    rw [List.sum_cons, List.sum_cons, ih]
    omega
end L2
end
section
set_option Elab.async false
set_option linter.all false
set_option maxRecDepth 100000
set_option maxHeartbeats 2000000
namespace L2
open PySem PySem.Spec PyProof.Rows
open PySem.W (WData Codec OpenSpec Well WellAll ReadsW ReadsAllW)
mutual
inductive Dw (K : PySem.W.Frag) (H : Hp) : V → WData → Prop
  | non : Dw K H .non .none
  | bl (b : Bool) : Dw K H (.bl b) (.bool b)
  | int (i : Int) : Dw K H (.int i) (.int i)
  | str (x : Str) : Dw K H (.str x) (.str x)
  | byt (b : Array UInt8) : Dw K H (.byt b) (.bytes b.toList)
  | lst {a : Addr} {xs : List V} {ds : List WData} : SqL K H a xs → DwAll K H xs ds → Dw K H (.ref a) (.list ds)
  | tup {a : Addr} {xs : List V} {ds : List WData} : SqT K H a xs → DwAll K H xs ds → Dw K H (.ref a) (.tuple ds)
inductive DwAll (K : PySem.W.Frag) (H : Hp) : List V → List WData → Prop
  | nil : DwAll K H [] []
  | cons {v : V} {vs : List V} {d : WData} {ds : List WData} : Dw K H v d → DwAll K H vs ds → DwAll K H (v :: vs) (d :: ds)
end
theorem dw_ints {K : PySem.W.Frag} {H : Hp} : ∀ ns : List Int, DwAll K H (ns.map V.int) (ns.map WData.int)
  | [] => .nil
  | n :: r => .cons (.int n) (dw_ints r)
theorem ints_dw {K : PySem.W.Frag} {H : Hp} : ∀ (ns : List Int) (xs : List V), DwAll K H xs (ns.map WData.int) → xs = ns.map V.int
  | [], xs, h => by
    cases h
    rfl
  | n :: r, xs, h => by
    cases h with
    | cons h1 h2 =>
      cases h1
      rw [ints_dw r _ h2] <;> rfl
section
variable {P : Program} {w : World} {K : PySem.W.Frag} {H : Hp} {h : Heap} {R : PySem.W.WRecords} {cl : Str → Option Addr}
theorem sqL_at {a : Addr} {xs : List V} (hok : HOk P w H h) (KX : K.In h) (q : SqL K H a xs) : ∃ (its : List Value) (o : Obj) (n : Nat), Vals xs its ∧ h.get? a = some o ∧ o.cls = .type "list" ∧ o.data = .seq its.toArray n := by
  rcases q with q | ⟨o, its, n, e, hc, _, hd, _, hv⟩
  · obtain ⟨_, its, n, hv, e⟩ := (show ObjOk P w H h a (.lst xs) from q.ok hok)
    exact ⟨its, _, n, hv, e, rfl, rfl⟩
  · exact ⟨its.toList, o, n, hv, KX _ _ e, hc, by simp [hd]⟩
theorem sqT_at {a : Addr} {xs : List V} (hok : HOk P w H h) (KX : K.In h) (q : SqT K H a xs) : ∃ (its : List Value) (o : Obj) (n : Nat), Vals xs its ∧ h.get? a = some o ∧ o.cls = .type "tuple" ∧ o.data = .seq its.toArray n := by
  rcases q with q | ⟨o, its, n, e, hc, hd, _, hv⟩
  · obtain ⟨_, its, hv, o, e, hc, n, hd⟩ := (show ObjOk P w H h a (.tup xs) from q.ok hok)
    exact ⟨its, o, n, hv, e, hc, hd⟩
  · exact ⟨its.toList, o, n, hv, KX _ _ e, hc, by simp [hd]⟩
mutual
theorem Dw.reads (hok : HOk P w H h) (KX : K.In h) : ∀ (d : WData) (v : V) (u : Value), Dw K H v d → RelV v u → ∃ as, ReadsW R cl h u d as
  | .none, _, _, x, r => by
    cases x
    cases r
    exact ⟨_, ReadsW.none⟩
  | .bool b, _, _, x, r => by
    cases x
    cases r
    exact ⟨_, ReadsW.bool b⟩
  | .int i, _, _, x, r => by
    cases x
    obtain ⟨t, rfl⟩ := r
    exact ⟨_, ReadsW.int i t⟩
  | .str s, _, _, x, r => by
    cases x
    obtain ⟨t, rfl⟩ := r
    exact ⟨_, ReadsW.str s t⟩
  | .bytes b, _, _, x, r => by
    cases x
    obtain ⟨t, rfl⟩ := r
    exact ⟨_, ReadsW.bytes _ t⟩
  | .list ds, _, _, x, r => by
    cases x with
    | lst hs ha =>
      cases r
      obtain ⟨its, o, n, rv, ho, hc, hd⟩ := sqL_at hok KX hs
      obtain ⟨as, hr⟩ := Dw.readsAll hok KX ds _ its ha rv
      exact ⟨_, ReadsW.list ho hc hd hr⟩
  | .tuple ds, _, _, x, r => by
    cases x with
    | tup hs ha =>
      cases r
      obtain ⟨its, o, n, rv, ho, hc, hd⟩ := sqT_at hok KX hs
      obtain ⟨as, hr⟩ := Dw.readsAll hok KX ds _ its ha rv
      exact ⟨_, ReadsW.tuple ho hc hd hr⟩
  | .float _, _, _, x, _ => by cases x
  | .dict _, _, _, x, _ => by cases x
  | .bytearray _, _, _, x, _ => by cases x
  | .set _, _, _, x, _ => by cases x
  | .frozenset _, _, _, x, _ => by cases x
  | .obj _ _, _, _, x, _ => by cases x
theorem Dw.readsAll (hok : HOk P w H h) (KX : K.In h) : ∀ (ds : List WData) (vs : List V) (us : List Value), DwAll K H vs ds → Vals vs us → ∃ as, ReadsAllW R cl h us ds as
  | [], _, _, x, r => by
    cases x
    cases r
    exact ⟨_, ReadsAllW.nil⟩
  | d :: ds, _, _, x, r => by
    cases x with
    | cons h1 h2 =>
      cases r with
      | cons r1 r2 =>
        obtain ⟨as, q1⟩ := Dw.reads hok KX d _ _ h1 r1
        obtain ⟨bs, q2⟩ := Dw.readsAll hok KX ds _ _ h2 r2
        exact ⟨_, ReadsAllW.cons q1 q2⟩
end
end
mutual
def plW : WData → Bool
  | .none => true
  | .bool _ => true
  | .int _ => true
  | .str _ => true
  | .bytes _ => true
  | .list xs => plWs xs
  | .tuple xs => plWs xs
  | _ => false
def plWs : List WData → Bool
  | [] => true
  | x :: r => plW x && plWs r
end
theorem plWs_map {α : Type} {f : α → WData} (h : ∀ a, plW (f a) = true) : ∀ l : List α, plWs (l.map f) = true
  | [] => rfl
  | x :: r => by
    show (plW (f x) && plWs (r.map f)) = true
    rw [h x, plWs_map h r] <;> rfl
theorem pl_enc : ∀ (c : Codec) (a : c.denote), plW (c.enc a) = true
  | .unit, _ => rfl
  | .bool, _ => rfl
  | .int _ _, _ => rfl
  | .nat _ _, _ => rfl
  | .u8, _ => rfl
  | .bytes _ _, _ => rfl
  | .text _ _ _ _, _ => rfl
  | .list _ _ c, a => plWs_map (fun x => pl_enc c x) a
  | .pair c d, a => by
    show (plW (c.enc a.1) && (plW (d.enc a.2) && true)) = true
    rw [pl_enc c a.1, pl_enc d a.2] <;> rfl
  | .triple c d e, a => by
    show (plW (c.enc a.1) && (plW (d.enc a.2.1) && (plW (e.enc a.2.2) && true))) = true
    rw [pl_enc c a.1, pl_enc d a.2.1, pl_enc e a.2.2] <;> rfl
  | .option c, none => rfl
  | .option c, some x => pl_enc c x
theorem pl_encAll : ∀ (cs : List Codec) (a : Codec.denoteAll cs), plWs (Codec.encAll cs a) = true
  | [], _ => rfl
  | c :: cs, a => by
    show (plW (c.enc a.1) && plWs (Codec.encAll cs a.2)) = true
    rw [pl_enc c a.1, pl_encAll cs a.2] <;> rfl
theorem weight_mem : ∀ {xs : List WData} {d : WData}, d ∈ xs → d.weight ≤ WData.weightAll xs
  | [], d, h => absurd h (by simp)
  | x :: r, d, h => by
    show d.weight ≤ x.weight + 1 + WData.weightAll r
    rcases List.mem_cons.mp h with e | m
    · rw [e]
      omega
    · have z := weight_mem m
      omega
def toV : Value → V
  | .none => .non
  | .bool b => .bl b
  | .int i _ => .int i
  | .str x _ => .str x
  | .bytes b _ => .byt b
  | .ref a => .ref a
  | _ => .non
def OkU (A : List Addr) : Value → Prop
  | .none => True
  | .bool _ => True
  | .int _ _ => True
  | .str _ _ => True
  | .bytes _ _ => True
  | .ref a => a ∈ A
  | _ => False
theorem OkU.mono {A B : List Addr} (h : ∀ a ∈ A, a ∈ B) : ∀ {u : Value}, OkU A u → OkU B u := fun {u} x => by
  cases u with
  | ref a => exact h a x
  | none => trivial
  | bool b => trivial
  | int i t => trivial
  | str s t => trivial
  | bytes b t => trivial
  | _ => exact False.elim x
theorem relV_toV {A : List Addr} {u : Value} (x : OkU A u) : RelV (toV u) u := by
  cases u with
  | ref a => rfl
  | none => rfl
  | bool b => rfl
  | int i t => exact ⟨t, rfl⟩
  | str s t => exact ⟨t, rfl⟩
  | bytes b t => exact ⟨t, rfl⟩
  | _ => exact False.elim x
theorem vals_toV {A : List Addr} : ∀ {vs : List Value}, (∀ u ∈ vs, OkU A u) → Vals (vs.map toV) vs
  | [], _ => .nil
  | u :: r, h => .cons (relV_toV (h u (List.mem_cons_self ..))) (vals_toV fun x hx => h x (List.mem_cons_of_mem _ hx))
def ArgOb (h : Heap) (A : List Addr) (a : Addr) : Prop := ∃ vs : List Value, vs.length ≤ sizeLine ∧ (∀ u ∈ vs, OkU A u) ∧
  (h.get? a = some { cls := .type "list", data := .seq vs.toArray } ∨ h.get? a = some { cls := .type "tuple", data := .seq vs.toArray })
theorem ArgOb.mono {h : Heap} {A B : List Addr} {a : Addr} (k : ∀ a ∈ A, a ∈ B) (x : ArgOb h A a) : ArgOb h B a := by
  obtain ⟨vs, h1, h2, h3⟩ := x
  exact ⟨vs, h1, fun u hu => (h2 u hu).mono k, h3⟩
theorem wellAll_len {P : Params} {h : Heap} : ∀ {vs : List Value} {ds : List WData}, WellAll P h vs ds → vs.length = ds.length
  | _, _, .nil => rfl
  | _, _, .cons _ b => by
    show _ + 1 = _ + 1
    rw [wellAll_len b]
theorem well_list {P : Params} {h : Heap} {v : Value} {ds : List WData} (x : Well P h v (.list ds)) : ∃ (a : Addr) (vs : List Value), v = .ref a ∧ h.get? a = some { cls := .type "list", data := .seq vs.toArray } ∧ WellAll P h vs ds := by
  cases x with
  | list ho hall => exact ⟨_, _, rfl, ho, hall⟩
theorem well_tuple {P : Params} {h : Heap} {v : Value} {ds : List WData} (x : Well P h v (.tuple ds)) : ∃ (a : Addr) (vs : List Value), v = .ref a ∧ h.get? a = some { cls := .type "tuple", data := .seq vs.toArray } ∧ WellAll P h vs ds := by
  cases x with
  | tuple ho hall => exact ⟨_, _, rfl, ho, hall⟩
theorem well_cons {P : Params} {h : Heap} {us : List Value} {d : WData} {ds : List WData} (x : WellAll P h us (d :: ds)) : ∃ (v : Value) (vs : List Value), us = v :: vs ∧ Well P h v d ∧ WellAll P h vs ds := by
  cases x with
  | cons a b => exact ⟨_, _, rfl, a, b⟩
theorem line_of {n : Nat} (h : n ≤ 1048576) : n ≤ sizeLine := Nat.le_trans h (by decide)
section
variable {P : Params} {h : Heap}
mutual
theorem area_one : ∀ (d : WData) (v : Value), Well P h v d → plW d = true → d.weight ≤ 1048576 → ∃ A : List Addr, OkU A v ∧ ∀ a ∈ A, ArgOb h A a
  | .none, _, x, _, _ => by
    cases x
    exact ⟨[], trivial, fun a m => absurd m (by simp)⟩
  | .bool b, _, x, _, _ => by
    cases x
    exact ⟨[], trivial, fun a m => absurd m (by simp)⟩
  | .int i, _, x, _, _ => by
    cases x
    exact ⟨[], trivial, fun a m => absurd m (by simp)⟩
  | .str s, _, x, _, _ => by
    cases x
    exact ⟨[], trivial, fun a m => absurd m (by simp)⟩
  | .bytes b, _, x, _, _ => by
    cases x
    exact ⟨[], trivial, fun a m => absurd m (by simp)⟩
  | .list ds, _, x, p, z => by
    obtain ⟨a, vs, rfl, ho, hall⟩ := well_list x
    have z2 : WData.weightAll ds ≤ 1048576 := z
    obtain ⟨A, h1, h2⟩ := area_all ds _ hall p fun d hd => Nat.le_trans (weight_mem hd) z2
    have k : ∀ b ∈ A, b ∈ a :: A := fun b hb => List.mem_cons_of_mem _ hb
    refine ⟨a :: A, List.mem_cons_self .., fun b hb => ?_⟩
    rcases List.mem_cons.mp hb with e | m
    · rw [e]
      exact ⟨vs, line_of (by rw [wellAll_len hall]; exact Nat.le_trans (PySem.W.length_le_weightAllW ds) z2), fun u hu => (h1 u hu).mono k, .inl ho⟩
    · exact (h2 b m).mono k
  | .tuple ds, _, x, p, z => by
    obtain ⟨a, vs, rfl, ho, hall⟩ := well_tuple x
    have z2 : WData.weightAll ds ≤ 1048576 := z
    obtain ⟨A, h1, h2⟩ := area_all ds _ hall p fun d hd => Nat.le_trans (weight_mem hd) z2
    have k : ∀ b ∈ A, b ∈ a :: A := fun b hb => List.mem_cons_of_mem _ hb
    refine ⟨a :: A, List.mem_cons_self .., fun b hb => ?_⟩
    rcases List.mem_cons.mp hb with e | m
    · rw [e]
      exact ⟨vs, line_of (by rw [wellAll_len hall]; exact Nat.le_trans (PySem.W.length_le_weightAllW ds) z2), fun u hu => (h1 u hu).mono k, .inr ho⟩
    · exact (h2 b m).mono k
  | .float _, _, _, p, _ => Bool.noConfusion (show false = true from p)
  | .dict _, _, _, p, _ => Bool.noConfusion (show false = true from p)
  | .bytearray _, _, _, p, _ => Bool.noConfusion (show false = true from p)
  | .set _, _, _, p, _ => Bool.noConfusion (show false = true from p)
  | .frozenset _, _, _, p, _ => Bool.noConfusion (show false = true from p)
  | .obj _ _, _, _, p, _ => Bool.noConfusion (show false = true from p)
theorem area_all : ∀ (ds : List WData) (vs : List Value), WellAll P h vs ds → plWs ds = true → (∀ d ∈ ds, d.weight ≤ 1048576) → ∃ A : List Addr, (∀ u ∈ vs, OkU A u) ∧ ∀ a ∈ A, ArgOb h A a
  | [], _, x, _, _ => by
    cases x
    exact ⟨[], fun u m => absurd m (by simp), fun a m => absurd m (by simp)⟩
  | d :: ds, _, x, p, z => by
    obtain ⟨v, vs, rfl, x1, x2⟩ := well_cons x
    have q : plW d = true ∧ plWs ds = true := Bool.and_eq_true_iff.mp p
    obtain ⟨A, a1, a2⟩ := area_one d v x1 q.1 (z d (List.mem_cons_self ..))
    obtain ⟨B, b1, b2⟩ := area_all ds vs x2 q.2 fun e he => z e (List.mem_cons_of_mem _ he)
    have kA : ∀ b ∈ A, b ∈ A ++ B := fun b hb => List.mem_append.mpr (.inl hb)
    have kB : ∀ b ∈ B, b ∈ A ++ B := fun b hb => List.mem_append.mpr (.inr hb)
    refine ⟨A ++ B, fun u hu => ?_, fun b hb => ?_⟩
    · rcases List.mem_cons.mp hu with e | m
      · rw [e]
        exact a1.mono kA
      · exact (b1 u m).mono kB
    · rcases List.mem_append.mp hb with m | m
      · exact (a2 b m).mono kA
      · exact (b2 b m).mono kB
end
end
def hoOf (o : Obj) : Option HO := match o.data with
  | .seq vs _ => if (o.cls == Value.type "list") = true then some (.frz o (.lst (vs.toList.map toV))) else some (.frz o (.tup (vs.toList.map toV)))
  | _ => none
def argH (K : PySem.W.Frag) (h : Heap) (A : List Addr) : Hp := fun b => if b ∈ A then (if (K.lookup b).isNone = true then (h.get? b).bind hoOf else none) else none
def OnlyF (H : Hp) : Prop := ∀ b, H b = none ∨ ∃ o u, H b = some (.frz o u)
theorem hoOf_lst (vs : List Value) : hoOf { cls := .type "list", data := .seq vs.toArray } = some (.frz { cls := .type "list", data := .seq vs.toArray } (.lst (vs.map toV))) := by
  show (if (Value.type "list" == Value.type "list") = true then some (HO.frz { cls := .type "list", data := .seq vs.toArray } (.lst (vs.toArray.toList.map toV))) else some (HO.frz { cls := .type "list", data := .seq vs.toArray } (.tup (vs.toArray.toList.map toV)))) = _
  rw [if_pos (beq_self_eq_true _)]
theorem hoOf_tup (vs : List Value) : hoOf { cls := .type "tuple", data := .seq vs.toArray } = some (.frz { cls := .type "tuple", data := .seq vs.toArray } (.tup (vs.map toV))) := by
  show (if (Value.type "tuple" == Value.type "list") = true then some (HO.frz { cls := .type "tuple", data := .seq vs.toArray } (.lst (vs.toArray.toList.map toV))) else some (HO.frz { cls := .type "tuple", data := .seq vs.toArray } (.tup (vs.toArray.toList.map toV)))) = _
  rw [if_neg (by decide)]
section
variable {P : Program} {w : World} {K : PySem.W.Frag} {h : Heap} {A : List Addr}
theorem argH_at {b : Addr} {o : Obj} (hb : b ∈ A) (hk : K.lookup b = none) (e : h.get? b = some o) : argH K h A b = hoOf o := by
  unfold argH
  rw [if_pos hb, hk, if_pos (show (none : Option Obj).isNone = true from rfl), e] <;> rfl
theorem of_argH {b : Addr} {u : HO} (q : argH K h A b = some u) : b ∈ A ∧ K.lookup b = none := by
  unfold argH at q
  by_cases hb : b ∈ A
  · rw [if_pos hb] at q
    cases hk : K.lookup b with
    | none => exact ⟨hb, rfl⟩
    | some o =>
      rw [hk, if_neg (by simp)] at q
      cases q
  · rw [if_neg hb] at q
    cases q
theorem argH_is (ar : ∀ a ∈ A, ArgOb h A a) {b : Addr} {u : HO} (q : argH K h A b = some u) : K.lookup b = none ∧ ∃ vs : List Value, vs.length ≤ sizeLine ∧ (∀ u ∈ vs, OkU A u) ∧
    ((h.get? b = some { cls := .type "list", data := .seq vs.toArray } ∧ u = .frz { cls := .type "list", data := .seq vs.toArray } (.lst (vs.map toV))) ∨
     (h.get? b = some { cls := .type "tuple", data := .seq vs.toArray } ∧ u = .frz { cls := .type "tuple", data := .seq vs.toArray } (.tup (vs.map toV)))) := by
  obtain ⟨hb, hk⟩ := of_argH q
  obtain ⟨vs, h1, h2, h3⟩ := ar b hb
  refine ⟨hk, vs, h1, h2, ?_⟩
  rcases h3 with e | e
  · rw [argH_at hb hk e, hoOf_lst] at q
    exact .inl ⟨e, (Option.some.inj q).symm⟩
  · rw [argH_at hb hk e, hoOf_tup] at q
    exact .inr ⟨e, (Option.some.inj q).symm⟩
theorem argH_only (ar : ∀ a ∈ A, ArgOb h A a) : OnlyF (argH K h A) := fun b => by
  cases q : argH K h A b with
  | none => exact .inl rfl
  | some u =>
    obtain ⟨_, vs, _, _, ⟨_, e⟩ | ⟨_, e⟩⟩ := argH_is ar q
    · exact .inr ⟨_, _, by rw [e]⟩
    · exact .inr ⟨_, _, by rw [e]⟩
theorem argH_ok (ar : ∀ a ∈ A, ArgOb h A a) : HOk P w (argH K h A) h := fun b u q => by
  obtain ⟨_, vs, h1, h2, ⟨e, rfl⟩ | ⟨e, rfl⟩⟩ := argH_is ar q
  · exact ⟨e, by rw [List.length_map]; exact h1, vs, _, vals_toV h2, e⟩
  · exact ⟨e, by rw [List.length_map]; exact h1, vs, vals_toV h2, _, e, rfl, _, rfl⟩
theorem seq_inj {c c' : Value} {vs us : List Value} (e : (some { cls := c, data := .seq vs.toArray } : Option Obj) = some { cls := c', data := .seq us.toArray }) : c = c' ∧ vs = us := by
  have e1 := Option.some.inj e
  have e2 : c = c' := congrArg Obj.cls e1
  have e3 : Data.seq vs.toArray = Data.seq us.toArray := congrArg Obj.data e1
  injection e3 with e4
  refine ⟨e2, ?_⟩
  have e5 := congrArg Array.toList e4
  simpa using e5
theorem argL (KX : K.In h) (ar : ∀ a ∈ A, ArgOb h A a) {a : Addr} {vs : List Value} (ha : a ∈ A) (e : h.get? a = some { cls := .type "list", data := .seq vs.toArray }) : (∀ u ∈ vs, OkU A u) ∧ SqL K (argH K h A) a (vs.map toV) := by
  obtain ⟨us, h1, h2, h3⟩ := ar a ha
  have hu : us = vs := by
    rcases h3 with q | q
    · rw [e] at q
      exact (seq_inj q).2.symm
    · rw [e] at q
      exact absurd (Value.type.inj (seq_inj q).1) (by decide)
  subst hu
  refine ⟨h2, ?_⟩
  cases hk : K.lookup a with
  | none => exact .inl (.inr ⟨_, by rw [argH_at ha hk e, hoOf_lst]⟩)
  | some o =>
    have e2 := KX a o hk
    rw [e] at e2
    obtain rfl := Option.some.inj e2
    exact .inr ⟨_, us.toArray, _, hk, rfl, rfl, rfl, by rw [List.size_toArray]; exact h1, by simpa using vals_toV h2⟩
theorem argT (KX : K.In h) (ar : ∀ a ∈ A, ArgOb h A a) {a : Addr} {vs : List Value} (ha : a ∈ A) (e : h.get? a = some { cls := .type "tuple", data := .seq vs.toArray }) : (∀ u ∈ vs, OkU A u) ∧ SqT K (argH K h A) a (vs.map toV) := by
  obtain ⟨us, h1, h2, h3⟩ := ar a ha
  have hu : us = vs := by
    rcases h3 with q | q
    · rw [e] at q
      exact absurd (Value.type.inj (seq_inj q).1) (by decide)
    · rw [e] at q
      exact (seq_inj q).2.symm
  subst hu
  refine ⟨h2, ?_⟩
  cases hk : K.lookup a with
  | none => exact .inl (.inr ⟨_, by rw [argH_at ha hk e, hoOf_tup]⟩)
  | some o =>
    have e2 := KX a o hk
    rw [e] at e2
    obtain rfl := Option.some.inj e2
    exact .inr ⟨_, us.toArray, _, hk, rfl, rfl, by rw [List.size_toArray]; exact h1, by simpa using vals_toV h2⟩
mutual
theorem dw_one {Pm : Params} (KX : K.In h) (ar : ∀ a ∈ A, ArgOb h A a) : ∀ (d : WData) (v : Value), Well Pm h v d → plW d = true → OkU A v → Dw K (argH K h A) (toV v) d
  | .none, _, x, _, _ => by
    cases x
    exact .non
  | .bool b, _, x, _, _ => by
    cases x
    exact .bl b
  | .int i, _, x, _, _ => by
    cases x
    exact .int i
  | .str s, _, x, _, _ => by
    cases x
    exact .str s
  | .bytes b, _, x, _, _ => by
    cases x
    have z := Dw.byt (K := K) (H := argH K h A) b.toArray
    exact z
  | .list ds, _, x, p, hu => by
    obtain ⟨a, vs, rfl, ho, hall⟩ := well_list x
    obtain ⟨h2, hs⟩ := argL KX ar hu ho
    exact .lst hs (dw_all KX ar ds _ hall p h2)
  | .tuple ds, _, x, p, hu => by
    obtain ⟨a, vs, rfl, ho, hall⟩ := well_tuple x
    obtain ⟨h2, hs⟩ := argT KX ar hu ho
    exact .tup hs (dw_all KX ar ds _ hall p h2)
  | .float _, _, _, p, _ => Bool.noConfusion (show false = true from p)
  | .dict _, _, _, p, _ => Bool.noConfusion (show false = true from p)
  | .bytearray _, _, _, p, _ => Bool.noConfusion (show false = true from p)
  | .set _, _, _, p, _ => Bool.noConfusion (show false = true from p)
  | .frozenset _, _, _, p, _ => Bool.noConfusion (show false = true from p)
  | .obj _ _, _, _, p, _ => Bool.noConfusion (show false = true from p)
theorem dw_all {Pm : Params} (KX : K.In h) (ar : ∀ a ∈ A, ArgOb h A a) : ∀ (ds : List WData) (vs : List Value), WellAll Pm h vs ds → plWs ds = true → (∀ u ∈ vs, OkU A u) → DwAll K (argH K h A) (vs.map toV) ds
  | [], _, x, _, _ => by
    cases x
    exact .nil
  | d :: ds, _, x, p, hu => by
    obtain ⟨v, vs, rfl, x1, x2⟩ := well_cons x
    have q : plW d = true ∧ plWs ds = true := Bool.and_eq_true_iff.mp p
    exact .cons (dw_one KX ar d v x1 q.1 (hu _ (List.mem_cons_self ..))) (dw_all KX ar ds vs x2 q.2 fun u m => hu u (List.mem_cons_of_mem _ m))
end
end
theorem spec_call {P : Program} {w : World} {K : PySem.W.Frag} {mg mb : Str → Option Value} {CX : CXT} {k : Nat} {fa : Addr} {fd : FuncData} {ps : List Str} {sp : Sp} {s₁ : Shared} {vals : List Value} {ds : List WData} {R : PySem.W.WRecords} {cl : Str → Option Addr} {d0 : WData}
    (KX : K.In s₁.heap) (hns : s₁.heap.Ns mainGlobals mg) (hb : s₁.heap.Ns builtinsNs mb) (hbb : ∀ x : Str, x ≠ "__name__" → mb x = bootBuiltins x) (hlim : s₁.heap.NoLimit) (hg : s₁.gens = #[])
    (hwl : WellAll w.params s₁.heap vals ds) (hpl : plWs ds = true) (hwt : ∀ d ∈ ds, d.weight ≤ 1048576) (hr : Room k callerA)
    (F : ∀ base : Heap, K.In base → base.Ns mainGlobals mg → FnOk P w K mg base CX k fa fd ps sp) (hbind : ∀ (s : Shared) (us : List Value), us.length = ps.length → BindsTo s fd ⟨us, []⟩ (ps.zip us)) (hlen : ds.length = ps.length)
    (hsp : ∀ (H : Hp) (xs : List V), OnlyF H → DwAll K H xs ds → sp xs H (fun v H' => Dw K H' v d0) fun _ _ _ => False)
    (hCX : ∀ H e s', CX [] H s₁ (fun _ _ _ => False) e s' → False) :
    codeAny (model P w) callerA (.call (.ref fa) ⟨vals, []⟩) (fun r s' => ∃ u as, r = .ok (.ret u) ∧ ReadsW R cl s'.heap u d0 as ∧ OldK s₁.heap s'.heap ∧ s'.os = s₁.os ∧ AllBare s'.gens) s₁ := by
  obtain ⟨A, ho, ar⟩ := area_all ds vals hwl hpl hwt
  have hO : OnlyF (argH K s₁.heap A) := argH_only ar
  have hok : HOk P w (argH K s₁.heap A) s₁.heap := argH_ok ar
  have hS := dw_all KX ar ds vals hwl hpl ho
  have hV := vals_toV ho
  have hK : ∀ b u, argH K s₁.heap A b = some u → K.lookup b = none := fun b u q => (argH_is ar q).1
  have noA : ∀ {b : Addr} {o : Obj} {es : Array DictEntry} {ep : Nat}, s₁.heap.get? b = some o → o.data = .dict es ep → argH K s₁.heap A b = none := fun {b o es ep} e d => by
    cases q : argH K s₁.heap A b with
    | none => rfl
    | some u =>
      obtain ⟨_, vs, _, _, ⟨e2, _⟩ | ⟨e2, _⟩⟩ := argH_is ar q
      · rw [e2] at e
        cases e
        have d' : Data.seq vs.toArray _ = Data.dict es ep := d
        cases d'
      · rw [e2] at e
        cases e
        have d' : Data.seq vs.toArray _ = Data.dict es ep := d
        cases d'
  generalize argH K s₁.heap A = H at hO hok hS hK noA
  have base_of : ∀ {b : Addr} {o : Obj}, s₁.heap.get? b = some o → H b = none → (hidT s₁.heap H).get? b = some o := fun e n => hidT_get e n
  have nsK : ∀ {b : Addr} {m : Str → Option Value}, s₁.heap.Ns b m → (hidT s₁.heap H).Ns b m := fun {b m} ⟨o, es, ep, e, d, r⟩ => ⟨o, es, ep, base_of e (noA e d), d, r⟩
  have nK : ∀ b o, K.lookup b = some o → H b = none := fun b o e => by
    cases q : H b with
    | none => rfl
    | some u =>
      rw [hK b u q] at e
      cases e
  have hKb : K.In (hidT s₁.heap H) := fun b o e => base_of (KX b o e) (nK b o e)
  have hM : Mod K mg (hidT s₁.heap H) := ⟨hKb, nsK hns, ⟨mb, nsK hb, hbb⟩, let ⟨mc, h1, h2⟩ := hlim; ⟨mc, nsK h1, h2⟩⟩
  have e0 : Env0 P w K mg (hidT s₁.heap H) callerA [] s₁ H := ⟨rfl, hM, fun b o e => of_hidT e, Nat.le_of_eq (hidT_size _ _), trivial, fun b hb => absurd (show b ∈ ([] : List Addr) from hb) (by simp), hok, .of_eq hg⟩
  have hl : vals.length = ps.length := by rw [wellAll_len hwl]; exact hlen
  refine codeAny_mono ((F _ hKb (nsK hns)).run callerA [] s₁ H ⟨vals, []⟩ vals (vals.map toV) _ _ hr e0 (hbind s₁ vals hl) hV (hsp H _ hO hS)) fun r s' x => ?_
  cases r with
  | error e => exact (hCX H e s' x).elim
  | ok fl =>
    cases fl with
    | next => exact False.elim x
    | brk => exact False.elim x
    | cont => exact False.elim x
    | ret u =>
      obtain ⟨v, H', os, bare, un, hok', r', q⟩ := x
      have kept : ∀ b o, s₁.heap.get? b = some o → s'.heap.get? b = some o := fun b o e => by
        cases q2 : H b with
        | none => exact un.keep b o e q2 (by intro z; exact absurd (show b ∈ ([] : List Addr) from z) (by simp)) (by simp)
        | some u2 =>
          rcases hO b with z | ⟨ob, u3, z⟩
          · rw [q2] at z
            cases z
          · have z2 := un.frzs b ob _ z
            obtain ⟨e1, _⟩ := hok b _ z
            obtain ⟨e2, _⟩ := hok' b _ z2
            rw [e] at e1
            cases e1
            exact e2
      have KX' : K.In s'.heap := fun b o e => kept b o (KX b o e)
      obtain ⟨as, hrd⟩ := Dw.reads (R := R) (cl := cl) hok' KX' d0 v u q r'
      exact ⟨u, as, rfl, hrd, OldK.of_keep kept, os, bare⟩
theorem layable_weight {ds : List WData} (h : WData.layableAll ds = true) : ∀ d ∈ ds, d.weight ≤ 1048576 := fun d hd =>
  (PySem.W.layableW_iff.mp (List.all_eq_true.mp h d hd)).2.2
theorem encAll_len : ∀ (cs : List Codec) (a : Codec.denoteAll cs), (Codec.encAll cs a).length = cs.length
  | [], _ => rfl
  | c :: cs, a => by
    show (Codec.encAll cs a.2).length + 1 = cs.length + 1
    rw [encAll_len cs a.2]
theorem walk_spec {r : OpenSpec} {k : Nat} {q : Program} {loose : List Str} {XP : (Str → Option Value) → Heap → Prop} {YP : World → Heap → Prop} {d : DefRec} {K : Params → PySem.W.Frag} {CX : World → CXT} {ps : List Str} {sp : World → Sp}
    (hwell : r.wellSaid = true) (hdf : d.params.defaults = []) (hlen : r.args.length = ps.length) (hr : Room k callerA)
    (hY : ∀ (w : World) (h : Heap), YP w h → (K w.params).In h)
    (F : ∀ (w : World) (mg : Str → Option Value) (fa : Addr) (h : Heap), YP w h → (K w.params).In h → h.Ns mainGlobals mg → mg d.name = some (.ref fa) →
      ∃ fd : FuncData, (∀ (s : Shared) (us : List Value), us.length = ps.length → BindsTo s fd ⟨us, []⟩ (ps.zip us)) ∧
        ∀ base : Heap, (K w.params).In base → base.Ns mainGlobals mg → FnOk r.prog w (K w.params) mg base (CX w) k fa fd ps (sp w))
    (hsp : ∀ (w : World) (H : Hp) (xs : List V) (a : Codec.denoteAll r.args), OnlyF H → Codec.withinAll r.args a = true → Codec.app r.args r.asked a = true → DwAll (K w.params) H xs (Codec.encAll r.args a) →
      sp w xs H (fun v H' => Dw (K w.params) H' v (r.ret.enc (Codec.app r.args r.f a))) fun _ _ _ => False)
    (hCX : ∀ (w : World) (H : Hp) (s : Shared) (e : Value) (s' : Shared), CX w [] H s (fun _ _ _ => False) e s' → False) :
    PySem.W.WalkOS q loose XP YP r d [] (fun f vs => PySem.call f vs) := by
  intro w s_0 s₁ mg mb G Y fa o pm cd doc dV kV ho hd hcd hD hmg hg args vals as hpre hlay hrd hwl hlo
  obtain ⟨a, e1, e2⟩ := PySem.W.os_pre_some hpre
  obtain ⟨e3, hwi⟩ := Codec.encAll_of_decAll r.args args a e1
  subst e3
  have KX := hY w _ Y
  obtain ⟨fd, hb, hF⟩ := F w mg fa _ Y KX G.T.g hmg
  refine PySem.W.enter_call (codeAny_mono (spec_call (R := []) (cl := classAt s_0.heap) (d0 := r.ret.enc (Codec.app r.args r.f a)) KX G.T.g G.T.b G.T.builtins G.T.nolimit hg hwl (pl_encAll _ _) (layable_weight hlay) hr hF hb (by rw [encAll_len]; exact hlen)
    (fun H xs hO hS => hsp w H xs a hO hwi e2 hS) fun H e s' => hCX w H s₁ e s') fun r' s' hq => ?_)
  obtain ⟨u, as', rfl, h1, h2, h3, h4⟩ := hq
  exact ⟨.inl ⟨u, _, as', rfl, fun _ => rfl, h1, (OpenSpec.post_iff hwell hwi _ _).mpr rfl, fun z => Bool.noConfusion (show false = true from z)⟩, h2, h3, h4⟩
theorem walk_specK {r : OpenSpec} {k : Nat} {q : Program} {loose : List Str} {XP : (Str → Option Value) → Heap → Prop} {YP : World → Heap → Prop} {d : DefRec} {K : Params → PySem.W.Frag} {CX : CXT} {ps : List Str} {sp : PySem.W.Frag → Sp}
    (hwell : r.wellSaid = true) (hdf : d.params.defaults = []) (hlen : r.args.length = ps.length) (hr : Room k callerA)
    (hY : ∀ (w : World) (h : Heap), YP w h → (K w.params).In h)
    (F : ∀ (w : World) (mg : Str → Option Value) (fa : Addr) (h : Heap), YP w h → (K w.params).In h → h.Ns mainGlobals mg → mg d.name = some (.ref fa) →
      ∃ fd : FuncData, (∀ (s : Shared) (us : List Value), us.length = ps.length → BindsTo s fd ⟨us, []⟩ (ps.zip us)) ∧
        ∀ base : Heap, (K w.params).In base → base.Ns mainGlobals mg → FnOk r.prog w (K w.params) mg base CX k fa fd ps (sp (K w.params)))
    (hsp : ∀ (K : PySem.W.Frag) (H : Hp) (xs : List V) (a : Codec.denoteAll r.args), OnlyF H → Codec.withinAll r.args a = true → Codec.app r.args r.asked a = true → DwAll K H xs (Codec.encAll r.args a) →
      sp K xs H (fun v H' => Dw K H' v (r.ret.enc (Codec.app r.args r.f a))) fun _ _ _ => False)
    (hCX : ∀ (H : Hp) (s : Shared) (e : Value) (s' : Shared), CX [] H s (fun _ _ _ => False) e s' → False) :
    PySem.W.WalkOS q loose XP YP r d [] (fun f vs => PySem.call f vs) :=
  walk_spec (K := K) (CX := fun _ => CX) (sp := fun w => sp (K w.params)) hwell hdf hlen hr hY F (fun w H xs a h1 h2 h3 h4 => hsp (K w.params) H xs a h1 h2 h3 h4) fun _ H s e s' => hCX H s e s'
end L2
end
section
set_option Elab.async false
set_option linter.all false
namespace Mx
open Km352
theorem xor_and : ∀ (n a b : Nat), a ≤ n → (a ^^^ b) + 2 * (a &&& b) = a + b
  | 0, a, b, h => by
    have : a = 0 := by omega
    subst this
    simp
  | n + 1, a, b, h => by
    by_cases h0 : a = 0
    · subst h0; simp
    · have ih := xor_and n (a / 2) (b / 2) (by omega)
      have e1 : (a ^^^ b) / 2 = a / 2 ^^^ b / 2 := Nat.xor_div_two
      have e2 : (a &&& b) / 2 = a / 2 &&& b / 2 := Nat.and_div_two
      have m1 : (a ^^^ b) % 2 = (a + b) % 2 := by
        have : (a ^^^ b) % 2 = (a % 2 ^^^ b % 2) := by
          have := @Nat.xor_mod_two_pow a b 1
          simpa using this
        rw [this, Nat.add_mod]
        rcases Nat.mod_two_eq_zero_or_one a with x | x <;> rcases Nat.mod_two_eq_zero_or_one b with y | y <;> rw [x, y] <;> decide
      have m2 : (a &&& b) % 2 = (a % 2) * (b % 2) := by
        have : (a &&& b) % 2 = (a % 2 &&& b % 2) := by
          have := @Nat.and_mod_two_pow a b 1
          simpa using this
        rw [this]
        rcases Nat.mod_two_eq_zero_or_one a with x | x <;> rcases Nat.mod_two_eq_zero_or_one b with y | y <;> rw [x, y] <;> decide
      rw [← e1, ← e2] at ih
      rcases Nat.mod_two_eq_zero_or_one a with x | x <;> rcases Nat.mod_two_eq_zero_or_one b with y | y <;> rw [x, y] at m2 <;> omega
theorem crcBit_lt {c : Nat} (h : c < 2 ^ 32) : crcBit c < 2 ^ 32 := by
  unfold crcBit
  split
  · exact Nat.xor_lt_two_pow (by omega) (by decide)
  · omega
theorem foldl_inv {α β : Type} {P : β → Prop} {f : β → α → β} : ∀ (l : List α) (x : β), P x → (∀ y a, a ∈ l → P y → P (f y a)) → P (l.foldl f x)
  | [], _, h, _ => h
  | a :: l, x, h, k => foldl_inv l (f x a) (k x a (List.mem_cons_self ..) h) fun y b hb => k y b (List.mem_cons_of_mem _ hb)
theorem crcByte_lt {c b : Nat} (hc : c < 2 ^ 32) (hb : b < 2 ^ 32) : crcByte c b < 2 ^ 32 := by
  unfold crcByte
  exact foldl_inv (P := fun x => x < 2 ^ 32) _ _ (Nat.xor_lt_two_pow hc hb) fun y _ _ h => crcBit_lt h
theorem crc_lt {l : List Nat} (h : ∀ b ∈ l, b < 256) : crc l < 2 ^ 32 := by
  unfold crc
  refine Nat.xor_lt_two_pow ?_ (by decide)
  exact foldl_inv (P := fun x => x < 2 ^ 32) _ _ (by decide) fun y a ha hy => crcByte_lt hy (by have := h a ha; omega)
theorem le4 (n : Nat) : le 4 n = [n % 256, n / 256 % 256, n / 65536 % 256, n / 16777216 % 256] := by
  simp [le, List.range, List.range.loop]
theorem le4_len (n : Nat) : (le 4 n).length = 4 := by simp [le]
theorem le4_lt {n b : Nat} (h : b ∈ le 4 n) : b < 256 := by
  rw [le4] at h
  simp only [List.mem_cons, List.not_mem_nil, or_false] at h
  rcases h with rfl | rfl | rfl | rfl <;> exact Nat.mod_lt _ (by decide)
theorem low {a x : Nat} (h : a < 256) : (a + 256 * x) % 256 = a := by
  rw [Nat.add_mul_mod_self_left]
  exact Nat.mod_eq_of_lt h
theorem high {a x : Nat} (h : a < 256) : (a + 256 * x) / 256 = x := by
  rw [Nat.add_mul_div_left _ _ (by decide), Nat.div_eq_of_lt h, Nat.zero_add]
theorem div2 (n : Nat) : n / 65536 = n / 256 / 256 := by rw [Nat.div_div_eq_div_mul]
theorem div3 (n : Nat) : n / 16777216 = n / 256 / 256 / 256 := by rw [Nat.div_div_eq_div_mul, Nat.div_div_eq_div_mul]
/-- four bytes and their number -/
theorem le4_num {a b c d : Nat} (ha : a < 256) (hb : b < 256) (hc : c < 256) (hd : d < 256) : le 4 (a + 256 * (b + 256 * (c + 256 * d))) = [a, b, c, d] := by
  rw [le4, div2, div3, high ha, high hb, high hc, low ha, low hb, low hc, Nat.mod_eq_of_lt hd]
theorem num4 (a b c d : Nat) : [a, b, c, d].foldr (fun b v => b + 256 * v) 0 = a + 256 * (b + 256 * (c + 256 * d)) := by
  simp
theorem num_le4 {n : Nat} (h : n < 2 ^ 32) : (le 4 n).foldr (fun b v => b + 256 * v) 0 = n := by
  rw [le4, num4, div2, div3, Nat.mod_eq_of_lt (a := n / 256 / 256 / 256) (by rw [← div3]; exact Nat.div_lt_of_lt_mul h), Nat.mod_add_div, Nat.mod_add_div, Nat.mod_add_div]
/-- a list of four, by name -/
theorem four {α : Type} {l : List α} (h : l.length = 4) : ∃ a0 a1 a2 a3, l = [a0, a1, a2, a3] := by
  match l, h with
  | [a0, a1, a2, a3], _ => exact ⟨a0, a1, a2, a3, rfl⟩
theorem cut_len {α : Type} {l : List α} {k : Nat} (hk : k + 4 ≤ l.length) : ((l.drop k).take 4).length = 4 := by
  rw [List.length_take, List.length_drop]
  exact Nat.min_eq_left (Nat.le_sub_of_add_le (by rw [Nat.add_comm]; exact hk))
/-- four places of a list of bytes are the bytes of their number -/
theorem le4_of {l : List Nat} {k : Nat} (h : ∀ b ∈ l, b < 256) (hk : k + 4 ≤ l.length) : le 4 (num l k 4) = (l.drop k).take 4 := by
  unfold num
  have hl : ((l.drop k).take 4).length = 4 := cut_len hk
  have hm : ∀ b ∈ (l.drop k).take 4, b < 256 := fun b hb => h b (List.mem_of_mem_drop (List.mem_of_mem_take hb))
  generalize (l.drop k).take 4 = m at hl hm
  match m, hl with
  | [a, b, c, d], _ =>
    rw [num4, le4_num (hm a (by simp)) (hm b (by simp)) (hm c (by simp)) (hm d (by simp))]
theorem num_lt {l : List Nat} {k : Nat} (h : ∀ b ∈ l, b < 256) (hk : k + 4 ≤ l.length) : num l k 4 < 2 ^ 32 := by
  unfold num
  have hl : ((l.drop k).take 4).length = 4 := cut_len hk
  have hm : ∀ b ∈ (l.drop k).take 4, b < 256 := fun b hb => h b (List.mem_of_mem_drop (List.mem_of_mem_take hb))
  generalize (l.drop k).take 4 = m at hl hm
  match m, hl with
  | [a, b, c, d], _ =>
    rw [num4]
    have := hm a (by simp)
    have := hm b (by simp)
    have := hm c (by simp)
    have := hm d (by simp)
    omega
theorem num_at {l : List Nat} {k a b c d : Nat} (h0 : l[k]? = some a) (h1 : l[k + 1]? = some b) (h2 : l[k + 2]? = some c) (h3 : l[k + 3]? = some d) : num l k 4 = a + 256 * (b + 256 * (c + 256 * d)) := by
  have e : (l.drop k).take 4 = [a, b, c, d] := by
    apply List.ext_getElem?
    intro i
    match i with
    | 0 => simp [h0]
    | 1 => simp [h1]
    | 2 => simp [h2]
    | 3 => simp [h3]
    | i + 4 => simp; omega
  unfold num
  rw [e, num4]
/-- what makes a message's bytes: head, three numbers, the check -/
theorem cut4 {α : Type} (l : List α) (n : Nat) : (l.drop n).take 4 ++ l.drop (n + 4) = l.drop n := by
  rw [← List.drop_drop]
  exact List.take_append_drop 4 (l.drop n)
theorem take16 {l : List Nat} : l.take 16 = l.take 4 ++ ((l.drop 4).take 4 ++ ((l.drop 8).take 4 ++ (l.drop 12).take 4)) := by
  rw [show 16 = 4 + (4 + (4 + 4)) from rfl, List.take_add, List.take_add, List.take_add, List.drop_drop, List.drop_drop]
theorem parts {l : List Nat} (h : l.length = 20) : l = l.take 4 ++ ((l.drop 4).take 4 ++ ((l.drop 8).take 4 ++ (l.drop 12).take 4)) ++ (l.drop 16).take 4 := by
  rw [← take16, List.take_of_length_le (l := l.drop 16) (by rw [List.length_drop]; omega), List.take_append_drop]
/-- when a list of twenty bytes is a message with this head, these numbers -/
theorem msg_iff {l hd : List Nat} (h : l.length = 20) (hb : ∀ b ∈ l, b < 256) (hh : hd.length = 4) :
    l = checked (hd ++ (le 4 (num l 4 4) ++ (le 4 (num l 8 4) ++ le 4 (num l 12 4)))) ↔ l.take 4 = hd ∧ num l 16 4 = crc (l.take 16) := by
  unfold checked
  rw [le4_of hb (by omega), le4_of hb (by omega), le4_of hb (by omega)]
  constructor
  · intro e
    have e4 : l.take 4 = hd := by
      have := congrArg (List.take 4) e
      rw [this]
      rw [List.append_assoc, List.take_append_of_le_length (by omega), ← hh, List.take_length]
    refine ⟨e4, ?_⟩
    rw [← e4, ← take16] at e
    have e16 := congrArg (fun z => (List.drop 16 z).take 4) e
    have hl16 : (l.take 16).length = 16 := by simp; omega
    have x1 : ((l.take 16 ++ le 4 (crc (l.take 16))).drop 16).take 4 = le 4 (crc (l.take 16)) := by
      rw [List.drop_append_of_le_length (by omega), List.drop_of_length_le (by omega), List.nil_append]
      exact List.take_of_length_le (by rw [le4_len]; omega)
    rw [x1] at e16
    have := congrArg (List.foldr (fun b v => b + 256 * v) 0) e16
    rw [num_le4 (crc_lt fun b hb' => hb b (List.mem_of_mem_take hb'))] at this
    exact this
  · rintro ⟨e4, e16⟩
    rw [← e4, ← take16, ← e16, le4_of hb (by omega)]
    have := parts h
    rw [← take16] at this
    exact this
theorem ifc {α : Type} {p q : Prop} [Decidable p] [Decidable q] (h : p ↔ q) (x y : α) : (if p then x else y) = if q then x else y := by
  by_cases e : p
  · rw [if_pos e, if_pos (h.mp e)]
  · rw [if_neg e, if_neg fun z => e (h.mpr z)]
/-- **a right question** -/
theorem question_iff {l : List Nat} (h : l.length = 20) (hb : ∀ b ∈ l, b < 256) :
    questionOf l = if l.take 4 = [1, 0, 0, 0] ∧ (1 ≤ num l 4 4 ∧ num l 8 4 ≤ 32) ∧ num l 16 4 = crc (l.take 16) then some ⟨num l 4 4, num l 8 4, num l 12 4⟩ else none := by
  unfold questionOf
  have e := msg_iff (hd := [1, 0, 0, 0]) h hb rfl
  dsimp only
  refine ifc ?_ _ _
  unfold Question.bytes
  dsimp only
  constructor
  · rintro ⟨a, b, c⟩
    obtain ⟨x, y⟩ := e.mp a
    exact ⟨x, ⟨b, c⟩, y⟩
  · rintro ⟨a, ⟨b, c⟩, d⟩
    exact ⟨e.mpr ⟨a, d⟩, b, c⟩
theorem num1 {l : List Nat} {a : Nat} (h : l[1]? = some a) : num l 1 1 = a := by
  have e : (l.drop 1).take 1 = [a] := by
    apply List.ext_getElem?
    intro i
    match i with
    | 0 => simpa using h
    | i + 1 => simp; omega
  unfold num
  rw [e]
  rfl
/-- **a right answer** -/
theorem answer_iff {l : List Nat} (h : l.length = 20) (hb : ∀ b ∈ l, b < 256) :
    answerOf l = if l.take 4 = [2, l.getD 1 0, 0, 0] ∧ l.getD 1 0 < 16 ∧ (1 ≤ num l 4 4 ∧ num l 8 4 ≤ 32) ∧ num l 12 4 ≤ 4096 ∧ num l 16 4 = crc (l.take 16) then some ⟨l.getD 1 0, num l 4 4, num l 8 4, num l 12 4⟩ else none := by
  have e1 : num l 1 1 = l.getD 1 0 := by
    refine num1 ?_
    rw [List.getD_eq_getElem?_getD, List.getElem?_eq_getElem (by omega)]
    rfl
  unfold answerOf
  rw [e1]
  have e := msg_iff (hd := [2, l.getD 1 0, 0, 0]) h hb rfl
  dsimp only
  refine ifc ?_ _ _
  unfold Answer.bytes
  dsimp only
  constructor
  · rintro ⟨a, b, c, d, f⟩
    obtain ⟨x, y⟩ := e.mp a
    exact ⟨x, b, ⟨c, d⟩, f, y⟩
  · rintro ⟨a, b, ⟨c, d⟩, f, g⟩
    exact ⟨e.mpr ⟨a, g⟩, b, c, d, f⟩
theorem question_is {l : List Nat} {q : Question} (h : questionOf l = some q) : q = ⟨num l 4 4, num l 8 4, num l 12 4⟩ := by
  unfold questionOf at h
  dsimp only at h
  split at h
  · exact (Option.some.inj h).symm
  · cases h
theorem answer_is {l : List Nat} {a : Answer} (h : answerOf l = some a) : a = ⟨num l 1 1, num l 4 4, num l 8 4, num l 12 4⟩ := by
  unfold answerOf at h
  dsimp only at h
  split at h
  · exact (Option.some.inj h).symm
  · cases h
theorem atMost_le (l : List Nat) (x : Nat) : atMost l x ≤ l.length := List.length_filter_le _ _
theorem checked_len {l : List Nat} : (checked l).length = l.length + 4 := by
  unfold checked
  rw [List.length_append, le4_len]
theorem answer_len (a : Answer) : a.bytes.length = 20 := by
  unfold Answer.bytes
  rw [checked_len, List.length_append, List.length_append, List.length_append, le4_len, le4_len, le4_len]
  rfl
theorem question_len (a : Question) : a.bytes.length = 20 := by
  unfold Question.bytes
  rw [checked_len, List.length_append, List.length_append, List.length_append, le4_len, le4_len, le4_len]
  rfl
end Mx
end
section
set_option Elab.async false
set_option linter.all false
namespace Mc
open Km352
/-- a search as the program keeps it -/
structure Se where
  number : Nat
  k : Nat
  stations : Nat
  round : Nat
  lo : Nat
  hi : Nat
  told : List (Nat × Nat)
  over : Bool
  found : Option Nat
def Se.new (s k n : Nat) : Se := ⟨s, k, n, 0, 0, 4294967295, [], false, none⟩
def Se.x (e : Se) : Nat := if e.round = 0 then 4294967295 else (e.lo + e.hi) / 2
def Se.cut (e : Se) (m : Bool) : Se := if m = true then { e with hi := e.x } else { e with lo := e.x + 1 }
def Se.halve (e : Se) (m : Bool) : Se := if (e.cut m).lo = (e.cut m).hi then { e.cut m with found := some (e.cut m).lo, over := true } else e.cut m
def Se.mid (e : Se) (m : Bool) : Se := if e.round = 0 then { e with over := !m } else e.halve m
def Se.endRound (e : Se) (m : Bool) : Se := if (e.mid m).over = true then e.mid m else { e.mid m with round := (e.mid m).round + 1, told := [] }
def Se.sum (e : Se) : Nat := (e.told.map (·.2)).sum
def Se.put (e : Se) (st h : Nat) : Se := { e with told := e.told ++ [(st, h)] }
def Se.keep (e : Se) (st h : Nat) : Se := if (e.put st h).told.length = e.stations then (e.put st h).endRound (decide (e.k < (e.put st h).sum)) else e.put st h
/-! ### sums and counts over the stations -/
def sumN (f : Nat → Nat) : Nat → Nat
  | 0 => 0
  | n + 1 => sumN f n + f n
theorem fold_sumN (f : Nat → Nat) : ∀ n, ((List.range n).map f).foldl (· + ·) 0 = sumN f n
  | 0 => rfl
  | n + 1 => by
    rw [List.range_succ, List.map_append, List.foldl_append, fold_sumN f n]
    rfl
theorem sumN_congr {f g : Nat → Nat} : ∀ {n}, (∀ i, i < n → f i = g i) → sumN f n = sumN g n
  | 0, _ => rfl
  | n + 1, h => by
    show sumN f n + f n = sumN g n + g n
    rw [sumN_congr fun i hi => h i (by omega), h n (by omega)]
theorem sumN_set {f g : Nat → Nat} {st h : Nat} (h0 : f st = 0) (h1 : g st = h) (h2 : ∀ i, i ≠ st → g i = f i) : ∀ {n}, st < n → sumN g n = sumN f n + h
  | n + 1, hn => by
    show sumN g n + g n = sumN f n + f n + h
    by_cases e : st = n
    · subst e
      rw [h0, h1, sumN_congr fun i hi => h2 i (by omega)]
      omega
    · rw [sumN_set h0 h1 h2 (by omega), h2 n fun z => e z.symm]
      omega
theorem sumN_zero {f : Nat → Nat} : ∀ {n}, (∀ i, f i = 0) → sumN f n = 0
  | 0, _ => rfl
  | n + 1, h => by
    show sumN f n + f n = 0
    rw [sumN_zero h, h n]
def cntN (p : Nat → Bool) (n : Nat) : Nat := sumN (fun i => if p i = true then 1 else 0) n
theorem cntN_le (p : Nat → Bool) : ∀ n, cntN p n ≤ n
  | 0 => Nat.le_refl _
  | n + 1 => by
    have := cntN_le p n
    show cntN p n + (if p n = true then 1 else 0) ≤ n + 1
    split <;> omega
theorem cntN_all (p : Nat → Bool) : ∀ n, cntN p n = n ↔ ∀ i, i < n → p i = true
  | 0 => ⟨fun _ i h => by omega, fun _ => rfl⟩
  | n + 1 => by
    have ih := cntN_all p n
    have hl := cntN_le p n
    show cntN p n + (if p n = true then 1 else 0) = n + 1 ↔ _
    constructor
    · intro h i hi
      by_cases e : p n = true
      · rw [if_pos e] at h
        by_cases z : i = n
        · subst z; exact e
        · exact ih.mp (by omega) i (by omega)
      · rw [if_neg e] at h
        omega
    · intro h
      rw [if_pos (h n (by omega)), ih.mpr fun i hi => h i (by omega)]
/-! ### the search goes on -/
structure On (e : Se) (c : Centre) : Prop where
  number : e.number = c.search
  k : e.k = c.k
  stations : e.stations = c.stations
  round : e.round = c.round
  lo : e.lo = c.lo
  hi : e.hi = c.hi
  over : e.over = false
  found : e.found = none
  state : c.state = 1
  len : c.got.length = 16
  n16 : c.stations ≤ 16
  look : ∀ i, c.got.getD i none = e.told.lookup i
  cnt : e.told.length = cntN (fun i => (c.got.getD i none).isSome) c.stations
  sum : e.sum = sumN (fun i => (c.got.getD i none).getD 0) c.stations
  less : c.lo < c.hi
  top : c.hi < 2 ^ 32
  half : 1 ≤ c.round → c.hi - c.lo < 2 ^ (33 - c.round)
def Rel (e : Se) (c : Centre) : Prop := On e c ∨ (c.state = 2 ∧ e.over = true ∧ e.found = some c.lo) ∨ (c.state = 3 ∧ e.over = true ∧ e.found = none)
theorem On.few {e : Se} {c : Centre} (r : On e c) : e.told.length ≤ 16 := by
  rw [r.cnt]
  exact Nat.le_trans (cntN_le _ _) r.n16
theorem On.complete {e : Se} {c : Centre} (r : On e c) : c.complete = true ↔ e.told.length = c.stations := by
  rw [r.cnt, cntN_all]
  unfold Centre.complete
  rw [List.all_eq_true]
  constructor
  · intro h i hi
    exact h i (List.mem_range.mpr hi)
  · intro h i hi
    exact h i (List.mem_range.mp hi)
theorem On.csum {e : Se} {c : Centre} (r : On e c) : e.sum = c.sum := by
  rw [r.sum]
  unfold Centre.sum
  rw [fold_sumN]
theorem On.x {e : Se} {c : Centre} (r : On e c) : e.x = c.x := by
  unfold Se.x Centre.x
  rw [r.round, r.lo, r.hi]
  rfl
theorem On.x_lt {e : Se} {c : Centre} (r : On e c) : c.x < 2 ^ 32 := by
  unfold Centre.x TOP
  have := r.less
  have := r.top
  split <;> omega
theorem On.round_le {e : Se} {c : Centre} (r : On e c) : c.round ≤ 32 := by
  rcases Nat.lt_or_ge 32 c.round with h | h
  · have a := r.half (by omega)
    have b : 33 - c.round = 0 := by omega
    rw [b] at a
    have := r.less
    omega
  · exact h
theorem lookup_snoc {i st h : Nat} : ∀ {l : List (Nat × Nat)}, l.lookup st = none → (l ++ [(st, h)]).lookup i = if i = st then some h else l.lookup i
  | [], _ => by
    show (match i == st with | true => some h | false => none) = _
    by_cases e : i = st
    · rw [if_pos e, e, beq_self_eq_true]
    · rw [if_neg e, beq_eq_false_iff_ne.mpr e]
      rfl
  | (a, b) :: l, q => by
    have q1 : (match st == a with | true => some b | false => l.lookup st) = none := q
    have ne : (st == a) = false := by
      cases z : st == a with
      | false => rfl
      | true => rw [z] at q1; cases q1
    rw [ne] at q1
    have ih := lookup_snoc (i := i) (st := st) (h := h) (l := l) q1
    show (match i == a with | true => some b | false => (l ++ [(st, h)]).lookup i) = if i = st then some h else (match i == a with | true => some b | false => l.lookup i)
    cases z : i == a with
    | true =>
      have : i = a := eq_of_beq z
      rw [if_neg fun y => by rw [← this, y, beq_self_eq_true] at ne; cases ne]
    | false => exact ih
theorem getD_set {l : List (Option Nat)} {st i : Nat} {v : Option Nat} (h : st < l.length) : (l.set st v).getD i none = if i = st then v else l.getD i none := by
  rw [List.getD_eq_getElem?_getD, List.getD_eq_getElem?_getD, List.getElem?_set]
  by_cases e : st = i
  · subst e
    rw [if_pos rfl, if_pos rfl, if_pos h]
    rfl
  · rw [if_neg e, if_neg fun z => e z.symm]
theorem On.put {e : Se} {c : Centre} (r : On e c) {st h : Nat} (hs : st < c.stations) (hn : c.got.getD st none = none) : On (e.put st h) { c with got := c.got.set st (some h) } := by
  have hl : st < c.got.length := by rw [r.len]; have := r.n16; omega
  have g : ∀ i, (c.got.set st (some h)).getD i none = if i = st then some h else c.got.getD i none := fun i => getD_set hl
  refine ⟨r.number, r.k, r.stations, r.round, r.lo, r.hi, r.over, r.found, r.state, ?_, r.n16, fun i => ?_, ?_, ?_, r.less, r.top, r.half⟩
  · show (c.got.set st (some h)).length = 16
    rw [List.length_set, r.len]
  · show (c.got.set st (some h)).getD i none = (e.told ++ [(st, h)]).lookup i
    rw [g, lookup_snoc (by rw [← r.look st, hn]), r.look i]
  · show (e.told ++ [(st, h)]).length = cntN (fun i => ((c.got.set st (some h)).getD i none).isSome) c.stations
    rw [List.length_append, r.cnt]
    refine (sumN_set (st := st) (h := 1) ?_ ?_ ?_ hs).symm
    · show (if ((c.got.getD st none).isSome) = true then 1 else 0) = 0
      rw [hn]
      rfl
    · show (if (((c.got.set st (some h)).getD st none).isSome) = true then 1 else 0) = 1
      rw [g, if_pos rfl]
      rfl
    · intro i hi
      show (if (((c.got.set st (some h)).getD i none).isSome) = true then 1 else 0) = (if ((c.got.getD i none).isSome) = true then 1 else 0)
      rw [g, if_neg hi]
  · show ((e.told ++ [(st, h)]).map (·.2)).sum = sumN (fun i => ((c.got.set st (some h)).getD i none).getD 0) c.stations
    have e1 : ((e.told ++ [(st, h)]).map (·.2)).sum = e.sum + h := by
      rw [List.map_append, List.sum_append]
      rfl
    rw [e1, r.sum]
    refine (sumN_set (st := st) (h := h) ?_ ?_ ?_ hs).symm
    · show (c.got.getD st none).getD 0 = 0
      rw [hn]
      rfl
    · show ((c.got.set st (some h)).getD st none).getD 0 = h
      rw [g, if_pos rfl]
      rfl
    · intro i hi
      show ((c.got.set st (some h)).getD i none).getD 0 = (c.got.getD i none).getD 0
      rw [g, if_neg hi]
theorem none_at (i : Nat) : none_.getD i none = none := by
  unfold none_
  rw [List.getD_eq_getElem?_getD, List.getElem?_replicate]
  split <;> rfl
/-- a new round -/
theorem on_fresh {e : Se} {c : Centre} (number : e.number = c.search) (k : e.k = c.k) (stations : e.stations = c.stations) (round : e.round = c.round) (lo : e.lo = c.lo) (hi : e.hi = c.hi) (over : e.over = false) (found : e.found = none) (state : c.state = 1)
    (n16 : c.stations ≤ 16) (told : e.told = []) (got : c.got = none_) (less : c.lo < c.hi) (top : c.hi < 2 ^ 32) (half : 1 ≤ c.round → c.hi - c.lo < 2 ^ (33 - c.round)) : On e c := by
  refine ⟨number, k, stations, round, lo, hi, over, found, state, by rw [got]; rfl, n16, fun i => ?_, ?_, ?_, less, top, half⟩
  · rw [got, told, none_at]
    rfl
  · rw [got, told]
    refine (sumN_zero fun i => ?_).symm
    show (if ((none_.getD i none).isSome) = true then 1 else 0) = 0
    rw [none_at]
    rfl
  · unfold Se.sum
    rw [got, told]
    refine (sumN_zero fun i => ?_).symm
    rw [none_at]
    rfl
theorem on_new {s k n : Nat} {c : Centre} (hn : n ≤ 16) : On (Se.new s k n) { c with stations := n, k := k, search := s, round := 0, lo := 0, hi := TOP - 1, got := none_, state := 1 } :=
  on_fresh rfl rfl rfl rfl rfl rfl rfl rfl rfl hn rfl rfl (by show 0 < TOP - 1; decide) (by show TOP - 1 < 2 ^ 32; decide) (fun h => by have h : 1 ≤ 0 := h; omega)
theorem pow_half {a n : Nat} (h : a < 2 ^ (33 - n)) (ha : 1 ≤ a) : a / 2 < 2 ^ (33 - (n + 1)) := by
  rcases Nat.lt_or_ge 32 n with h1 | h1
  · rw [Nat.sub_eq_zero_of_le h1] at h
    exact absurd h (Nat.not_lt.mpr ha)
  · have e : 33 - n = (33 - (n + 1)) + 1 := by omega
    rw [e, Nat.pow_succ, Nat.mul_comm] at h
    exact Nat.div_lt_of_lt_mul h
theorem mid_lo {lo hi : Nat} (h : lo < hi) : lo ≤ (lo + hi) / 2 := by omega
theorem mid_hi {lo hi : Nat} (h : lo < hi) : (lo + hi) / 2 < hi := by omega
theorem mid_w1 {lo hi : Nat} (h : lo < hi) : (lo + hi) / 2 - lo ≤ (hi - lo) / 2 := by omega
theorem mid_w2 {lo hi : Nat} (h : lo < hi) : hi - ((lo + hi) / 2 + 1) ≤ (hi - lo) / 2 := by omega
/-- **all have answered** -/
theorem end_over {e f : Se} {m : Bool} (h : e.mid m = f) (o : f.over = true) : e.endRound m = f := by
  unfold Se.endRound
  rw [h, if_pos o]
theorem end_on {e f : Se} {m : Bool} (h : e.mid m = f) (o : f.over = false) : e.endRound m = { f with round := f.round + 1, told := [] } := by
  unfold Se.endRound
  rw [h, if_neg (by rw [o]; exact Bool.false_ne_true)]
theorem mid0 {e : Se} {m : Bool} (h : e.round = 0) : e.mid m = { e with over := !m } := if_pos h
theorem mid1 {e : Se} {m : Bool} (h : ¬ e.round = 0) : e.mid m = e.halve m := if_neg h
theorem On.next {e : Se} {c : Centre} (r : On e c) : Rel (e.endRound (decide (e.k < e.sum))) c.next ∧ c.next.search = c.search ∧ c.next.stations = c.stations := by
  have hs := r.csum
  have hk := r.k
  have hl := r.less
  have ht := r.top
  by_cases h0 : c.round = 0
  · have e0 := r.round.trans h0
    by_cases h1 : c.sum ≤ c.k
    · have h2 : decide (e.k < e.sum) = false := decide_eq_false (by rw [hk, hs]; exact Nat.not_lt.mpr h1)
      have en : c.next = { c with got := none_, state := 3 } := by
        unfold Centre.next
        rw [if_pos h0, if_pos h1]
      rw [h2, en, end_over (mid0 e0) rfl]
      exact ⟨.inr (.inr ⟨rfl, rfl, r.found⟩), rfl, rfl⟩
    · have h2 : decide (e.k < e.sum) = true := decide_eq_true (by rw [hk, hs]; exact Nat.not_le.mp h1)
      have en : c.next = { c with got := none_, round := 1 } := by
        unfold Centre.next
        rw [if_pos h0, if_neg h1]
      rw [h2, en, end_on (mid0 e0) rfl]
      refine ⟨.inl ?_, rfl, rfl⟩
      refine on_fresh r.number r.k r.stations ?_ r.lo r.hi rfl r.found r.state r.n16 rfl rfl hl ht fun _ => ?_
      · show e.round + 1 = 1
        rw [e0]
      · exact Nat.lt_of_le_of_lt (Nat.sub_le _ _) ht
  · have e0 : ¬ e.round = 0 := by rw [r.round]; exact h0
    have hx : e.x = c.x := r.x
    have hc : c.x = (c.lo + c.hi) / 2 := by
      unfold Centre.x
      rw [if_neg h0]
    have hp : (c.hi - c.lo) / 2 < 2 ^ (33 - (c.round + 1)) := pow_half (r.half (Nat.pos_of_ne_zero h0)) (Nat.sub_pos_of_lt hl)
    by_cases h1 : c.k < c.sum
    · have h2 : decide (e.k < e.sum) = true := decide_eq_true (by rw [hk, hs]; exact h1)
      rw [h2]
      have ec : e.cut true = { e with hi := e.x } := if_pos rfl
      by_cases h3 : c.lo = c.x
      · have h4 : e.lo = e.x := by rw [r.lo, hx]; exact h3
        have eh : e.halve true = { e with hi := e.x, found := some e.lo, over := true } := by
          unfold Se.halve
          rw [ec]
          exact if_pos h4
        have en : c.next = { c with hi := c.x, got := none_, state := 2 } := by
          unfold Centre.next
          rw [if_neg h0]
          simp only [if_pos h1, if_pos h3]
        rw [en, end_over ((mid1 e0).trans eh) rfl]
        refine ⟨.inr (.inl ⟨rfl, rfl, ?_⟩), rfl, rfl⟩
        show some e.lo = some c.lo
        rw [r.lo]
      · have h4 : ¬ e.lo = e.x := by rw [r.lo, hx]; exact h3
        have eh : e.halve true = { e with hi := e.x } := by
          unfold Se.halve
          rw [ec]
          exact if_neg h4
        have en : c.next = { c with hi := c.x, got := none_, round := c.round + 1, state := 1 } := by
          unfold Centre.next
          rw [if_neg h0]
          simp only [if_pos h1, if_neg h3]
        rw [en, end_on ((mid1 e0).trans eh) r.over]
        refine ⟨.inl ?_, rfl, rfl⟩
        refine on_fresh r.number r.k r.stations ?_ r.lo hx r.over r.found rfl r.n16 rfl rfl ?_ ?_ fun _ => ?_
        · show e.round + 1 = c.round + 1
          rw [r.round]
        · exact Nat.lt_of_le_of_ne (by rw [hc]; exact mid_lo hl) h3
        · exact Nat.lt_trans (by show c.x < c.hi; rw [hc]; exact mid_hi hl) ht
        · refine Nat.lt_of_le_of_lt ?_ hp
          show c.x - c.lo ≤ _
          rw [hc]
          exact mid_w1 hl
    · have h2 : decide (e.k < e.sum) = false := decide_eq_false (by rw [hk, hs]; exact h1)
      rw [h2]
      have ec : e.cut false = { e with lo := e.x + 1 } := if_neg Bool.false_ne_true
      by_cases h3 : c.x + 1 = c.hi
      · have h4 : e.x + 1 = e.hi := by rw [r.hi, hx]; exact h3
        have eh : e.halve false = { e with lo := e.x + 1, found := some (e.x + 1), over := true } := by
          unfold Se.halve
          rw [ec]
          exact if_pos h4
        have en : c.next = { c with lo := c.x + 1, got := none_, state := 2 } := by
          unfold Centre.next
          rw [if_neg h0]
          simp only [if_neg h1, if_pos h3]
        rw [en, end_over ((mid1 e0).trans eh) rfl]
        refine ⟨.inr (.inl ⟨rfl, rfl, ?_⟩), rfl, rfl⟩
        show some (e.x + 1) = some (c.x + 1)
        rw [hx]
      · have h4 : ¬ e.x + 1 = e.hi := by rw [r.hi, hx]; exact h3
        have eh : e.halve false = { e with lo := e.x + 1 } := by
          unfold Se.halve
          rw [ec]
          exact if_neg h4
        have en : c.next = { c with lo := c.x + 1, got := none_, round := c.round + 1, state := 1 } := by
          unfold Centre.next
          rw [if_neg h0]
          simp only [if_neg h1, if_neg h3]
        rw [en, end_on ((mid1 e0).trans eh) r.over]
        refine ⟨.inl ?_, rfl, rfl⟩
        refine on_fresh r.number r.k r.stations ?_ ?_ r.hi r.over r.found rfl r.n16 rfl rfl ?_ ?_ fun _ => ?_
        · show e.round + 1 = c.round + 1
          rw [r.round]
        · show e.x + 1 = c.x + 1
          rw [hx]
        · exact Nat.lt_of_le_of_ne (by show c.x + 1 ≤ c.hi; rw [hc]; exact mid_hi hl) h3
        · exact ht
        · refine Nat.lt_of_le_of_lt ?_ hp
          show c.hi - (c.x + 1) ≤ _
          rw [hc]
          exact mid_w2 hl
/-- **an answer is kept** -/
theorem On.keep {e : Se} {c : Centre} (r : On e c) {a : Answer} (h1 : a.search = c.search) (h2 : a.round = c.round) (hs : a.station < c.stations) (hn : c.got.getD a.station none = none) :
    (c.hears a).2 = true ∧ Rel (e.keep a.station a.many) (c.hears a).1 ∧ (c.hears a).1.search = c.search ∧ (c.hears a).1.stations = c.stations := by
  have p := r.put (h := a.many) hs hn
  unfold Centre.hears
  rw [if_pos ⟨r.state, h1, h2, hs, by rw [hn]; rfl⟩]
  refine ⟨rfl, ?_⟩
  unfold Se.keep
  have ek : (e.put a.station a.many).k = e.k := rfl
  have hst : ({ c with got := c.got.set a.station (some a.many) } : Centre).stations = e.stations := r.stations.symm
  by_cases hc : ({ c with got := c.got.set a.station (some a.many) } : Centre).complete = true
  · have := p.complete.mp hc
    rw [if_pos (this.trans hst)]
    simp only [if_pos hc]
    have := p.next
    rw [ek] at this
    exact this
  · have : ¬ (e.put a.station a.many).told.length = ({ c with got := c.got.set a.station (some a.many) } : Centre).stations := fun z => hc (p.complete.mpr z)
    rw [if_neg fun z => this (z.trans hst.symm)]
    dsimp only
    rw [if_neg hc]
    exact ⟨.inl p, rfl, rfl⟩
/-- .. or not -/
theorem On.deaf {c : Centre} {a : Answer} (h : ¬ ((a.search = c.search ∧ a.round = c.round) ∧ a.station < c.stations ∧ c.got.getD a.station none = none)) : c.hears a = (c, false) := by
  unfold Centre.hears
  rw [if_neg]
  rintro ⟨_, h1, h2, h3, h4⟩
  exact h ⟨⟨h1, h2⟩, h3, by simpa using h4⟩
theorem deaf {c : Centre} (h : ¬ c.state = 1) (a : Answer) : c.hears a = (c, false) := by
  unfold Centre.hears
  rw [if_neg fun z => h z.1]
end Mc
end
section
set_option Elab.async false
set_option linter.all false
namespace Mw
open Km352 Km352Neutral
/-- a call stands in l from i to j -/
inductive At (l : List Int) (i : Nat) : List (List Int) → Nat → Prop
  | two {op k b : Int} : (op = 0 ∨ op = 1 ∨ op = 4 ∨ op = 5) → l[i]? = some op → l[i + 1]? = some k → l[i + 2]? = some b → At l i [[op, k, b]] (i + 3)
  | one {op k : Int} : (op = 3 ∨ op = 6 ∨ op = 8) → l[i]? = some op → l[i + 1]? = some k → At l i [[op, k]] (i + 2)
  | row {op k : Int} {m : Nat} : (op = 2 ∨ op = 7) → l[i]? = some op → l[i + 1]? = some k → l[i + 2]? = some (m : Int) → m ≤ (l.drop (i + 3)).length → At l i [[op, k], (l.drop (i + 3)).take m] (i + 3 + m)
theorem drop_at {l : List Int} {i : Nat} {a : Int} {q : List Int} (h : l.drop i = a :: q) : l[i]? = some a ∧ l.drop (i + 1) = q := by
  constructor
  · have := congrArg (fun z => z[0]?) h
    simpa using this
  · have := congrArg List.tail h
    simpa using this
theorem row_is {r x s : List Int} (h : PyFlat.row r = some (x, s)) : ∃ (m : Nat) (q : List Int), r = (m : Int) :: q ∧ m ≤ q.length ∧ x = q.take m ∧ s = q.drop m := by
  cases r with
  | nil => cases h
  | cons n q =>
    unfold PyFlat.row at h
    dsimp only at h
    by_cases hn : 0 ≤ n ∧ n.toNat ≤ q.length
    · rw [if_pos hn] at h
      cases h
      refine ⟨n.toNat, q, ?_, hn.2, rfl, rfl⟩
      rw [Int.toNat_of_nonneg hn.1]
    · rw [if_neg hn] at h
      cases h
theorem rows0 {r : List Int} {x : List (List Int)} {s : List Int} (h : PyFlat.rows 0 r = some (x, s)) : x = [] ∧ s = r := by
  unfold PyFlat.rows at h
  cases h
  exact ⟨rfl, rfl⟩
theorem rows1 {r : List Int} {x : List (List Int)} {s : List Int} (h : PyFlat.rows 1 r = some (x, s)) : ∃ (m : Nat) (q : List Int), r = (m : Int) :: q ∧ m ≤ q.length ∧ x = [q.take m] ∧ s = q.drop m := by
  unfold PyFlat.rows at h
  cases e : PyFlat.row r with
  | none => rw [e] at h; cases h
  | some y =>
    obtain ⟨y, t⟩ := y
    rw [e] at h
    obtain ⟨m, q, h1, h2, h3, h4⟩ := row_is e
    unfold PyFlat.rows at h
    cases h
    exact ⟨m, q, h1, h2, by rw [h3], h4⟩
theorem call_is {p : Int} {r : List Int} {n k : Nat} {c : List (List Int)} {t : List Int} (hs : PyKm352.shape p = some (n, k)) (h : PyFlat.call PyKm352.shape (p :: r) = some (c, t)) :
    n ≤ r.length ∧ ∃ xs, PyFlat.rows k (r.drop n) = some (xs, t) ∧ c = (p :: r.take n) :: xs := by
  unfold PyFlat.call at h
  dsimp only at h
  rw [hs] at h
  dsimp only at h
  by_cases hl : r.length < n
  · rw [if_pos hl] at h
    cases h
  · rw [if_neg hl] at h
    cases e : PyFlat.rows k (r.drop n) with
    | none => rw [e] at h; cases h
    | some y =>
      obtain ⟨xs, t'⟩ := y
      rw [e] at h
      cases h
      exact ⟨by omega, xs, rfl, rfl⟩
theorem call_two {l : List Int} {i : Nat} {p : Int} {r t : List Int} {c : List (List Int)} (hl : l.drop i = p :: r) (hp : p = 0 ∨ p = 1 ∨ p = 4 ∨ p = 5) (hs : PyKm352.shape p = some (2, 0)) (h : PyFlat.call PyKm352.shape (p :: r) = some (c, t)) : ∃ j, At l i c j ∧ t = l.drop j := by
  obtain ⟨h1, xs, h2, h3⟩ := call_is hs h
  obtain ⟨rfl, h4⟩ := rows0 h2
  obtain ⟨a1, a2⟩ := drop_at hl
  match r, h1 with
  | k :: b :: q, _ =>
    obtain ⟨b1, b2⟩ := drop_at a2
    obtain ⟨c1, c2⟩ := drop_at b2
    rw [h3]
    refine ⟨i + 3, .two hp a1 b1 c1, ?_⟩
    rw [h4]
    exact c2.symm
theorem call_one {l : List Int} {i : Nat} {p : Int} {r t : List Int} {c : List (List Int)} (hl : l.drop i = p :: r) (hp : p = 3 ∨ p = 6 ∨ p = 8) (hs : PyKm352.shape p = some (1, 0)) (h : PyFlat.call PyKm352.shape (p :: r) = some (c, t)) : ∃ j, At l i c j ∧ t = l.drop j := by
  obtain ⟨h1, xs, h2, h3⟩ := call_is hs h
  obtain ⟨rfl, h4⟩ := rows0 h2
  obtain ⟨a1, a2⟩ := drop_at hl
  match r, h1 with
  | k :: q, _ =>
    obtain ⟨b1, b2⟩ := drop_at a2
    rw [h3]
    refine ⟨i + 2, .one hp a1 b1, ?_⟩
    rw [h4]
    exact b2.symm
theorem call_row {l : List Int} {i : Nat} {p : Int} {r t : List Int} {c : List (List Int)} (hl : l.drop i = p :: r) (hp : p = 2 ∨ p = 7) (hs : PyKm352.shape p = some (1, 1)) (h : PyFlat.call PyKm352.shape (p :: r) = some (c, t)) : ∃ j, At l i c j ∧ t = l.drop j := by
  obtain ⟨h1, xs, h2, h3⟩ := call_is hs h
  obtain ⟨m, q, h4, h5, h6, h7⟩ := rows1 h2
  obtain ⟨a1, a2⟩ := drop_at hl
  match r, h1 with
  | k :: r', _ =>
    obtain ⟨b1, b2⟩ := drop_at a2
    have h4 : r' = (m : Int) :: q := h4
    rw [h4] at b2
    obtain ⟨c1, c2⟩ := drop_at b2
    have c2 : l.drop (i + 3) = q := c2
    rw [h3, h6, ← c2]
    refine ⟨i + 3 + m, .row hp a1 b1 c1 (by rw [c2]; exact h5), ?_⟩
    rw [h7, ← c2, List.drop_drop]
theorem call_at {l : List Int} {i : Nat} {p : Int} {r t : List Int} {c : List (List Int)} (hl : l.drop i = p :: r) (h : PyFlat.call PyKm352.shape (p :: r) = some (c, t)) : ∃ j, At l i c j ∧ t = l.drop j := by
  by_cases h0 : p = 0
  · exact call_two hl (.inl h0) (by rw [h0]; rfl) h
  by_cases h1 : p = 1
  · exact call_two hl (.inr (.inl h1)) (by rw [h1]; rfl) h
  by_cases h2 : p = 2
  · exact call_row hl (.inl h2) (by rw [h2]; rfl) h
  by_cases h3 : p = 3
  · exact call_one hl (.inl h3) (by rw [h3]; rfl) h
  by_cases h4 : p = 4
  · exact call_two hl (.inr (.inr (.inl h4))) (by rw [h4]; rfl) h
  by_cases h5 : p = 5
  · exact call_two hl (.inr (.inr (.inr h5))) (by rw [h5]; rfl) h
  by_cases h6 : p = 6
  · exact call_one hl (.inr (.inl h6)) (by rw [h6]; rfl) h
  by_cases h7 : p = 7
  · exact call_row hl (.inr h7) (by rw [h7]; rfl) h
  by_cases h8 : p = 8
  · exact call_one hl (.inr (.inr h8)) (by rw [h8]; rfl) h
  · exfalso
    unfold PyFlat.call at h
    dsimp only at h
    have e : PyKm352.shape p = none := by
      unfold PyKm352.shape
      rw [if_neg h0, if_neg h1, if_neg h2, if_neg h3, if_neg h4, if_neg h5, if_neg h6, if_neg h7, if_neg h8]
    rw [e] at h
    cases h
/-- the calls from i on -/
def Rest (l : List Int) (i : Nat) (cs : List (List (List Int))) : Prop := ∃ f, PyFlat.calls PyKm352.shape f (l.drop i) = some cs
theorem Rest.nil {l : List Int} {i : Nat} (h : Rest l i []) : ¬ i < l.length := by
  obtain ⟨f, h⟩ := h
  intro hi
  cases e : l.drop i with
  | nil =>
    have := congrArg List.length e
    rw [List.length_drop] at this
    simp at this
    omega
  | cons p r =>
    rw [e] at h
    cases f with
    | zero => cases h
    | succ f =>
      unfold PyFlat.calls at h
      cases e2 : PyFlat.call PyKm352.shape (p :: r) with
      | none => rw [e2] at h; cases h
      | some y =>
        obtain ⟨c, t⟩ := y
        rw [e2] at h
        dsimp only at h
        cases e3 : PyFlat.calls PyKm352.shape f t with
        | none => rw [e3] at h; cases h
        | some z => rw [e3] at h; cases h
theorem Rest.cons {l : List Int} {i : Nat} {c : List (List Int)} {cs : List (List (List Int))} (h : Rest l i (c :: cs)) : i < l.length ∧ ∃ j, At l i c j ∧ Rest l j cs := by
  obtain ⟨f, h⟩ := h
  cases e : l.drop i with
  | nil =>
    rw [e] at h
    cases f <;> cases h
  | cons p r =>
    have hi : i < l.length := by
      have := congrArg List.length e
      rw [List.length_drop, List.length_cons] at this
      omega
    rw [e] at h
    cases f with
    | zero => cases h
    | succ f =>
      unfold PyFlat.calls at h
      cases e2 : PyFlat.call PyKm352.shape (p :: r) with
      | none => rw [e2] at h; cases h
      | some y =>
        obtain ⟨c', t⟩ := y
        rw [e2] at h
        dsimp only at h
        cases e3 : PyFlat.calls PyKm352.shape f t with
        | none => rw [e3] at h; cases h
        | some z =>
          rw [e3] at h
          cases h
          obtain ⟨j, h1, h2⟩ := call_at e e2
          exact ⟨hi, j, h1, f, by rw [← h2]; exact e3⟩
/-! ### what is answered is short -/
theorem told_len {a : Ans} {n : Nat} (h : a.out.length ≤ n) : (told a).length ≤ n + 1 := by
  unfold told nums
  rw [List.length_cons, List.length_map]
  omega
theorem sDoes_len (t : Station) (c : Km352.Call) : (sDoes t c).2.out.length ≤ 20 := by
  unfold sDoes
  split
  · split <;> exact Nat.zero_le _
  · split
    · exact Nat.zero_le _
    · split <;> exact Nat.zero_le _
  · split
    · exact Nat.zero_le _
    · split
      · exact Nat.zero_le _
      · exact Nat.le_of_eq (Mx.answer_len _)
  · exact (by decide : 2 ≤ 20)
  · exact Nat.zero_le _
theorem cDoes_len (t : Centre) (c : Km352.Call) : (cDoes t c).2.out.length ≤ 20 := by
  unfold cDoes
  split
  · split <;> exact Nat.zero_le _
  · split <;> exact Nat.zero_le _
  · dsimp only
    split
    · exact Nat.zero_le _
    · exact Nat.le_of_eq (Mx.question_len _)
  · split
    · exact Nat.zero_le _
    · exact Nat.zero_le _
  · dsimp only
    split
    · exact (by decide : 1 ≤ 20)
    · split <;> exact Nat.zero_le _
  · exact Nat.zero_le _
theorem step0_len (s : S) (k : Nat) (c : Km352.Call) : (step0 s k c).2.length ≤ 21 := by
  unfold step0
  split
  · exact Nat.zero_le _
  · split
    · exact told_len (sDoes_len _ _)
    · split
      · exact told_len (sDoes_len _ _)
      · exact Nat.zero_le _
theorem step1_len (s : S) (k : Nat) (c : Km352.Call) : (step1 s k c).2.length ≤ 21 := by
  unfold step1
  split
  · exact Nat.zero_le _
  · split
    · exact told_len (cDoes_len _ _)
    · split
      · exact told_len (cDoes_len _ _)
      · exact Nat.zero_le _
theorem step_len (s : S) (c : Km352Neutral.Call) : (step s c).2.length ≤ 21 := by
  unfold step
  split
  · exact Nat.zero_le _
  · dsimp only
    split
    · exact step0_len _ _ _
    · exact step1_len _ _ _
/-! ### the steps by name -/
theorem st_start (s : S) (k b : Int) : step s [[0, k, b]] = step0 s k.toNat (.sStart b.toNat) := rfl
theorem st_add (s : S) (k b : Int) : step s [[1, k, b]] = step0 s k.toNat (.sAdd b.toNat) := rfl
theorem st_heard (s : S) (k : Int) (r : List Int) : step s [[2, k], r] = step0 s k.toNat (.sHeard (nats r)) := rfl
theorem st_many (s : S) (k : Int) : step s [[3, k]] = step0 s k.toNat .sMany := rfl
theorem ct_start (s : S) (k b : Int) : step s [[4, k, b]] = step1 s k.toNat (.cStart b.toNat) := rfl
theorem ct_ask (s : S) (k b : Int) : step s [[5, k, b]] = step1 s k.toNat (.cAsk b.toNat) := rfl
theorem ct_say (s : S) (k : Int) : step s [[6, k]] = step1 s k.toNat .cSay := rfl
theorem ct_heard (s : S) (k : Int) (r : List Int) : step s [[7, k], r] = step1 s k.toNat (.cHeard (nats r)) := rfl
theorem ct_found (s : S) (k : Int) : step s [[8, k]] = step1 s k.toNat .cFound := rfl
/-- a call that is no start, on a station that is there -/
theorem step0_on {s : S} {k : Nat} {c : Km352.Call} (h : (step0 s k c).2 ≠ []) (hc : isStart c = false) : k < 4 ∧ ∃ t, s.1.getD k none = some t ∧ step0 s k c = (((s.1).set k (some (sDoes t c).1), s.2), told (sDoes t c).2) := by
  unfold step0 at h ⊢
  by_cases hk : 4 ≤ k
  · rw [if_pos hk] at h
    exact absurd rfl h
  · rw [if_neg hk] at h ⊢
    refine ⟨by omega, ?_⟩
    cases e : s.1.getD k none with
    | none =>
      rw [e] at h
      dsimp only at h
      rw [hc] at h
      exact absurd rfl h
    | some t => exact ⟨t, rfl, rfl⟩
theorem step1_on {s : S} {k : Nat} {c : Km352.Call} (h : (step1 s k c).2 ≠ []) (hc : isStart c = false) : k = 0 ∧ ∃ t, s.2.getD k none = some t ∧ step1 s k c = ((s.1, (s.2).set k (some (cDoes t c).1)), told (cDoes t c).2) := by
  unfold step1 at h ⊢
  by_cases hk : 1 ≤ k
  · rw [if_pos hk] at h
    exact absurd rfl h
  · rw [if_neg hk] at h ⊢
    refine ⟨by omega, ?_⟩
    cases e : s.2.getD k none with
    | none =>
      rw [e] at h
      dsimp only at h
      rw [hc] at h
      exact absurd rfl h
    | some t => exact ⟨t, rfl, rfl⟩
theorem set_same {α : Type} {l : List (Option α)} {k : Nat} {t : α} (h : l.getD k none = some t) : l.set k (some t) = l := by
  apply List.ext_getElem?
  intro i
  rw [List.getElem?_set]
  by_cases e : k = i
  · subst e
    rw [List.getD_eq_getElem?_getD] at h
    cases q : l[k]? with
    | none => rw [q] at h; cases h
    | some y =>
      rw [q] at h
      have : y = some t := h
      rw [if_pos rfl, if_pos (List.getElem?_eq_some_iff.mp q).1, this]
  · rw [if_neg e]
theorem step0_start {s : S} {k me : Nat} (h : (step0 s k (.sStart me)).2 ≠ []) : k < 4 ∧ step0 s k (.sStart me) = if 16 ≤ me then (s, [-22]) else (((s.1).set k (some (station0 me)), s.2), [0]) := by
  unfold step0 at h ⊢
  by_cases hk : 4 ≤ k
  · rw [if_pos hk] at h
    exact absurd rfl h
  · rw [if_neg hk]
    refine ⟨by omega, ?_⟩
    have e0 : ∀ t, sDoes t (.sStart me) = if 16 ≤ me then (t, only (-22)) else (station0 me, only 0) := fun t => rfl
    cases e : s.1.getD k none with
    | none =>
      dsimp only
      rw [if_pos (show isStart (.sStart me) = true from rfl), e0]
      by_cases hm : 16 ≤ me
      · rw [if_pos hm, if_pos hm]
        rfl
      · rw [if_neg hm, if_neg hm]
        rfl
    | some t =>
      dsimp only
      rw [e0]
      by_cases hm : 16 ≤ me
      · rw [if_pos hm, if_pos hm]
        dsimp only
        rw [set_same e]
        rfl
      · rw [if_neg hm, if_neg hm]
        rfl
theorem step1_start {s : S} {k n : Nat} (h : (step1 s k (.cStart n)).2 ≠ []) : k = 0 ∧ step1 s k (.cStart n) = if n = 0 ∨ 16 < n then (s, [-22]) else ((s.1, (s.2).set k (some (centre0 n))), [0]) := by
  unfold step1 at h ⊢
  by_cases hk : 1 ≤ k
  · rw [if_pos hk] at h
    exact absurd rfl h
  · rw [if_neg hk]
    refine ⟨by omega, ?_⟩
    have e0 : ∀ t, cDoes t (.cStart n) = if n = 0 ∨ 16 < n then (t, only (-22)) else (centre0 n, only 0) := fun t => rfl
    cases e : s.2.getD k none with
    | none =>
      dsimp only
      rw [if_pos (show isStart (.cStart n) = true from rfl), e0]
      by_cases hm : n = 0 ∨ 16 < n
      · rw [if_pos hm, if_pos hm]
        rfl
      · rw [if_neg hm, if_neg hm]
        rfl
    | some t =>
      dsimp only
      rw [e0]
      by_cases hm : n = 0 ∨ 16 < n
      · rw [if_pos hm, if_pos hm]
        dsimp only
        rw [set_same e]
        rfl
      · rw [if_neg hm, if_neg hm]
        rfl
/-! ### what is asked of a call -/
theorem natural_is {z : Int} {b : Nat} (h : natural z b = true) : 0 ≤ z ∧ z < 2 ^ b := by
  unfold natural at h
  rw [Bool.and_eq_true] at h
  exact ⟨of_decide_eq_true h.1, of_decide_eq_true h.2⟩
theorem asked_two {k b : Int} (h : (natural k 8 && natural b 32) = true) : 0 ≤ k ∧ 0 ≤ b := by
  rw [Bool.and_eq_true] at h
  exact ⟨(natural_is h.1).1, (natural_is h.2).1⟩
theorem asked_row {k : Int} {r : List Int} (h : (natural k 8 && (decide (r.length = 20) && r.all (fun (z : Int) => natural z 8))) = true) : 0 ≤ k ∧ r.length = 20 ∧ ∀ z ∈ r, 0 ≤ z ∧ z < 256 := by
  rw [Bool.and_eq_true, Bool.and_eq_true] at h
  exact ⟨(natural_is h.1).1, of_decide_eq_true h.2.1, fun z hz => natural_is (List.all_eq_true.mp h.2.2 z hz)⟩
/-! ### a call, sorted by whose it is -/
/-- what stands behind the object's number of a station's call -/
inductive StOp (l : List Int) (i : Nat) : Int → Km352.Call → Nat → Prop
  | add {x : Int} : l[i]? = some x → 0 ≤ x → StOp l i 1 (.sAdd x.toNat) (i + 1)
  | heard {m : Nat} : l[i]? = some (m : Int) → ((l.drop (i + 1)).take m).length = 20 → (∀ z ∈ (l.drop (i + 1)).take m, 0 ≤ z ∧ z < 256) → StOp l i 2 (.sHeard (nats ((l.drop (i + 1)).take m))) (i + 1 + m)
  | many : StOp l i 3 .sMany i
/-- .. of the centre's call -/
inductive CtOp (l : List Int) (i : Nat) : Int → Km352.Call → Nat → Prop
  | ask {x : Int} : l[i]? = some x → 0 ≤ x → CtOp l i 5 (.cAsk x.toNat) (i + 1)
  | say : CtOp l i 6 .cSay i
  | heard {m : Nat} : l[i]? = some (m : Int) → ((l.drop (i + 1)).take m).length = 20 → (∀ z ∈ (l.drop (i + 1)).take m, 0 ≤ z ∧ z < 256) → CtOp l i 7 (.cHeard (nats ((l.drop (i + 1)).take m))) (i + 1 + m)
  | found : CtOp l i 8 .cFound i
/-- a call that may come, by its kind -/
inductive Kind (l : List Int) (i : Nat) (s : S) (k : Nat) : Int → S × List Int → Nat → Prop
  | sNew {x : Int} : l[i]? = some x → 0 ≤ x → k < 4 → Kind l i s k 0 (if 16 ≤ x.toNat then (s, [-22]) else (((s.1).set k (some (station0 x.toNat)), s.2), [0])) (i + 1)
  | cNew {x : Int} : l[i]? = some x → 0 ≤ x → k = 0 → Kind l i s k 4 (if x.toNat = 0 ∨ 16 < x.toNat then (s, [-22]) else ((s.1, (s.2).set 0 (some (centre0 x.toNat))), [0])) (i + 1)
  | sOld {op : Int} {c : Km352.Call} {j : Nat} {t : Station} : StOp l i op c j → k < 4 → s.1.getD k none = some t → Kind l i s k op (((s.1).set k (some (sDoes t c).1), s.2), told (sDoes t c).2) j
  | cOld {op : Int} {c : Km352.Call} {j : Nat} {t : Centre} : CtOp l i op c j → k = 0 → s.2.getD 0 none = some t → Kind l i s k op ((s.1, (s.2).set 0 (some (cDoes t c).1)), told (cDoes t c).2) j
theorem kind_s0 {l : List Int} {i : Nat} {s : S} {k : Nat} {op : Int} {c : Km352.Call} {j : Nat} (h : StOp l i op c j) (hc : isStart c = false) (n : (step0 s k c).2 ≠ []) : Kind l i s k op (step0 s k c) j := by
  obtain ⟨h1, t, h2, h3⟩ := step0_on n hc
  rw [h3]
  exact .sOld h h1 h2
theorem kind_c0 {l : List Int} {i : Nat} {s : S} {k : Nat} {op : Int} {c : Km352.Call} {j : Nat} (h : CtOp l i op c j) (hc : isStart c = false) (n : (step1 s k c).2 ≠ []) : Kind l i s k op (step1 s k c) j := by
  obtain ⟨h1, t, h2, h3⟩ := step1_on n hc
  subst h1
  rw [h3]
  exact .cOld h rfl h2
theorem at_k {l : List Int} {i : Nat} {k : Int} (h : l[i]? = some k) (a : 0 ≤ k) : l[i]? = some ((k.toNat : Nat) : Int) := by
  rw [Int.toNat_of_nonneg a]
  exact h
theorem At.kind {l : List Int} {i j : Nat} {c : List (List Int)} {s : S} (h : At l i c j) (ha : asked1 c = true) (hn : (step s c).2 ≠ []) : ∃ (op : Int) (k : Nat), l[i]? = some op ∧ l[i + 1]? = some (k : Int) ∧ Kind l (i + 2) s k op (step s c) j := by
  cases h with
  | @two op k b h1 h2 h3 h4 =>
    rcases h1 with rfl | rfl | rfl | rfl
    · obtain ⟨a1, a2⟩ := asked_two ha
      obtain ⟨y1, y2⟩ := step0_start (show (step0 s k.toNat (.sStart b.toNat)).2 ≠ [] from hn)
      refine ⟨0, k.toNat, h2, at_k h3 a1, ?_⟩
      rw [st_start, y2]
      exact .sNew h4 a2 y1
    · obtain ⟨a1, a2⟩ := asked_two ha
      exact ⟨1, k.toNat, h2, at_k h3 a1, kind_s0 (.add h4 a2) rfl hn⟩
    · obtain ⟨a1, a2⟩ := asked_two ha
      obtain ⟨y1, y2⟩ := step1_start (show (step1 s k.toNat (.cStart b.toNat)).2 ≠ [] from hn)
      refine ⟨4, k.toNat, h2, at_k h3 a1, ?_⟩
      rw [ct_start, y2, y1]
      exact .cNew h4 a2 rfl
    · obtain ⟨a1, a2⟩ := asked_two ha
      exact ⟨5, k.toNat, h2, at_k h3 a1, kind_c0 (.ask h4 a2) rfl hn⟩
  | @one op k h1 h2 h3 =>
    rcases h1 with rfl | rfl | rfl
    · exact ⟨3, k.toNat, h2, at_k h3 (natural_is ha).1, kind_s0 .many rfl hn⟩
    · exact ⟨6, k.toNat, h2, at_k h3 (natural_is ha).1, kind_c0 .say rfl hn⟩
    · exact ⟨8, k.toNat, h2, at_k h3 (natural_is ha).1, kind_c0 .found rfl hn⟩
  | @row op k m h1 h2 h3 h4 h5 =>
    rcases h1 with rfl | rfl
    · obtain ⟨a1, a2, a3⟩ := asked_row ha
      exact ⟨2, k.toNat, h2, at_k h3 a1, kind_s0 (.heard h4 a2 a3) rfl hn⟩
    · obtain ⟨a1, a2, a3⟩ := asked_row ha
      exact ⟨7, k.toNat, h2, at_k h3 a1, kind_c0 (.heard h4 a2 a3) rfl hn⟩
theorem At.whole {l : List Int} {i j : Nat} {c : List (List Int)} (h : At l i c j) : PyKm352.whole c = c := by
  cases h with
  | two h1 => rcases h1 with rfl | rfl | rfl | rfl <;> rfl
  | one h1 => rcases h1 with rfl | rfl | rfl <;> rfl
  | row h1 => rcases h1 with rfl | rfl <;> rfl
theorem Rest.whole {l : List Int} : ∀ {cs : List (List (List Int))} {i : Nat}, Rest l i cs → cs.map PyKm352.whole = cs
  | [], _, _ => rfl
  | c :: cs, i, h => by
    obtain ⟨_, j, h1, h2⟩ := h.cons
    rw [List.map_cons, h1.whole, Rest.whole h2]
/-! ### all is told -/
def toldAll (s : S) (cs : List (List (List Int))) : List Int := PyFlat.told (PyFlat.played step s cs)
theorem told_cons (s : S) (c : List (List Int)) (cs : List (List (List Int))) : toldAll s (c :: cs) = ((step s c).2.length : Int) :: ((step s c).2 ++ toldAll (step s c).1 cs) := by
  show PyFlat.told ((step s c).2 :: PyFlat.played step (step s c).1 cs) = _
  unfold PyFlat.told
  rw [List.flatMap_cons]
  rfl
theorem asked_cons {s : S} {c : List (List Int)} {cs : List (List (List Int))} (h : may s (c :: cs) = true) : (step s c).2 ≠ [] ∧ may (step s c).1 cs = true := by
  unfold may at h
  rw [Bool.and_eq_true] at h
  refine ⟨fun z => ?_, h.2⟩
  rw [z] at h
  exact absurd h.1 (by decide)
theorem request {l : List Int} (h : PyKm352.answers_asked l = true) : ∃ cs, Rest l 0 cs ∧ cs.length ≤ 5000 ∧ (∀ c ∈ cs, asked1 c = true) ∧ may start cs = true ∧ PyKm352.answers l = toldAll start cs := by
  unfold PyKm352.answers_asked at h
  unfold PyKm352.answers
  cases e : PyFlat.calls PyKm352.shape l.length l with
  | none =>
    unfold PyKm352.calls at h
    rw [e] at h
    cases h
  | some cs =>
    have e1 : PyKm352.calls l = some cs := by
      unfold PyKm352.calls
      rw [e]
      dsimp only
      rw [Rest.whole (l := l) (i := 0) ⟨l.length, by rw [List.drop_zero]; exact e⟩]
    rw [e1] at h ⊢
    dsimp only at h
    unfold asked at h
    simp only [Bool.and_eq_true] at h
    obtain ⟨h1, h2, h3, h4, h5⟩ := h
    exact ⟨cs, ⟨l.length, by rw [List.drop_zero]; exact e⟩, of_decide_eq_true h3, fun c hc => List.all_eq_true.mp h4 c hc, h5, rfl⟩
end Mw
end
section
set_option Elab.async false
set_option linter.all false
set_option maxRecDepth 100000
set_option maxHeartbeats 4000000
namespace My
open PySem PySem.Spec PyProof.Rows L2
/-! ### the text by places -/
def top (i : Nat) : Stmt := PySem.Challenge.pw_middleone_s01_answers.main.body.getD i (.Pass ⟨0, 0, 0, 0⟩)
/-! ### what a caller knows of a def, a method, a class, a number of the top -/
section
variable (P : Program) (w : World) (K : PySem.W.Frag) (mg : Str → Option Value) (base : Heap)
def Fn (k : Nat) (x : Str) (ps : List Str) (sp : Sp) : Prop := ∃ f fd, FnOk P w K mg base CX0 k f fd ps sp ∧ mg x = some (.ref f) ∧ PySem.W.keepIn K (.ref f) = true ∧ Binds K fd ps []
def Mt (k : Nat) (C : Addr) (m : Str) (ps : List Str) (sp : Sp) : Prop := ∃ f fd, FnOk P w K mg base CX0 k f fd ps sp ∧ Meth K C m f ∧ Binds K fd ps []
def Mr (k : Nat) (C : Addr) (x : Str) (ps : List Str) (sp : Sp) : Prop := ∃ f fd, FnOk P w K mg base CX0 k f fd ps sp ∧ Mk K C f ∧ Binds K fd ps [] ∧ mg x = some (.ref C)
end
def Cn (mg : Str → Option Value) (x : Str) (n : Int) : Prop := ∃ t, mg x = some (.int n t)
section
variable {X : Cx} {k : Nat} {C : Addr} {ps : List Str} {sp : Sp} {x m : Str} {p pos apos : Pos} {e o : Expr} {es : List Expr} {ta : TE} {t : TA}
theorem pcall (F : Fn X.prog X.w X.K X.mg X.base k x ps sp) (hr : Room k X.A) (ha : PA X (e :: es) t) (hg : Gl X x := by rfl) (hdb : (x == ("__debug__" : Str)) = false := by decide)
    (he : starEach (e :: es) X.env = (false, eval e X.env) :: starEach es X.env := by rfl) (hpl : (backTo pos (starEach es X.env)).any (·.1) = false := by rfl) :
    PE X (.Call (.Name x p) (e :: es) [] pos) (tCall sp [] E0 t) := by
  obtain ⟨f, fd, h1, h2, h3, h4⟩ := F
  exact pe_call h1 hr hg h2 h3 h4 .nil pass0 ha hdb he hpl
theorem pmeth {pl : Sem Bool} (he : PE X o ta) (c : Cls X.K C) (F : Mt X.prog X.w X.K X.mg X.base k C m ps sp) (hr : Room k X.A) (ha : PA X (e :: es) t)
    (hst : starEach (e :: es) X.env = (false, eval e X.env) :: starEach es X.env := by rfl) (hpl : (backTo pos (starEach es X.env)).any (·.1) = false := by rfl)
    (ht : eval (.Call (.Attribute o m apos) (e :: es) [] pos) X.env = (do
      let ov ← eval o X.env
      standAt apos.atName
      let (f, first) ← holding [ov] (getMethod ov m pl)
      callWith pos f first (backTo pos (starEach (e :: es) X.env)) (backToKw pos (keywordEach [] X.env))) := by rfl) :
    PE X (.Call (.Attribute o m apos) (e :: es) [] pos) (tMeth C m sp [] E0 ta t) := by
  obtain ⟨f, fd, h1, h2, h3⟩ := F
  exact pe_meth (pl := pl) he c h2 h1 hr h3 .nil pass0 ha hst hpl ht
theorem pmeth0 {pl : Sem Bool} (he : PE X o ta) (c : Cls X.K C) (F : Mt X.prog X.w X.K X.mg X.base k C m ps sp) (hr : Room k X.A)
    (ht : eval (.Call (.Attribute o m apos) [] [] pos) X.env = (do
      let ov ← eval o X.env
      standAt apos.atName
      let (f, first) ← holding [ov] (getMethod ov m pl)
      callWith pos f first (backTo pos (starEach [] X.env)) (backToKw pos (keywordEach [] X.env))) := by rfl) :
    PE X (.Call (.Attribute o m apos) [] [] pos) (tMeth C m sp [] E0 ta tNil) := by
  obtain ⟨f, fd, h1, h2, h3⟩ := F
  exact pe_meth0 (pl := pl) he c h2 h1 hr h3 .nil pass0 ht
theorem pmake (F : Mr X.prog X.w X.K X.mg X.base k C x ps sp) (hr : Room (k + 1) X.A) (ha : PA X (e :: es) t) (hg : Gl X x := by rfl) (hdb : (x == ("__debug__" : Str)) = false := by decide)
    (he : starEach (e :: es) X.env = (false, eval e X.env) :: starEach es X.env := by rfl) (hpl : (backTo pos (starEach es X.env)).any (·.1) = false := by rfl) :
    PE X (.Call (.Name x p) (e :: es) [] pos) (tMake C sp [] E0 t) := by
  obtain ⟨f, fd, h1, h2, h3, h4⟩ := F
  exact pe_make h2 h1 hr hg h4 h3 .nil pass0 ha hdb he hpl
theorem pmake0 (F : Mr X.prog X.w X.K X.mg X.base k C x ps sp) (hr : Room (k + 1) X.A) (hg : Gl X x := by rfl) (hdb : (x == ("__debug__" : Str)) = false := by decide) :
    PE X (.Call (.Name x p) [] [] pos) (tMake C sp [] E0 tNil) := by
  obtain ⟨f, fd, h1, h2, h3, h4⟩ := F
  exact pe_make0 h2 h1 hr hg h4 h3 .nil pass0 hdb
/-- a number of the top -/
theorem pcn {n : Int} (h : Cn X.mg x n) (hg : Gl X x := by rfl) (hd : (x == ("__debug__" : Str)) = false := by decide) : PE X (.Name x pos) (tC (.int n)) := by
  obtain ⟨t, h⟩ := h
  exact pe_glob hg h ⟨t, rfl⟩ hd
end
/-! ### statement by statement: what stands behind is told by N -/
section
variable {X : Cx} {st : Stmt} {rest body : List Stmt} {t : TS} {tc : TT} {D : Ends} {σ : L2.St} {H : Hp} {c : Expr} {pos : Pos}
theorem cut (h1 : PS X st t) (N : L2.St → Hp → Prop) (h2 : t { D with nx := N } σ H) (h3 : ∀ σ' H', N σ' H' → ∃ u, PSs X rest u ∧ u D σ' H') : ∃ u, PSs X (st :: rest) u ∧ u D σ H := by
  refine ⟨fun D' σ' H' => D' = D ∧ σ' = σ ∧ H' = H, fun pins s σ' H' D' I h => ?_, rfl, rfl, rfl⟩
  obtain ⟨rfl, rfl, rfl⟩ := h
  refine wpAny_execs_cons (thn (h1 pins s _ _ _ I h2) fun f s1 q => ?_)
  cases f with
  | next =>
    obtain ⟨σ2, H2, I2, q⟩ := q
    obtain ⟨u, hu, q⟩ := h3 σ2 H2 q
    exact hu pins s1 σ2 H2 _ I2 q
  | ret v => exact q
  | brk => exact q
  | cont => exact q
/-- an if that is not gone into -/
theorem cut_no (hc : PT X c tc) (N : Hp → Prop) (h2 : tc σ H fun b H1 => if b = true then False else N H1) (h3 : ∀ H', N H' → ∃ u, PSs X rest u ∧ u D σ H') : ∃ u, PSs X (.If c body [] pos :: rest) u ∧ u D σ H := by
  refine ⟨fun D' σ' H' => D' = D ∧ σ' = σ ∧ H' = H, fun pins s σ' H' D' I h => ?_, rfl, rfl, rfl⟩
  obtain ⟨rfl, rfl, rfl⟩ := h
  refine wpAny_execs_cons (wpAny_If (thn (hc pins s _ _ _ I h2) fun b s1 q => ?_))
  obtain ⟨H2, I2, q⟩ := q
  cases b with
  | true => exact q.elim
  | false =>
    obtain ⟨u, hu, q⟩ := h3 H2 q
    exact wpAny_execs_nil (hu pins s1 _ H2 _ I2 q)
/-- an if that is gone into, and gives back there -/
theorem cut_yes (hc : PT X c tc) (hb : PSs X body t) (h : tc σ H fun b H1 => if b = true then t { D with nx := fun _ _ => False } σ H1 else False) : ∃ u, PSs X (.If c body [] pos :: rest) u ∧ u D σ H := by
  refine ⟨fun D' σ' H' => D' = D ∧ σ' = σ ∧ H' = H, fun pins s σ' H' D' I h' => ?_, rfl, rfl, rfl⟩
  obtain ⟨rfl, rfl, rfl⟩ := h'
  refine wpAny_execs_cons (wpAny_If (thn (hc pins s _ _ _ I h) fun b s1 q => ?_))
  obtain ⟨H2, I2, q⟩ := q
  cases b with
  | false => exact q.elim
  | true =>
    refine thn (hb pins s1 _ H2 _ I2 q) fun f s2 q => ?_
    cases f with
    | next =>
      obtain ⟨_, _, _, q⟩ := q
      exact q.elim
    | ret v => exact q
    | brk => exact q
    | cont => exact q
theorem iteDT {p A B : Prop} [Decidable p] (h : p) (a : A) : if decide p = true then A else B := by
  rw [decide_eq_true h]
  exact iteT a
theorem iteDF {p A B : Prop} [Decidable p] (h : ¬ p) (b : B) : if decide p = true then A else B := by
  rw [decide_eq_false h]
  exact iteF b
theorem int_ne {x y : Int} (h : x ≠ y) : ¬ V.int x = V.int y := fun z => h (V.int.inj z)
theorem iteY {c : Bool} {A B : Prop} (h : c = true) (a : A) : if c = true then A else B := by
  rw [if_pos h]
  exact a
theorem iteN {c : Bool} {A B : Prop} (h : ¬ c = true) (b : B) : if c = true then A else B := by
  rw [if_neg h]
  exact b
/-- the last: return e -/
theorem cut_ret {e : Expr} {te : TE} (he : PE X e te) (h : te σ H D.rt) : ∃ u, PSs X [.Return (some e) pos] u ∧ u D σ H := ⟨_, pss_one (ps_ret he), h⟩
end
/-! ### whole numbers and rows of them -/
abbrev iv (n : Nat) : V := .int (n : Int)
def nv (l : List Nat) : List V := l.map iv
theorem nv_len (l : List Nat) : (nv l).length = l.length := List.length_map ..
theorem nv_get (l : List Nat) (i : Nat) : (nv l)[i]? = (l[i]?).map iv := List.getElem?_map ..
theorem nv_app (l m : List Nat) : nv (l ++ m) = nv l ++ nv m := List.map_append ..
theorem nv_take (l : List Nat) (i : Nat) : (nv l).take i = nv (l.take i) := List.map_take.symm
theorem xor_cast (a b : Nat) : Builtin.bitXor (a : Int) (b : Int) = ((a ^^^ b : Nat) : Int) := by
  rw [bitXor_and, bitAnd_pp (by omega) (by omega)]
  have := Mx.xor_and a a b (Nat.le_refl _)
  simp only [Int.toNat_natCast]
  omega
theorem take_snoc {α : Type} : ∀ {l : List α} {i : Nat} {x : α}, l[i]? = some x → l.take (i + 1) = l.take i ++ [x]
  | [], i, x, h => by simp at h
  | a :: l, 0, x, h => by
    have e : a = x := Option.some.inj h
    subst e
    rfl
  | a :: l, i + 1, x, h => by
    have ih := take_snoc (l := l) (i := i) (x := x) h
    show a :: l.take (i + 1) = a :: l.take i ++ [x]
    rw [ih]
    rfl
end My
end
section
set_option Elab.async false
set_option linter.all false
set_option maxRecDepth 100000
set_option maxHeartbeats 4000000
namespace My
open PySem PySem.Spec PyProof.Rows L2
abbrev sByte : Stmt := top 11
abbrev sCrc : Stmt := top 12
inductive spByte (vs : List V) (H : Hp) (Q : VK) (E : XK) : Prop
  | mk (c b : Nat) (h0 : vs = [iv c, iv b]) (h1 : Q (iv (Km352.crcByte c b)) H) : spByte  vs H Q E
inductive spCrc (K : PySem.W.Frag) (vs : List V) (H : Hp) (Q : VK) (E : XK) : Prop
  | mk (a : Addr) (l : List Nat) (h0 : vs = [.ref a]) (h1 : SqL K H a (nv l)) (h2 : Q (iv (Km352.crc l)) H) : spCrc K vs H Q E
section
variable {P : Program} {w : World} {K : PySem.W.Frag} {mg : Str → Option Value} {base : Heap}
theorem scByte : FnScope ["check", "byte", "rest", "bit"] ["check", "byte"] (defScope sByte) := ⟨rfl, rfl, rfl, by decide +kernel, rfl, by decide +kernel, by decide +kernel⟩
def bits (i c : Nat) : Nat := (List.range i).foldl (fun x _ => Km352.crcBit x) c
theorem bits_succ (i c : Nat) : bits (i + 1) c = Km352.crcBit (bits i c) := by
  unfold bits
  rw [List.range_succ, List.foldl_append]
  rfl
theorem ok_byte {f : Addr} {fd : FuncData} (F : Fun K "with_byte" "with_byte" sByte f fd) (hR : mg "range" = none) (cP : Cn mg "POLYNOMIAL" 2197175160) : FnOk P w K mg base CX0 1 f fd ["check", "byte"] spByte := by
  refine F.ok scByte (fun vs H Q E h => ?_) (fun cdv A outer s H vs Q E hr h => ?_)
  · obtain ⟨c, b, rfl, _⟩ := h
    rfl
  · obtain ⟨c, b, rfl, k⟩ := h
    refine ⟨_, pss_cons (ps_set (i := 2) scByte.nd rfl (Or.inl rfl) (pe_op op_xor (pv 0) (pv 1)))
      (pss_cons (ps_for PassesOwn.never rfl (pi_range1 rfl hR (pa_cons pe_int pa_nil)) (pg_name (i := 3) scByte.nd rfl (Or.inl rfl))
        (pss_one (ps_if (pt_cmpR op_eq (pe_op op_mod (pv 2) pe_int) pe_int (nomark _))
          (pss_one (ps_set (i := 2) scByte.nd rfl (Or.inl rfl) (pe_op op_xor (pe_op op_shr (pv 2) pe_int) (pcn cP))))
          (pss_one (ps_set (i := 2) scByte.nd rfl (Or.inl rfl) (pe_op op_shr (pv 2) pe_int))))))
      (pss_one (ps_ret (pv 2)))), ?_⟩
    refine ⟨_, rfl, _, rfl, _, _, rfl, rfl, 8, rfl, by decide, by decide, for_range (n := 8) (fun i σ H' => H' = H ∧ ∃ v3, σ = [some (iv c), some (iv b), some (iv (bits i (c ^^^ b))), v3])
      ⟨rfl, none, congrArg (fun z : Int => [some (iv c), some (iv b), some (V.int z), none]) (xor_cast c b)⟩ ?_ ?_⟩
    · rintro i σ H' hi ⟨rfl, v3, rfl⟩
      generalize hz : bits i (c ^^^ b) = z
      have e2 : (z : Int) / 2 ^ (1 : Int).toNat = ((z / 2 : Nat) : Int) := by
        show (z : Int) / 2 = _
        omega
      refine ⟨_, rfl, _, _, rfl, rfl, (by show (0 : Int) < 2; decide), rfl, _, rfl, ite2 (fun e => ?_) (fun e => ?_)⟩
      · have e1 : (z : Int) % 2 = 1 := V.int.inj (of_decide_eq_true e)
        refine ⟨_, rfl, _, _, rfl, rfl, (by show (0 : Int) ≤ 1; decide), _, _, rfl, rfl, rfl, some (.int (0 + (i : Int))), ?_⟩
        refine congrArg (fun y : Int => [some (iv c), some (iv b), some (V.int y), _]) (a₂ := ((bits (i + 1) (c ^^^ b) : Nat) : Int)) ?_
        rw [e2, show (2197175160 : Int) = ((2197175160 : Nat) : Int) from rfl, xor_cast, bits_succ, hz]
        unfold Km352.crcBit
        rw [if_pos (by omega)]
      · have e1 : ¬ (z : Int) % 2 = 1 := fun q => e (decide_eq_true (congrArg V.int q))
        refine ⟨_, rfl, _, _, rfl, rfl, (by show (0 : Int) ≤ 1; decide), rfl, some (.int (0 + (i : Int))), ?_⟩
        refine congrArg (fun y : Int => [some (iv c), some (iv b), some (V.int y), _]) (a₂ := ((bits (i + 1) (c ^^^ b) : Nat) : Int)) ?_
        rw [e2, bits_succ, hz]
        unfold Km352.crcBit
        rw [if_neg (by omega)]
    · rintro σ H' ⟨rfl, v3, rfl⟩
      exact ⟨_, rfl, k⟩
theorem scCrc : FnScope ["numbers", "check", "byte"] ["numbers"] (defScope sCrc) := ⟨rfl, rfl, rfl, by decide +kernel, rfl, by decide +kernel, by decide +kernel⟩
theorem ok_crc {f : Addr} {fd : FuncData} (F : Fun K "crc32c" "crc32c" sCrc f fd) (G : Fn P w K mg base 1 "with_byte" ["check", "byte"] spByte) (cO : Cn mg "ALL_ONES" 4294967295) : FnOk P w K mg base CX0 2 f fd ["numbers"] (spCrc K) := by
  refine F.ok scCrc (fun vs H Q E h => ?_) (fun cdv A outer s H vs Q E hr h => ?_)
  · obtain ⟨a, l, rfl, _⟩ := h
    rfl
  · obtain ⟨a, l, rfl, hl, k⟩ := h
    refine ⟨_, pss_cons (ps_set (i := 1) scCrc.nd rfl (Or.inl rfl) (pcn cO))
      (pss_cons (ps_for PassesOwn.never rfl (pi_list (pv 0)) (pg_name (i := 2) scCrc.nd rfl (Or.inl rfl))
        (pss_one (ps_set (i := 1) scCrc.nd rfl (Or.inl rfl) (pcall G hr (pa_cons (pv 1) (pa_cons (pv 2) pa_nil))))))
      (pss_one (ps_ret (pe_op op_xor (pv 1) (pcn cO))))), ?_⟩
    refine ⟨_, rfl, a, rfl, ⟨_, hl⟩, for_list (K := K) (a := a) (xs := nv l) (fun i σ H' => H' = H ∧ ∃ v2, σ = [some (.ref a), some (iv ((l.take i).foldl Km352.crcByte 4294967295)), v2]) ⟨rfl, none, rfl⟩ (fun i σ H' _ h => by rw [h.1]; exact hl) ?_ ?_⟩
    · rintro i y σ H' hi ⟨rfl, v2, rfl⟩
      rw [nv_get] at hi
      cases e : l[i]? with
      | none => rw [e] at hi; cases hi
      | some z =>
        rw [e] at hi
        cases hi
        refine ⟨_, rfl, _, rfl, _, _, rfl, rfl, some (iv z), ?_⟩
        rw [take_snoc e, List.foldl_append]
        rfl
    · rintro σ H' ⟨rfl, v2, rfl⟩
      rw [nv_len, List.take_length]
      refine ⟨_, rfl, _, _, rfl, rfl, ?_⟩
      have e := xor_cast (l.foldl Km352.crcByte 4294967295) 4294967295
      show Q (.int (Builtin.bitXor ((l.foldl Km352.crcByte 4294967295 : Nat) : Int) ((4294967295 : Nat) : Int))) H'
      rw [e]
      exact k
end
end My
end
section
set_option Elab.async false
set_option linter.all false
set_option maxRecDepth 100000
set_option maxHeartbeats 4000000
namespace My
open PySem PySem.Spec PyProof.Rows L2
abbrev sFour : Stmt := top 21
abbrev sNum : Stmt := top 22
abbrev sSearch : Stmt := top 24
abbrev sRound : Stmt := top 25
abbrev sX : Stmt := top 26
abbrev sChk : Stmt := top 28
abbrev sSR : Stmt := top 29
abbrev sIsQ : Stmt := top 30
abbrev sStn : Stmt := top 23
abbrev sHow : Stmt := top 27
abbrev sIsA : Stmt := top 31
abbrev sWr : Stmt := top 32
abbrev sWQ : Stmt := top 33
abbrev sWA : Stmt := top 34
/-- a new list with these numbers, nothing else -/
inductive spFour (vs : List V) (H : Hp) (Q : VK) (E : XK) : Prop
  | mk (n : Nat) (h0 : vs = [iv n]) (h1 : n < 2 ^ 32) (h2 : ∀ p, H p = none → Q (.ref p) (upd H p (.lst (nv (Km352.le 4 n))))) : spFour  vs H Q E
inductive spNum (K : PySem.W.Frag) (vs : List V) (H : Hp) (Q : VK) (E : XK) : Prop
  | mk (a : Addr) (l : List Nat) (k : Nat) (h0 : vs = [.ref a, iv k]) (h1 : SqL K H a (nv l)) (h2 : k + 4 ≤ l.length) (h3 : Q (iv (Km352.num l k 4)) H) : spNum K vs H Q E
/-- the number at k of a list of twenty -/
inductive spAt (K : PySem.W.Frag) (k : Nat) (vs : List V) (H : Hp) (Q : VK) (E : XK) : Prop
  | mk (a : Addr) (l : List Nat) (h0 : vs = [.ref a]) (h1 : SqL K H a (nv l)) (h2 : l.length = 20) (h3 : Q (iv (Km352.num l k 4)) H) : spAt K k vs H Q E
inductive spChk (K : PySem.W.Frag) (vs : List V) (H : Hp) (Q : VK) (E : XK) : Prop
  | mk (a : Addr) (l : List Nat) (h0 : vs = [.ref a]) (h1 : SqL K H a (nv l)) (h2 : l.length = 20) (h3 : ∀ H', Same H H' → Q (.bl (decide (Km352.num l 16 4 = Km352.crc (l.take 16)))) H') : spChk K vs H Q E
inductive spSR (K : PySem.W.Frag) (vs : List V) (H : Hp) (Q : VK) (E : XK) : Prop
  | mk (a : Addr) (l : List Nat) (h0 : vs = [.ref a]) (h1 : SqL K H a (nv l)) (h2 : l.length = 20) (h3 : Q (.bl (decide (1 ≤ Km352.num l 4 4 ∧ Km352.num l 8 4 ≤ 32))) H) : spSR K vs H Q E
inductive spIsQ (K : PySem.W.Frag) (vs : List V) (H : Hp) (Q : VK) (E : XK) : Prop
  | mk (a : Addr) (l : List Nat) (h0 : vs = [.ref a]) (h1 : SqL K H a (nv l)) (h2 : l.length = 20) (h3 : (∀ b ∈ l, b < 256)) (h4 : ∀ H', Same H H' → Q (.bl (Km352.questionOf l).isSome) H') : spIsQ K vs H Q E
inductive spStn (K : PySem.W.Frag) (vs : List V) (H : Hp) (Q : VK) (E : XK) : Prop
  | mk (a : Addr) (l : List Nat) (h0 : vs = [.ref a]) (h1 : SqL K H a (nv l)) (h2 : l.length = 20) (h3 : Q (iv (l.getD 1 0)) H) : spStn K vs H Q E
inductive spIsA (K : PySem.W.Frag) (vs : List V) (H : Hp) (Q : VK) (E : XK) : Prop
  | mk (a : Addr) (l : List Nat) (h0 : vs = [.ref a]) (h1 : SqL K H a (nv l)) (h2 : l.length = 20) (h3 : (∀ b ∈ l, b < 256)) (h4 : ∀ H', Same H H' → Q (.bl (Km352.answerOf l).isSome) H') : spIsA K vs H Q E
inductive spWr (vs : List V) (H : Hp) (Q : VK) (E : XK) : Prop
  | mk (a : Addr) (hd : List Nat) (s r h : Nat) (h0 : vs = [.ref a, iv s, iv r, iv h]) (h1 : H a = some (.lst (nv hd))) (h2 : hd.length = 4) (h3 : (∀ b ∈ hd, b < 256)) (h4 : s < 2 ^ 32) (h5 : r < 2 ^ 32) (h6 : h < 2 ^ 32) (h7 : ∀ (H' : Hp) (p : Addr), Same H H' → H p = none → H' p = some (.lst (nv (Km352.checked (hd ++ (Km352.le 4 s ++ (Km352.le 4 r ++ Km352.le 4 h)))))) → Q (.ref p) H') : spWr  vs H Q E
inductive spWQ (vs : List V) (H : Hp) (Q : VK) (E : XK) : Prop
  | mk (s r x : Nat) (h0 : vs = [iv s, iv r, iv x]) (h1 : s < 2 ^ 32) (h2 : r < 2 ^ 32) (h3 : x < 2 ^ 32) (h4 : ∀ (H' : Hp) (p : Addr), Same H H' → H p = none → H' p = some (.lst (nv (Km352.Question.bytes ⟨s, r, x⟩))) → Q (.ref p) H') : spWQ  vs H Q E
inductive spWA (vs : List V) (H : Hp) (Q : VK) (E : XK) : Prop
  | mk (me s r h : Nat) (h0 : vs = [iv me, iv s, iv r, iv h]) (h1 : me < 256) (h2 : s < 2 ^ 32) (h3 : r < 2 ^ 32) (h4 : h < 2 ^ 32) (h5 : ∀ (H' : Hp) (p : Addr), Same H H' → H p = none → H' p = some (.lst (nv (Km352.Answer.bytes ⟨me, s, r, h⟩))) → Q (.ref p) H') : spWA  vs H Q E
theorem same_new {H : Hp} {p : Addr} {o : HO} (h : H p = none) : Same H (upd H p o) := fun b u e => by
  rw [upd_ne (ne_of_none e h)]
  exact e
theorem cut_to {l : List Nat} {k : Nat} : cutV (nv l) none (some (k : Int)) = nv (l.take k) := by
  unfold cutV
  rw [HT.sIx_none, HT.sIx_nat, List.drop_zero, nv_len, Nat.sub_zero]
  rw [← nv_take]
  rw [Nat.min_comm, ← nv_len, ← List.take_take]
  exact List.take_of_length_le (by rw [List.length_take]; exact Nat.min_le_right _ _)
section
variable {P : Program} {w : World} {K : PySem.W.Frag} {mg : Str → Option Value} {base : Heap}
theorem scFour : FnScope ["number"] ["number"] (defScope sFour) := ⟨rfl, rfl, rfl, by decide +kernel, rfl, by decide +kernel, by decide +kernel⟩
theorem ok_four {f : Addr} {fd : FuncData} (F : Fun K "four_bytes" "four_bytes" sFour f fd) : FnOk P w K mg base CX0 1 f fd ["number"] spFour := by
  refine F.ok scFour (fun vs H Q E h => ?_) (fun cdv A outer s H vs Q E hr h => ?_)
  · obtain ⟨n, rfl, _⟩ := h
    rfl
  · obtain ⟨n, rfl, hn, k⟩ := h
    refine ⟨_, pss_one (ps_ret (pe_lst (pa_cons (pe_op op_mod (pv 0) pe_int) (pa_cons (pe_op op_mod (pe_op op_fdiv (pv 0) pe_int) pe_int) (pa_cons (pe_op op_mod (pe_op op_fdiv (pv 0) pe_int) pe_int) (pa_cons (pe_op op_fdiv (pv 0) pe_int) pa_nil)))))), ?_⟩
    refine ⟨_, rfl, _, _, rfl, rfl, (by show (0 : Int) < 256; decide), _, rfl, _, _, rfl, rfl, ⟨by decide, by decide⟩, _, _, rfl, rfl, (by show (0 : Int) < 256; decide),
      _, rfl, _, _, rfl, rfl, ⟨by decide, by decide⟩, _, _, rfl, rfl, (by show (0 : Int) < 256; decide), _, rfl, _, _, rfl, rfl, ⟨by decide, by decide⟩, (by show 4 ≤ sizeLine; decide), fun p hp => ?_⟩
    have e : [V.int ((n : Int) % 256), V.int ((n : Int) / 256 % 256), V.int ((n : Int) / 65536 % 256), V.int ((n : Int) / 16777216)] = nv (Km352.le 4 n) := by
      rw [Mx.le4]
      show _ = [iv _, iv _, iv _, iv _]
      simp only [iv, List.cons.injEq, V.int.injEq, and_true]
      refine ⟨by omega, by omega, by omega, by omega⟩
    have := k p hp
    rw [← e] at this
    exact this
theorem scNum : FnScope ["message", "place", "low", "high"] ["message", "place"] (defScope sNum) := ⟨rfl, rfl, rfl, by decide +kernel, rfl, by decide +kernel, by decide +kernel⟩
theorem ok_num {f : Addr} {fd : FuncData} (F : Fun K "number_at" "number_at" sNum f fd) : FnOk P w K mg base CX0 1 f fd ["message", "place"] (spNum K) := by
  refine F.ok scNum (fun vs H Q E h => ?_) (fun cdv A outer s H vs Q E hr h => ?_)
  · obtain ⟨a, l, k, rfl, _⟩ := h
    rfl
  · obtain ⟨a, l, k, rfl, hl, hk, q⟩ := h
    obtain ⟨c0, h0⟩ : ∃ c, l[k]? = some c := ⟨_, List.getElem?_eq_getElem (by omega)⟩
    obtain ⟨c1, h1⟩ : ∃ c, l[k + 1]? = some c := ⟨_, List.getElem?_eq_getElem (by omega)⟩
    obtain ⟨c2, h2⟩ : ∃ c, l[k + 2]? = some c := ⟨_, List.getElem?_eq_getElem (by omega)⟩
    obtain ⟨c3, h3⟩ : ∃ c, l[k + 3]? = some c := ⟨_, List.getElem?_eq_getElem (by omega)⟩
    refine ⟨_, pss_cons (ps_set (i := 2) scNum.nd rfl (Or.inl rfl) (pe_op op_add (pe_ix ix_list (pv 0) (pv 1) (fun _ _ => rfl)) (pe_op op_mul pe_int (pe_ix ix_list (pv 0) (pe_op op_add (pv 1) pe_int) (fun _ _ => rfl)))))
      (pss_cons (ps_set (i := 3) scNum.nd rfl (Or.inl rfl) (pe_op op_add (pe_ix ix_list (pv 0) (pe_op op_add (pv 1) pe_int) (fun _ _ => rfl)) (pe_op op_mul pe_int (pe_ix ix_list (pv 0) (pe_op op_add (pv 1) pe_int) (fun _ _ => rfl)))))
      (pss_one (ps_ret (pe_op op_add (pv 2) (pe_op op_mul pe_int (pv 3)))))), ?_⟩
    refine ⟨_, rfl, _, rfl, a, _, _, iv c0, rfl, rfl, hl, at_of (j := k) rfl (by rw [nv_get, h0]; rfl), _, rfl, _, rfl, _, _, rfl, rfl, a, _, _, iv c1, rfl, rfl, hl, at_of (j := k + 1) rfl (by rw [nv_get, h1]; rfl),
      _, _, rfl, rfl, .inl ⟨by decide, by decide⟩, _, _, rfl, rfl, _, rfl, _, rfl, _, _, rfl, rfl, a, _, _, iv c2, rfl, rfl, hl, at_of (j := k + 2) rfl (by rw [nv_get, h2]; rfl), _, rfl, _, rfl, _, _, rfl, rfl, a, _, _, iv c3, rfl, rfl, hl, at_of (j := k + 3) rfl (by rw [nv_get, h3]; rfl),
      _, _, rfl, rfl, .inl ⟨by decide, by decide⟩, _, _, rfl, rfl, _, rfl, _, rfl, _, _, rfl, rfl, .inl ⟨by decide, by decide⟩, _, _, rfl, rfl, ?_⟩
    rw [Mx.num_at h0 h1 h2 h3] at q
    have e : ((c0 : Int) + 256 * (c1 : Int)) + 65536 * ((c2 : Int) + 256 * (c3 : Int)) = ((c0 + 256 * (c1 + 256 * (c2 + 256 * c3)) : Nat) : Int) := by omega
    show Q (.int (((c0 : Int) + 256 * (c1 : Int)) + 65536 * ((c2 : Int) + 256 * (c3 : Int)))) H
    rw [e]
    exact q
end
end My
end
section
set_option Elab.async false
set_option linter.all false
set_option maxRecDepth 100000
set_option maxHeartbeats 4000000
namespace My
open PySem PySem.Spec PyProof.Rows L2
section
variable {P : Program} {w : World} {K : PySem.W.Frag} {mg : Str → Option Value} {base : Heap}
theorem scSearch : FnScope ["message"] ["message"] (defScope sSearch) := ⟨rfl, rfl, rfl, by decide +kernel, rfl, by decide +kernel, by decide +kernel⟩
theorem ok_search {f : Addr} {fd : FuncData} (F : Fun K "search_of" "search_of" sSearch f fd) (G : Fn P w K mg base 1 "number_at" ["message", "place"] (spNum K)) (c : Cn mg "SEARCH_AT" 4) : FnOk P w K mg base CX0 2 f fd ["message"] (spAt K 4) := by
  refine F.ok scSearch (fun vs H Q E h => ?_) (fun cdv A outer s H vs Q E hr h => ?_)
  · obtain ⟨a, l, rfl, _⟩ := h
    rfl
  · obtain ⟨a, l, rfl, hl, h20, q⟩ := h
    refine ⟨_, pss_one (ps_ret (pcall G hr (pa_cons (pv 0) (pa_cons (pcn c) pa_nil)))), ?_⟩
    exact ⟨_, rfl, a, l, 4, rfl, hl, by omega, q⟩
theorem scRound : FnScope ["message"] ["message"] (defScope sRound) := ⟨rfl, rfl, rfl, by decide +kernel, rfl, by decide +kernel, by decide +kernel⟩
theorem ok_round {f : Addr} {fd : FuncData} (F : Fun K "round_of" "round_of" sRound f fd) (G : Fn P w K mg base 1 "number_at" ["message", "place"] (spNum K)) (c : Cn mg "ROUND_AT" 8) : FnOk P w K mg base CX0 2 f fd ["message"] (spAt K 8) := by
  refine F.ok scRound (fun vs H Q E h => ?_) (fun cdv A outer s H vs Q E hr h => ?_)
  · obtain ⟨a, l, rfl, _⟩ := h
    rfl
  · obtain ⟨a, l, rfl, hl, h20, q⟩ := h
    refine ⟨_, pss_one (ps_ret (pcall G hr (pa_cons (pv 0) (pa_cons (pcn c) pa_nil)))), ?_⟩
    exact ⟨_, rfl, a, l, 8, rfl, hl, by omega, q⟩
theorem scX : FnScope ["question"] ["question"] (defScope sX) := ⟨rfl, rfl, rfl, by decide +kernel, rfl, by decide +kernel, by decide +kernel⟩
theorem ok_x {f : Addr} {fd : FuncData} (F : Fun K "x_of" "x_of" sX f fd) (G : Fn P w K mg base 1 "number_at" ["message", "place"] (spNum K)) (c : Cn mg "LAST_FIELD_AT" 12) : FnOk P w K mg base CX0 2 f fd ["question"] (spAt K 12) := by
  refine F.ok scX (fun vs H Q E h => ?_) (fun cdv A outer s H vs Q E hr h => ?_)
  · obtain ⟨a, l, rfl, _⟩ := h
    rfl
  · obtain ⟨a, l, rfl, hl, h20, q⟩ := h
    refine ⟨_, pss_one (ps_ret (pcall G hr (pa_cons (pv 0) (pa_cons (pcn c) pa_nil)))), ?_⟩
    exact ⟨_, rfl, a, l, 12, rfl, hl, by omega, q⟩
theorem scChk : FnScope ["message"] ["message"] (defScope sChk) := ⟨rfl, rfl, rfl, by decide +kernel, rfl, by decide +kernel, by decide +kernel⟩
theorem ok_chk {f : Addr} {fd : FuncData} (F : Fun K "has_right_check" "has_right_check" sChk f fd) (G : Fn P w K mg base 1 "number_at" ["message", "place"] (spNum K)) (G2 : Fn P w K mg base 2 "crc32c" ["numbers"] (spCrc K)) (c : Cn mg "CHECK_AT" 16) : FnOk P w K mg base CX0 3 f fd ["message"] (spChk K) := by
  refine F.ok scChk (fun vs H Q E h => ?_) (fun cdv A outer s H vs Q E hr h => ?_)
  · obtain ⟨a, l, rfl, _⟩ := h
    rfl
  · obtain ⟨a, l, rfl, hl, h20, q⟩ := h
    refine ⟨_, pss_one (ps_ret (pe_cmpR op_eq (pcall G (hr.mono (by decide)) (pa_cons (pv 0) (pa_cons (pcn c) pa_nil))) (pcall G2 hr (pa_cons (pe_slice sl_list (pv 0) po_none (po_some (pcn c))) pa_nil)) (nomark _))), ?_⟩
    refine ⟨_, rfl, a, l, 16, rfl, hl, by omega, _, rfl, _, rfl, a, _, rfl, hl, fun p hp => ⟨p, l.take 16, rfl, SqL.of (Eq.trans upd_same (congrArg (fun z => some (HO.lst z)) (cut_to (k := 16)))), rfl, ?_⟩⟩
    have := q _ (same_new (o := .lst (cutV (nv l) none (some (16 : Int)))) hp)
    have e : decide (iv (Km352.num l 16 4) = iv (Km352.crc (l.take 16))) = decide (Km352.num l 16 4 = Km352.crc (l.take 16)) := by
      congr 1
      simp only [iv, V.int.injEq, eq_iff_iff]
      omega
    rw [← e] at this
    exact this
theorem scSR : FnScope ["message"] ["message"] (defScope sSR) := ⟨rfl, rfl, rfl, by decide +kernel, rfl, by decide +kernel, by decide +kernel⟩
theorem ok_sr {f : Addr} {fd : FuncData} (F : Fun K "has_right_search_and_round" "has_right_search_and_round" sSR f fd) (G : Fn P w K mg base 2 "search_of" ["message"] (spAt K 4)) (G2 : Fn P w K mg base 2 "round_of" ["message"] (spAt K 8)) (c : Cn mg "LAST_ROUND" 32) : FnOk P w K mg base CX0 3 f fd ["message"] (spSR K) := by
  refine F.ok scSR (fun vs H Q E h => ?_) (fun cdv A outer s H vs Q E hr h => ?_)
  · obtain ⟨a, l, rfl, _⟩ := h
    rfl
  · obtain ⟨a, l, rfl, hl, h20, q⟩ := h
    refine ⟨_, pss_one (ps_ret (pe_and (pe_cmpR op_ge (pcall G hr (pa_cons (pv 0) pa_nil)) pe_int (nomark _)) (pe_one (pe_cmpR op_le (pcall G2 hr (pa_cons (pv 0) pa_nil)) (pcn c) (nomark _))))), ?_⟩
    refine ⟨_, rfl, a, l, rfl, hl, h20, _, _, rfl, rfl, _, rfl, ite2 (fun e => ?_) (fun e => ?_)⟩
    · have e1 : (1 : Int) ≤ (Km352.num l 4 4 : Int) := of_decide_eq_true e
      refine ⟨_, rfl, a, l, rfl, hl, h20, _, _, rfl, rfl, ?_⟩
      have e2 : decide (1 ≤ Km352.num l 4 4 ∧ Km352.num l 8 4 ≤ 32) = decide ((Km352.num l 8 4 : Int) ≤ 32) := by
        congr 1
        simp only [eq_iff_iff]
        omega
      rw [e2] at q
      exact q
    · have e1 : ¬ (1 : Int) ≤ (Km352.num l 4 4 : Int) := fun z => e (decide_eq_true z)
      rw [decide_eq_false (by omega)] at q
      exact q
theorem scIsQ : FnScope ["message"] ["message"] (defScope sIsQ) := ⟨rfl, rfl, rfl, by decide +kernel, rfl, by decide +kernel, by decide +kernel⟩
def dn (n : Nat) : PyData := .int (n : Int)
theorem dp_nv {H : Hp} : ∀ (l : List Nat), DpAll K H (nv l) (l.map dn)
  | [] => .nil
  | n :: l => .cons (.int _) (dp_nv l)
theorem eqv_nv : ∀ (l m : List Nat), PyData.eqvAll (l.map dn) (m.map dn) = decide (l = m)
  | [], [] => by simp [PyData.eqvAll]
  | [], _ :: _ => by simp [PyData.eqvAll]
  | _ :: _, [] => by simp [PyData.eqvAll]
  | a :: l, b :: m => by
    have ih := eqv_nv l m
    simp only [List.map_cons, PyData.eqvAll, dn, PyData.eqv, List.cons.injEq]
    rw [ih]
    rw [Bool.eq_iff_iff]
    simp only [Bool.and_eq_true, beq_iff_eq, decide_eq_true_eq]
    constructor <;> rintro ⟨x, y⟩ <;> exact ⟨by omega, y⟩
theorem can_nv : ∀ (l : List Nat), PyData.canLayAll0 (l.map dn) = true
  | [] => rfl
  | a :: l => by
    have ih := can_nv l
    simp only [List.map_cons, PyData.canLayAll0, dn, PyData.canLay0, ih, Bool.and_self]
theorem shaped4 {a b c d : Int} : SeqAt.shaped (.list [.int a, .int b, .int c, .int d]) = true := by rfl
theorem ok_isq {f : Addr} {fd : FuncData} (F : Fun K "is_right_question" "is_right_question" sIsQ f fd) (G : Fn P w K mg base 3 "has_right_search_and_round" ["message"] (spSR K)) (G2 : Fn P w K mg base 3 "has_right_check" ["message"] (spChk K)) (c : Cn mg "SEARCH_AT" 4) (c1 : Cn mg "QUESTION" 1) : FnOk P w K mg base CX0 4 f fd ["message"] (spIsQ K) := by
  refine F.ok scIsQ (fun vs H Q E h => ?_) (fun cdv A outer s H vs Q E hr h => ?_)
  · obtain ⟨a, l, rfl, _⟩ := h
    rfl
  · obtain ⟨a, l, rfl, hl, h20, hb, q⟩ := h
    refine ⟨_, pss_cons (ps_if (pt_cmpR (op_neD hr.units) (pe_slice sl_list (pv 0) po_none (po_some (pcn c))) (pe_lst (pa_cons (pcn c1) (pa_cons pe_int (pa_cons pe_int (pa_cons pe_int pa_nil))))) (nomark _)) (pss_one (ps_ret pe_bl)) pss_nil)
      (pss_one (ps_ret (pe_and (pcall G hr (pa_cons (pv 0) pa_nil)) (pe_one (pcall G2 hr (pa_cons (pv 0) pa_nil)))))), ?_⟩
    rw [Mx.question_iff h20 hb] at q
    obtain ⟨a0, a1, a2, a3, e4⟩ := Mx.four (l := l.take 4) (by rw [List.length_take]; omega)
    refine ⟨_, rfl, _, rfl, a, _, rfl, hl, fun p hp => ⟨(by show 4 ≤ sizeLine; decide), fun p2 hp2 => ?_⟩⟩
    have s1 : Same H (upd H p (.lst (cutV (nv l) none (some (4 : Int))))) := same_new hp
    have s2 : Same H (upd (upd H p (.lst (cutV (nv l) none (some (4 : Int))))) p2 (.lst [V.int 1, V.int 0, V.int 0, V.int 0])) := s1.trans (same_new hp2)
    have x1 : SqL K (upd (upd H p (.lst (cutV (nv l) none (some (4 : Int))))) p2 (.lst [V.int 1, V.int 0, V.int 0, V.int 0])) p (nv [a0, a1, a2, a3]) := by
      refine (same_new hp2).seq (SqL.of (Eq.trans upd_same ?_))
      rw [show (some (4 : Int)) = some ((4 : Nat) : Int) from rfl, cut_to, e4]
    have x2 : SqL K (upd (upd H p (.lst (cutV (nv l) none (some (4 : Int))))) p2 (.lst [V.int 1, V.int 0, V.int 0, V.int 0])) p2 (nv [1, 0, 0, 0]) := SqL.of upd_same
    refine ⟨_, _, .lst x1 (dp_nv _), .lst x2 (dp_nv _), shaped4, shaped4, _, rfl, ite2 (fun e => ?_) (fun e => ?_)⟩
    · have e5 : ¬ [a0, a1, a2, a3] = [1, 0, 0, 0] := fun z => by
        have e6 : (!PyData.eqvAll ([a0, a1, a2, a3].map dn) ([1, 0, 0, 0].map dn)) = true := e
        rw [eqv_nv, z] at e6
        simp at e6
      rw [e4, if_neg fun z => e5 z.1] at q
      exact q _ s2
    · have e5 : [a0, a1, a2, a3] = [1, 0, 0, 0] := by
        have e6 : ¬ (!PyData.eqvAll ([a0, a1, a2, a3].map dn) ([1, 0, 0, 0].map dn)) = true := e
        rw [eqv_nv] at e6
        simpa using e6
      rw [e4] at q
      have x0 : SqL K (upd (upd H p (.lst (cutV (nv l) none (some (4 : Int))))) p2 (.lst [V.int 1, V.int 0, V.int 0, V.int 0])) a (nv l) := s2.seq hl
      refine ⟨_, rfl, a, l, rfl, x0, h20, _, rfl, ite2 (fun e7 => ?_) (fun e7 => ?_)⟩
      · have e8 := of_decide_eq_true e7
        refine ⟨_, rfl, a, l, rfl, x0, h20, fun H' s3 => ?_⟩
        have := q _ (s2.trans s3)
        by_cases e9 : Km352.num l 16 4 = Km352.crc (l.take 16)
        · rw [if_pos ⟨e5, e8, e9⟩] at this
          rw [decide_eq_true e9]
          exact this
        · rw [if_neg fun z => e9 z.2.2] at this
          rw [decide_eq_false e9]
          exact this
      · have e8 : ¬ _ := fun z => e7 (decide_eq_true z)
        have := q _ s2
        rw [if_neg fun z => e8 z.2.1] at this
        exact this
theorem small20 {n : Nat} (h : n ≤ 20) : n ≤ sizeLine := Nat.le_trans h (by decide)
theorem scStn : FnScope ["answer"] ["answer"] (defScope sStn) := ⟨rfl, rfl, rfl, by decide +kernel, rfl, by decide +kernel, by decide +kernel⟩
theorem at1 {l : List Nat} (h : l.length = 20) : l[1]? = some (l.getD 1 0) := by
  rw [List.getD_eq_getElem?_getD, List.getElem?_eq_getElem (by omega)]
  rfl
theorem ok_stn {f : Addr} {fd : FuncData} (F : Fun K "station_of" "station_of" sStn f fd) (c : Cn mg "STATION_AT" 1) : FnOk P w K mg base CX0 1 f fd ["answer"] (spStn K) := by
  refine F.ok scStn (fun vs H Q E h => ?_) (fun cdv A outer s H vs Q E hr h => ?_)
  · obtain ⟨a, l, rfl, _⟩ := h
    rfl
  · obtain ⟨a, l, rfl, hl, h20, q⟩ := h
    refine ⟨_, pss_one (ps_ret (pe_ix ix_list (pv 0) (pcn c) (fun _ _ => rfl))), ?_⟩
    exact ⟨_, rfl, a, _, _, iv (l.getD 1 0), rfl, rfl, hl, at_of (j := 1) rfl (by rw [nv_get, at1 h20]; rfl), q⟩
theorem scHow : FnScope ["answer"] ["answer"] (defScope sHow) := ⟨rfl, rfl, rfl, by decide +kernel, rfl, by decide +kernel, by decide +kernel⟩
theorem ok_how {f : Addr} {fd : FuncData} (F : Fun K "how_many_of" "how_many_of" sHow f fd) (G : Fn P w K mg base 1 "number_at" ["message", "place"] (spNum K)) (c : Cn mg "LAST_FIELD_AT" 12) : FnOk P w K mg base CX0 2 f fd ["answer"] (spAt K 12) := by
  refine F.ok scHow (fun vs H Q E h => ?_) (fun cdv A outer s H vs Q E hr h => ?_)
  · obtain ⟨a, l, rfl, _⟩ := h
    rfl
  · obtain ⟨a, l, rfl, hl, h20, q⟩ := h
    refine ⟨_, pss_one (ps_ret (pcall G hr (pa_cons (pv 0) (pa_cons (pcn c) pa_nil)))), ?_⟩
    exact ⟨_, rfl, a, l, 12, rfl, hl, by omega, q⟩
theorem scIsA : FnScope ["message", "station"] ["message"] (defScope sIsA) := ⟨rfl, rfl, rfl, by decide +kernel, rfl, by decide +kernel, by decide +kernel⟩
theorem ok_isa {f : Addr} {fd : FuncData} (F : Fun K "is_right_answer" "is_right_answer" sIsA f fd) (G0 : Fn P w K mg base 1 "station_of" ["answer"] (spStn K)) (G1 : Fn P w K mg base 2 "how_many_of" ["answer"] (spAt K 12)) (G : Fn P w K mg base 3 "has_right_search_and_round" ["message"] (spSR K)) (G2 : Fn P w K mg base 3 "has_right_check" ["message"] (spChk K))
    (c : Cn mg "SEARCH_AT" 4) (c1 : Cn mg "ANSWER" 2) (c2 : Cn mg "HIGHEST_STATION" 15) (c3 : Cn mg "MOST_NUMBERS" 4096) : FnOk P w K mg base CX0 4 f fd ["message"] (spIsA K) := by
  refine F.ok scIsA (fun vs H Q E h => ?_) (fun cdv A outer s H vs Q E hr h => ?_)
  · obtain ⟨a, l, rfl, _⟩ := h
    rfl
  · obtain ⟨a, l, rfl, hl, h20, hb, q⟩ := h
    have hr1 : Room 1 _ := hr.mono (by decide)
    have hr2 : Room 2 _ := hr.mono (by decide)
    refine ⟨_, pss_cons (ps_set (i := 1) scIsA.nd rfl (Or.inl rfl) (pcall G0 hr1 (pa_cons (pv 0) pa_nil)))
      (pss_cons (ps_if (pw_or (pt_cmpR (op_neD hr.units) (pe_slice sl_list (pv 0) po_none (po_some (pcn c))) (pe_lst (pa_cons (pcn c1) (pa_cons (pv 1) (pa_cons pe_int (pa_cons pe_int pa_nil))))) (nomark _)) (pw_or1 (pt_cmpR op_gt (pv 1) (pcn c2) (nomark _)))).pt (pss_one (ps_ret pe_bl)) pss_nil)
      (pss_cons (ps_if (pt_cmpR op_gt (pcall G1 hr2 (pa_cons (pv 0) pa_nil)) (pcn c3) (nomark _)) (pss_one (ps_ret pe_bl)) pss_nil)
      (pss_one (ps_ret (pe_and (pcall G hr (pa_cons (pv 0) pa_nil)) (pe_one (pcall G2 hr (pa_cons (pv 0) pa_nil)))))))), ?_⟩
    rw [Mx.answer_iff h20 hb] at q
    generalize hst : l.getD 1 0 = st at q
    obtain ⟨a0, a1, a2, a3, e4⟩ := Mx.four (l := l.take 4) (by rw [List.length_take]; omega)
    refine ⟨_, rfl, a, l, rfl, hl, h20, ?_⟩
    rw [hst]
    refine ⟨_, rfl, _, rfl, a, _, rfl, hl, fun p hp => ⟨_, rfl, (by show 4 ≤ sizeLine; decide), fun p2 hp2 => ?_⟩⟩
    have s1 : Same H (upd H p (.lst (cutV (nv l) none (some (4 : Int))))) := same_new hp
    have s2 : Same H (upd (upd H p (.lst (cutV (nv l) none (some (4 : Int))))) p2 (.lst [V.int 2, iv st, V.int 0, V.int 0])) := s1.trans (same_new hp2)
    have x1 : SqL K (upd (upd H p (.lst (cutV (nv l) none (some (4 : Int))))) p2 (.lst [V.int 2, iv st, V.int 0, V.int 0])) p (nv [a0, a1, a2, a3]) := by
      refine (same_new hp2).seq (SqL.of (Eq.trans upd_same ?_))
      rw [show (some (4 : Int)) = some ((4 : Nat) : Int) from rfl, cut_to, e4]
    have x2 : SqL K (upd (upd H p (.lst (cutV (nv l) none (some (4 : Int))))) p2 (.lst [V.int 2, iv st, V.int 0, V.int 0])) p2 (nv [2, st, 0, 0]) := SqL.of upd_same
    have x0 : SqL K (upd (upd H p (.lst (cutV (nv l) none (some (4 : Int))))) p2 (.lst [V.int 2, iv st, V.int 0, V.int 0])) a (nv l) := s2.seq hl
    refine ⟨_, _, .lst x1 (dp_nv _), .lst x2 (dp_nv _), shaped4, shaped4, _, rfl, ite2 (fun e => ?_) (fun e => ?_)⟩
    · have e5 : ¬ [a0, a1, a2, a3] = [2, st, 0, 0] := fun z => by
        have e6 : (!PyData.eqvAll ([a0, a1, a2, a3].map dn) ([2, st, 0, 0].map dn)) = true := e
        rw [eqv_nv, z] at e6
        simp at e6
      rw [e4, if_neg fun z => e5 z.1] at q
      exact iteT (q _ s2)
    · have e5 : [a0, a1, a2, a3] = [2, st, 0, 0] := by
        have e6 : ¬ (!PyData.eqvAll ([a0, a1, a2, a3].map dn) ([2, st, 0, 0].map dn)) = true := e
        rw [eqv_nv] at e6
        simpa using e6
      rw [e4] at q
      refine ⟨_, rfl, _, _, rfl, rfl, _, rfl, ite2 (fun e6 => ?_) (fun e6 => ?_)⟩
      · have e7 : (15 : Int) < (st : Int) := of_decide_eq_true e6
        rw [if_neg fun z => by have := z.2.1; omega] at q
        exact q _ s2
      · have e7 : ¬ (15 : Int) < (st : Int) := fun z => e6 (decide_eq_true z)
        refine ⟨_, rfl, a, l, rfl, x0, h20, _, _, rfl, rfl, _, rfl, ite2 (fun e8 => ?_) (fun e8 => ?_)⟩
        · have e9 : (4096 : Int) < (Km352.num l 12 4 : Int) := of_decide_eq_true e8
          rw [if_neg fun z => by have := z.2.2.2.1; omega] at q
          exact q _ s2
        · have e9 : ¬ (4096 : Int) < (Km352.num l 12 4 : Int) := fun z => e8 (decide_eq_true z)
          refine ⟨_, rfl, a, l, rfl, x0, h20, _, rfl, ite2 (fun f1 => ?_) (fun f1 => ?_)⟩
          · have f2 := of_decide_eq_true f1
            refine ⟨_, rfl, a, l, rfl, x0, h20, fun H' s3 => ?_⟩
            have := q _ (s2.trans s3)
            by_cases f3 : Km352.num l 16 4 = Km352.crc (l.take 16)
            · rw [if_pos ⟨e5, by omega, f2, by omega, f3⟩] at this
              rw [decide_eq_true f3]
              exact this
            · rw [if_neg fun z => f3 z.2.2.2.2] at this
              rw [decide_eq_false f3]
              exact this
          · have f2 : ¬ _ := fun z => f1 (decide_eq_true z)
            have := q _ s2
            rw [if_neg fun z => f2 z.2.2.1] at this
            exact this
theorem scWr : FnScope ["head", "search", "round_number", "last_field", "unchecked"] ["head", "search", "round_number", "last_field"] (defScope sWr) := ⟨rfl, rfl, rfl, by decide +kernel, rfl, by decide +kernel, by decide +kernel⟩
theorem ok_wr {f : Addr} {fd : FuncData} (F : Fun K "written" "written" sWr f fd) (G : Fn P w K mg base 1 "four_bytes" ["number"] spFour) (G2 : Fn P w K mg base 2 "crc32c" ["numbers"] (spCrc K)) :
    FnOk P w K mg base CX0 3 f fd ["head", "search", "round_number", "last_field"] spWr := by
  refine F.ok scWr (fun vs H Q E h => ?_) (fun cdv A outer s H vs Q E hr h => ?_)
  · obtain ⟨a, hd, sr, r, h, rfl, _⟩ := h
    rfl
  · obtain ⟨a, hd, sr, r, h, rfl, ha, hd4, hdb, hs, hrr, hh, q⟩ := h
    have hr1 : Room 1 _ := hr.mono (by decide)
    refine ⟨_, pss_cons (ps_set (i := 4) scWr.nd rfl (Or.inl rfl) (pe_op op_cat (pe_op op_cat (pe_op op_cat (pv 0) (pcall G hr1 (pa_cons (pv 1) pa_nil))) (pcall G hr1 (pa_cons (pv 2) pa_nil))) (pcall G hr1 (pa_cons (pv 3) pa_nil))))
      (pss_one (ps_ret (pe_op op_cat (pv 4) (pcall G hr1 (pa_cons (pcall G2 hr (pa_cons (pv 4) pa_nil)) pa_nil))))), ?_⟩
    have l4 : ∀ n, (nv (Km352.le 4 n)).length = 4 := fun n => by rw [nv_len, Mx.le4_len]
    have lh : (nv hd).length = 4 := by rw [nv_len, hd4]
    refine ⟨_, rfl, _, rfl, sr, rfl, hs, fun p1 h1 => ?_⟩
    have s1 := same_new (o := .lst (nv (Km352.le 4 sr))) h1
    refine ⟨a, p1, _, _, rfl, rfl, s1 _ _ ha, upd_same, (by rw [l4, lh]; decide), fun p2 h2 => ?_⟩
    have s2 := same_new (o := .lst (nv hd ++ nv (Km352.le 4 sr))) h2
    refine ⟨_, rfl, r, rfl, hrr, fun p3 h3 => ?_⟩
    have s3 := same_new (o := .lst (nv (Km352.le 4 r))) h3
    refine ⟨p2, p3, _, _, rfl, rfl, s3 _ _ upd_same, upd_same, (by rw [List.length_append, l4, l4, lh]; decide), fun p4 h4 => ?_⟩
    have s4 := same_new (o := .lst (nv hd ++ nv (Km352.le 4 sr) ++ nv (Km352.le 4 r))) h4
    refine ⟨_, rfl, h, rfl, hh, fun p5 h5 => ?_⟩
    have s5 := same_new (o := .lst (nv (Km352.le 4 h))) h5
    refine ⟨p4, p5, _, _, rfl, rfl, s5 _ _ upd_same, upd_same, (by rw [List.length_append, List.length_append, l4, l4, l4, lh]; decide), fun p7 h7 => ?_⟩
    have eu : nv hd ++ nv (Km352.le 4 sr) ++ nv (Km352.le 4 r) ++ nv (Km352.le 4 h) = nv (hd ++ (Km352.le 4 sr ++ (Km352.le 4 r ++ Km352.le 4 h))) := by
      rw [nv_app, nv_app, nv_app, List.append_assoc, List.append_assoc]
    have s7 := same_new (o := .lst (nv hd ++ nv (Km352.le 4 sr) ++ nv (Km352.le 4 r) ++ nv (Km352.le 4 h))) h7
    have x7 : ∀ G : Hp, upd G p7 (HO.lst (nv hd ++ nv (Km352.le 4 sr) ++ nv (Km352.le 4 r) ++ nv (Km352.le 4 h))) p7 = some (.lst (nv (hd ++ (Km352.le 4 sr ++ (Km352.le 4 r ++ Km352.le 4 h))))) := fun G =>
      Eq.trans upd_same (congrArg (fun z => some (HO.lst z)) eu)
    have hcrc : Km352.crc (hd ++ (Km352.le 4 sr ++ (Km352.le 4 r ++ Km352.le 4 h))) < 2 ^ 32 := by
      refine Mx.crc_lt fun b hb => ?_
      simp only [List.mem_append] at hb
      rcases hb with hb | hb | hb | hb
      · exact hdb b hb
      · exact Mx.le4_lt hb
      · exact Mx.le4_lt hb
      · exact Mx.le4_lt hb
    refine ⟨_, rfl, _, rfl, p7, _, rfl, SqL.of (x7 _), _, rfl, hcrc, fun p8 h8 => ?_⟩
    have s8 := same_new (o := .lst (nv (Km352.le 4 (Km352.crc (hd ++ (Km352.le 4 sr ++ (Km352.le 4 r ++ Km352.le 4 h))))))) h8
    refine ⟨p7, p8, _, _, rfl, rfl, s8 _ _ (x7 _), upd_same, ?_, fun p9 h9 => ?_⟩
    · rw [nv_len, List.length_append, List.length_append, List.length_append, Mx.le4_len, Mx.le4_len, Mx.le4_len, l4, hd4]
      show 4 + (4 + (4 + 4)) + 4 ≤ sizeLine
      decide
    have s9 := same_new (o := .lst (nv (hd ++ (Km352.le 4 sr ++ (Km352.le 4 r ++ Km352.le 4 h))) ++ nv (Km352.le 4 (Km352.crc (hd ++ (Km352.le 4 sr ++ (Km352.le 4 r ++ Km352.le 4 h))))))) h9
    have sall := s1.trans (s2.trans (s3.trans (s4.trans (s5.trans (s7.trans s8)))))
    refine q _ p9 (sall.trans s9) (sall.free h9) (Eq.trans upd_same ?_)
    unfold Km352.checked
    rw [nv_app hd, nv_app (hd ++ _), nv_app hd]
theorem scWQ : FnScope ["search", "round_number", "x"] ["search", "round_number", "x"] (defScope sWQ) := ⟨rfl, rfl, rfl, by decide +kernel, rfl, by decide +kernel, by decide +kernel⟩
theorem ok_wq {f : Addr} {fd : FuncData} (F : Fun K "written_question" "written_question" sWQ f fd) (G : Fn P w K mg base 3 "written" ["head", "search", "round_number", "last_field"] spWr) (c : Cn mg "QUESTION" 1) :
    FnOk P w K mg base CX0 4 f fd ["search", "round_number", "x"] spWQ := by
  refine F.ok scWQ (fun vs H Q E h => ?_) (fun cdv A outer s H vs Q E hr h => ?_)
  · obtain ⟨sr, r, x, rfl, _⟩ := h
    rfl
  · obtain ⟨sr, r, x, rfl, hs, hrr, hx, q⟩ := h
    refine ⟨_, pss_one (ps_ret (pcall G hr (pa_cons (pe_lst (pa_cons (pcn c) (pa_cons pe_int (pa_cons pe_int (pa_cons pe_int pa_nil))))) (pa_cons (pv 0) (pa_cons (pv 1) (pa_cons (pv 2) pa_nil)))))), ?_⟩
    refine ⟨(by show 4 ≤ sizeLine; decide), fun p hp => ?_⟩
    have s1 := same_new (o := .lst (nv [1, 0, 0, 0])) hp
    refine ⟨_, rfl, _, rfl, _, rfl, p, [1, 0, 0, 0], sr, r, x, rfl, upd_same, rfl, by decide, hs, hrr, hx, fun H' p2 s2 hp2 h2 => ?_⟩
    exact q H' p2 (s1.trans s2) (s1.free hp2) h2
theorem scWA : FnScope ["station", "search", "round_number", "how_many"] ["station", "search", "round_number", "how_many"] (defScope sWA) := ⟨rfl, rfl, rfl, by decide +kernel, rfl, by decide +kernel, by decide +kernel⟩
theorem ok_wa {f : Addr} {fd : FuncData} (F : Fun K "written_answer" "written_answer" sWA f fd) (G : Fn P w K mg base 3 "written" ["head", "search", "round_number", "last_field"] spWr) (c : Cn mg "ANSWER" 2) :
    FnOk P w K mg base CX0 4 f fd ["station", "search", "round_number", "how_many"] spWA := by
  refine F.ok scWA (fun vs H Q E h => ?_) (fun cdv A outer s H vs Q E hr h => ?_)
  · obtain ⟨me, sr, r, h, rfl, _⟩ := h
    rfl
  · obtain ⟨me, sr, r, h, rfl, hme, hs, hrr, hh, q⟩ := h
    refine ⟨_, pss_one (ps_ret (pcall G hr (pa_cons (pe_lst (pa_cons (pcn c) (pa_cons (pv 0) (pa_cons pe_int (pa_cons pe_int pa_nil))))) (pa_cons (pv 1) (pa_cons (pv 2) (pa_cons (pv 3) pa_nil)))))), ?_⟩
    refine ⟨_, rfl, (by show 4 ≤ sizeLine; decide), fun p hp => ?_⟩
    have s1 := same_new (o := .lst (nv [2, me, 0, 0])) hp
    refine ⟨_, rfl, _, rfl, _, rfl, p, [2, me, 0, 0], sr, r, h, rfl, upd_same, rfl, ?_, hs, hrr, hh, fun H' p2 s2 hp2 h2 => ?_⟩
    · intro b hb
      simp only [List.mem_cons, List.not_mem_nil, or_false] at hb
      omega
    · exact q H' p2 (s1.trans s2) (s1.free hp2) h2
end
end My
end
section
set_option Elab.async false
set_option linter.all false
set_option maxRecDepth 100000
set_option maxHeartbeats 4000000
namespace My
open PySem PySem.Spec PyProof.Rows L2
open Km352 (Station)
abbrev cSt : Stmt := top 46
abbrev sSInit : Stmt := inClass cSt 0
abbrev sSAdd : Stmt := inClass cSt 1
abbrev sSHeard : Stmt := inClass cSt 2
abbrev sSMany : Stmt := inClass cSt 3
abbrev sSHear : Stmt := inClass cSt 4
abbrev sSHow : Stmt := inClass cSt 5
/-! ### what a call changes, of what it owns -/
structure Ch (H H' : Hp) (F F' : List Addr) : Prop where
  keep : ∀ b o, H b = some o → b ∉ F → H' b = some o
  fp : ∀ b ∈ F', b ∈ F ∨ H b = none
  live : ∀ b, (∃ o, H b = some o) → ∃ o, H' b = some o
theorem Ch.refl (H : Hp) (F : List Addr) : Ch H H F F := ⟨fun _ _ h _ => h, fun _ h => .inl h, fun _ h => h⟩
theorem Ch.same {H H' : Hp} (s : Same H H') (F : List Addr) : Ch H H' F F := ⟨fun b o h _ => s b o h, fun _ h => .inl h, fun b ⟨o, h⟩ => ⟨o, s b o h⟩⟩
theorem Ch.free {H H' : Hp} {F F' : List Addr} (c : Ch H H' F F') {b : Addr} (h : H' b = none) : H b = none := by
  cases e : H b with
  | none => rfl
  | some o =>
    obtain ⟨u, q⟩ := c.live b ⟨o, e⟩
    rw [h] at q
    cases q
theorem upd_live {H : Hp} {a b : Addr} {x : HO} (h : ∃ o, H b = some o) : ∃ o, upd H a x b = some o := by
  by_cases e : b = a
  · subst e
    exact ⟨x, upd_same⟩
  · rw [upd_ne e]
    exact h
theorem Ch.trans {H H1 H2 : Hp} {F F1 F2 : List Addr} (a : Ch H H1 F F1) (b : Ch H1 H2 F1 F2) : Ch H H2 F F2 where
  keep := fun c o h n => b.keep c o (a.keep c o h n) fun z => by
    rcases a.fp c z with q | q
    · exact n q
    · rw [q] at h; cases h
  fp := fun c h => by
    rcases b.fp c h with q | q
    · exact a.fp c q
    · cases e : H c with
      | none => exact .inr rfl
      | some o =>
        by_cases m : c ∈ F
        · exact .inl m
        · rw [a.keep c o e m] at q; cases q
  live := fun c h => b.live c (a.live c h)
theorem Ch.seq {K : PySem.W.Frag} {H H' : Hp} {F F' : List Addr} {p : Addr} {xs : List V} (e : Ch H H' F F') (n : p ∉ F) (h : SqL K H p xs) : SqL K H' p xs := by
  rcases h with (h | ⟨o, h⟩) | h
  · exact .inl (.inl (e.keep _ _ h n))
  · exact .inl (.inr ⟨o, e.keep _ _ h n⟩)
  · exact .inr h
/-- a result: a new list -/
def Res (Q : VK) (H : Hp) (F : List Addr) (ok : Hp → List Addr → Prop) (r : List Int) : Prop :=
  ∀ (H' : Hp) (F' : List Addr) (p : Addr), ok H' F' → Ch H H' F F' → H p = none → H' p = some (.lst (r.map V.int)) → Q (.ref p) H'
/-! ### a station -/
def sf (me : Nat) (c l : Addr) (s : Nat) : List (Str × V) := [("me", iv me), ("counting", .ref c), ("later", .ref l), ("last_search", iv s)]
structure StAt (C : Addr) (H : Hp) (a : Addr) (F : List Addr) (t : Station) : Prop where
  ex : ∃ dx c l, F = [a, c, l] ∧ c ≠ l ∧ H a = some (.ins C dx (sf t.me c l t.search)) ∧ H c = some (.lst (nv t.numbers)) ∧ H l = some (.lst (nv t.later))
  me : t.me < 16
  many : t.numbers.length + t.later.length ≤ 4096
  search : t.search < 2 ^ 32
theorem StAt.same {C : Addr} {H H' : Hp} {a : Addr} {F : List Addr} {t : Station} (h : StAt C H a F t) (k : ∀ b o, b ∈ F → H b = some o → H' b = some o) : StAt C H' a F t := by
  obtain ⟨⟨dx, c, l, rfl, h1, h2, h3, h4⟩, x, y, z⟩ := h
  exact ⟨⟨dx, c, l, rfl, h1, k _ _ (by simp) h2, k _ _ (by simp) h3, k _ _ (by simp) h4⟩, x, y, z⟩
structure TSt (K : PySem.W.Frag) (C : Addr) : Prop where
  cl : Cls K C
  n1 : NoAttr K C "me"
  n2 : NoAttr K C "counting"
  n3 : NoAttr K C "later"
  n4 : NoAttr K C "last_search"
inductive spSInit (C : Addr) (vs : List V) (H : Hp) (Q : VK) (E : XK) : Prop
  | mk (p dx : Addr) (me : Nat) (h0 : vs = [.ref p, iv me]) (h1 : me < 16) (h2 : H p = some (.ins C dx [])) (h3 : ∀ (H' : Hp) (F : List Addr), StAt C H' p F (Km352.station0 me) → Ch H H' [p] F → Q .non H') : spSInit C vs H Q E
inductive spSAdd (C : Addr) (vs : List V) (H : Hp) (Q : VK) (E : XK) : Prop
  | mk (a : Addr) (F : List Addr) (t : Station) (x : Nat) (h0 : vs = [.ref a, iv x]) (h1 : StAt C H a F t) (h2 : Res Q H F (fun H' F' => StAt C H' a F' (Km352.sDoes t (.sAdd x)).1) (Km352Neutral.told (Km352.sDoes t (.sAdd x)).2)) : spSAdd C vs H Q E
inductive spSMany (C : Addr) (vs : List V) (H : Hp) (Q : VK) (E : XK) : Prop
  | mk (a : Addr) (F : List Addr) (t : Station) (h0 : vs = [.ref a]) (h1 : StAt C H a F t) (h2 : Res Q H F (fun H' F' => StAt C H' a F' (Km352.sDoes t .sMany).1) (Km352Neutral.told (Km352.sDoes t .sMany).2)) : spSMany C vs H Q E
inductive spSHear (C : Addr) (vs : List V) (H : Hp) (Q : VK) (E : XK) : Prop
  | mk (a : Addr) (F : List Addr) (t : Station) (q : Km352.Question) (h0 : vs = [.ref a, iv q.search]) (h1 : StAt C H a F t) (h2 : q.search < 2 ^ 32) (h3 : ∀ (H' : Hp) (F' : List Addr), StAt C H' a F' (t.freezes q) → Ch H H' F F' → Q .non H') : spSHear C vs H Q E
inductive spSHow (C : Addr) (vs : List V) (H : Hp) (Q : VK) (E : XK) : Prop
  | mk (a : Addr) (F : List Addr) (t : Station) (x : Nat) (h0 : vs = [.ref a, iv x]) (h1 : StAt C H a F t) (h2 : ∀ H' : Hp, Same H H' → Q (iv (Km352.atMost t.numbers x)) H') : spSHow C vs H Q E
inductive spSHeard (K : PySem.W.Frag) (C : Addr) (vs : List V) (H : Hp) (Q : VK) (E : XK) : Prop
  | mk (a p : Addr) (F : List Addr) (t : Station) (l : List Nat) (h0 : vs = [.ref a, .ref p]) (h1 : StAt C H a F t) (h2 : SqL K H p (nv l)) (h3 : p ∉ F) (h4 : l.length = 20) (h5 : (∀ b ∈ l, b < 256)) (h6 : Res Q H F (fun H' F' => StAt C H' a F' (Km352.sDoes t (.sHeard l)).1) (Km352Neutral.told (Km352.sDoes t (.sHeard l)).2)) : spSHeard K C vs H Q E
section
variable {P : Program} {w : World} {K : PySem.W.Frag} {mg : Str → Option Value} {base : Heap} {C : Addr}
theorem scSInit : FnScope ["self", "me"] ["self", "me"] (defScope sSInit) := ⟨rfl, rfl, rfl, by decide +kernel, rfl, by decide +kernel, by decide +kernel⟩
theorem ok_sinit {f : Addr} {fd : FuncData} (F : Fun K "__init__" "Station.__init__" sSInit f fd) (T : TSt K C) : FnOk P w K mg base CX0 1 f fd ["self", "me"] (spSInit C) := by
  refine F.ok scSInit (fun vs H Q E h => ?_) (fun cdv A outer s H vs Q E hr h => ?_)
  · obtain ⟨p, dx, me, rfl, _⟩ := h
    rfl
  · obtain ⟨p, dx, me, rfl, hme, hp, k⟩ := h
    refine ⟨_, pss_cons (ps_fld (pv 0) (pv 1) rfl) (pss_cons (ps_fld (pv 0) (pe_lst pa_nil) rfl) (pss_cons (ps_fld (pv 0) (pe_lst pa_nil) rfl) (pss_one (ps_fld (pv 0) pe_int rfl)))), ?_⟩
    refine ⟨_, rfl, _, rfl, p, C, dx, [], rfl, hp, T.cl, T.n1, (by show 0 < 1000; decide), Nat.zero_le _, fun c hc => ?_⟩
    have pc : p ≠ c := ne_of_none upd_same hc
    refine ⟨_, rfl, p, C, dx, _, rfl, Eq.trans (upd_ne pc) upd_same, T.cl, T.n2, (by show 1 < 1000; decide), Nat.zero_le _, fun l hl => ?_⟩
    have pl : p ≠ l := ne_of_none upd_same hl
    have cl : c ≠ l := ne_of_none (Eq.trans (upd_ne pc.symm) upd_same) hl
    refine ⟨_, rfl, p, C, dx, _, rfl, Eq.trans (upd_ne pl) upd_same, T.cl, T.n3, (by show 2 < 1000; decide), ?_⟩
    refine ⟨_, rfl, p, C, dx, _, rfl, upd_same, T.cl, T.n4, (by show 3 < 1000; decide), ?_⟩
    refine k _ [p, c, l] ⟨⟨dx, c, l, rfl, cl, upd_same, ?_, ?_⟩, hme, Nat.zero_le _, (by show 0 < 2 ^ 32; decide)⟩ ⟨fun b o e hb => ?_, fun b hb => ?_, fun b hb => upd_live (upd_live (upd_live (upd_live (upd_live (upd_live hb)))))⟩
    · rw [upd_ne pc.symm, upd_ne pc.symm, upd_ne cl, upd_ne pc.symm, upd_same]
      rfl
    · rw [upd_ne pl.symm, upd_ne pl.symm, upd_same]
      rfl
    · have hbp : b ≠ p := fun z => hb (by simp [z])
      have e1 : upd H p (.ins C dx (putF "me" (iv me) [])) b = some o := by rw [upd_ne hbp]; exact e
      have hbc : b ≠ c := ne_of_none e1 hc
      have e2 : upd (upd (upd H p (.ins C dx (putF "me" (iv me) []))) c (.lst [])) p (.ins C dx (putF "counting" (.ref c) (putF "me" (iv me) []))) b = some o := by rw [upd_ne hbp, upd_ne hbc]; exact e1
      have hbl : b ≠ l := ne_of_none e2 hl
      rw [upd_ne hbp, upd_ne hbp, upd_ne hbl]
      exact e2
    · simp only [List.mem_cons, List.not_mem_nil, or_false] at hb ⊢
      rcases hb with rfl | rfl | rfl
      · exact .inl rfl
      · rw [upd_ne pc.symm] at hc
        exact .inr hc
      · rw [upd_ne pl.symm, upd_ne cl.symm, upd_ne pl.symm] at hl
        exact .inr hl
theorem scSMany : FnScope ["self"] ["self"] (defScope sSMany) := ⟨rfl, rfl, rfl, by decide +kernel, rfl, by decide +kernel, by decide +kernel⟩
theorem ok_smany {f : Addr} {fd : FuncData} (F : Fun K "ks_many" "Station.ks_many" sSMany f fd) (T : TSt K C) (hL : mg "len" = none) : FnOk P w K mg base CX0 1 f fd ["self"] (spSMany C) := by
  refine F.ok scSMany (fun vs H Q E h => ?_) (fun cdv A outer s H vs Q E hr h => ?_)
  · obtain ⟨a, F, t, rfl, _⟩ := h
    rfl
  · obtain ⟨a, F, t, rfl, hS, k⟩ := h
    obtain ⟨dx, c, l, rfl, h1, h2, h3, h4⟩ := hS.ex
    refine ⟨_, pss_one (ps_ret (pe_lst (pa_cons pe_int (pa_cons (pe_callB call_len_seq (by rfl) hL PySem.boot_len (pa_cons (pe_fld (pv 0) rfl) pa_nil)) (pa_cons (pe_callB call_len_seq (by rfl) hL PySem.boot_len (pa_cons (pe_fld (pv 0) rfl) pa_nil)) pa_nil))))), ?_⟩
    refine ⟨_, rfl, a, C, dx, _, _, rfl, h2, T.cl, T.n2, rfl, c, _, rfl, .inl (SqL.of h3), _, rfl, a, C, dx, _, _, rfl, h2, T.cl, T.n3, rfl, l, _, rfl, .inl (SqL.of h4), (by show 3 ≤ sizeLine; decide), fun p hp => ?_⟩
    have sm := same_new (o := .lst [.int 0, .int (nv t.numbers).length, .int (nv t.later).length]) hp
    refine k _ _ p (hS.same fun b o _ => sm b o) (Ch.same sm _) hp (Eq.trans upd_same ?_)
    rw [nv_len, nv_len]
    rfl
theorem scSAdd : FnScope ["self", "x"] ["self", "x"] (defScope sSAdd) := ⟨rfl, rfl, rfl, by decide +kernel, rfl, by decide +kernel, by decide +kernel⟩
theorem nv_snoc (l : List Nat) (x : Nat) : nv l ++ [iv x] = nv (l ++ [x]) := by
  rw [nv_app]
  rfl
theorem ok_sadd {f : Addr} {fd : FuncData} (F : Fun K "ks_add" "Station.ks_add" sSAdd f fd) (T : TSt K C) (hL : mg "len" = none) (c1 : Cn mg "MOST_NUMBERS" 4096) (c2 : Cn mg "NO_ROOM" (-28)) : FnOk P w K mg base CX0 1 f fd ["self", "x"] (spSAdd C) := by
  refine F.ok scSAdd (fun vs H Q E h => ?_) (fun cdv A outer s H vs Q E hr h => ?_)
  · obtain ⟨a, F, t, x, rfl, _⟩ := h
    rfl
  · obtain ⟨a, F, t, x, rfl, hS, k⟩ := h
    obtain ⟨dx, c, l, rfl, h1, h2, h3, h4⟩ := hS.ex
    refine ⟨_, pss_cons (ps_if (pt_cmpR op_ge (pe_op op_add (pe_callB call_len_seq (by rfl) hL PySem.boot_len (pa_cons (pe_fld (pv 0) rfl) pa_nil)) (pe_callB call_len_seq (by rfl) hL PySem.boot_len (pa_cons (pe_fld (pv 0) rfl) pa_nil))) (pcn c1) (nomark _)) (pss_one (ps_ret (pe_lst (pa_cons (pcn c2) pa_nil)))) pss_nil)
      (pss_cons (ps_if (pt_cmpR op_eq (pe_fld (pv 0) rfl) pe_int (nomark _))
        (pss_one (ps_expr (pe_bm PySem.F.plainAttrs_list PySem.F.slot_list_append PySem.F.type_list_append mt_append (pe_fld (pv 0) rfl) (pa_cons (pv 1) pa_nil))))
        (pss_one (ps_expr (pe_bm PySem.F.plainAttrs_list PySem.F.slot_list_append PySem.F.type_list_append mt_append (pe_fld (pv 0) rfl) (pa_cons (pv 1) pa_nil)))))
      (pss_one (ps_ret (pe_lst (pa_cons pe_int pa_nil))))), ?_⟩
    refine ⟨_, rfl, a, C, dx, _, _, rfl, h2, T.cl, T.n2, rfl, c, _, rfl, .inl (SqL.of h3), _, rfl, a, C, dx, _, _, rfl, h2, T.cl, T.n3, rfl, l, _, rfl, .inl (SqL.of h4), _, _, rfl, rfl, _, _, rfl, rfl, _, rfl, ite2 (fun e => ?_) (fun e => ?_)⟩
    · have e1 : (4096 : Int) ≤ ((nv t.numbers).length : Int) + ((nv t.later).length : Int) := of_decide_eq_true e
      rw [nv_len, nv_len] at e1
      have e2 : Km352.sDoes t (.sAdd x) = (t, Km352.only (-28)) := by
        show (if Km352.NUMBERS ≤ _ then _ else _) = _
        rw [if_pos (by show 4096 ≤ _; omega)]
      rw [e2] at k
      refine ⟨(by show 1 ≤ sizeLine; decide), fun p hp => ?_⟩
      have sm := same_new (o := .lst [.int (-28)]) hp
      exact k _ _ p (hS.same fun b o _ => sm b o) (Ch.same sm _) hp upd_same
    · have e1 : ¬ (4096 : Int) ≤ ((nv t.numbers).length : Int) + ((nv t.later).length : Int) := fun z => e (decide_eq_true z)
      rw [nv_len, nv_len] at e1
      have ac : a ≠ c := ne_of h2 h3 (by intro z; cases z)
      have al : a ≠ l := ne_of h2 h4 (by intro z; cases z)
      refine ⟨_, rfl, a, C, dx, _, _, rfl, h2, T.cl, T.n4, rfl, rfl, _, rfl, ite2 (fun e3 => ?_) (fun e3 => ?_)⟩
      · have e4 : t.search = 0 := by
          have := V.int.inj (of_decide_eq_true e3)
          omega
        have e2 : Km352.sDoes t (.sAdd x) = ({ t with numbers := t.numbers ++ [x] }, Km352.only 0) := by
          show (if Km352.NUMBERS ≤ _ then _ else _) = _
          rw [if_neg (by show ¬ 4096 ≤ _; omega), if_pos e4]
        rw [e2] at k
        refine ⟨_, rfl, a, C, dx, _, _, rfl, h2, T.cl, T.n2, rfl, .inl ⟨rfl, _, SqL.of h3⟩, _, rfl, c, _, _, rfl, rfl, h3, (by rw [nv_len]; exact Nat.lt_of_le_of_lt (show _ ≤ 4096 by omega) (by decide)), (by show 1 ≤ sizeLine; decide), fun p hp => ?_⟩
        have sm := same_new (o := .lst [.int 0]) hp
        refine k _ [a, c, l] p ⟨⟨dx, c, l, rfl, h1, ?_, ?_, ?_⟩, hS.me, ?_, hS.search⟩ ⟨fun b o e hb => ?_, fun b hb => .inl hb, fun b hb => upd_live (upd_live hb)⟩ ?_ upd_same
        · exact sm _ _ (Eq.trans (upd_ne ac) h2)
        · exact sm _ _ (Eq.trans upd_same (congrArg (fun z => some (HO.lst z)) (nv_snoc _ _)))
        · exact sm _ _ (Eq.trans (upd_ne h1.symm) h4)
        · show (t.numbers ++ [x]).length + t.later.length ≤ 4096
          rw [List.length_append, List.length_singleton]
          omega
        · exact sm _ _ (Eq.trans (upd_ne (fun z => hb (by simp [z]))) e)
        · rw [upd_ne (fun z => by rw [z, upd_same] at hp; cases hp)] at hp
          exact hp
      · have e4 : ¬ t.search = 0 := fun z => e3 (decide_eq_true (by rw [z]; rfl))
        have e2 : Km352.sDoes t (.sAdd x) = ({ t with later := t.later ++ [x] }, Km352.only 0) := by
          show (if Km352.NUMBERS ≤ _ then _ else _) = _
          rw [if_neg (by show ¬ 4096 ≤ _; omega), if_neg e4]
        rw [e2] at k
        refine ⟨_, rfl, a, C, dx, _, _, rfl, h2, T.cl, T.n3, rfl, .inl ⟨rfl, _, SqL.of h4⟩, _, rfl, l, _, _, rfl, rfl, h4, (by rw [nv_len]; exact Nat.lt_of_le_of_lt (show _ ≤ 4096 by omega) (by decide)), (by show 1 ≤ sizeLine; decide), fun p hp => ?_⟩
        have sm := same_new (o := .lst [.int 0]) hp
        refine k _ [a, c, l] p ⟨⟨dx, c, l, rfl, h1, ?_, ?_, ?_⟩, hS.me, ?_, hS.search⟩ ⟨fun b o e hb => ?_, fun b hb => .inl hb, fun b hb => upd_live (upd_live hb)⟩ ?_ upd_same
        · exact sm _ _ (Eq.trans (upd_ne al) h2)
        · exact sm _ _ (Eq.trans (upd_ne h1) h3)
        · exact sm _ _ (Eq.trans upd_same (congrArg (fun z => some (HO.lst z)) (nv_snoc _ _)))
        · show t.numbers.length + (t.later ++ [x]).length ≤ 4096
          rw [List.length_append, List.length_singleton]
          omega
        · exact sm _ _ (Eq.trans (upd_ne (fun z => hb (by simp [z]))) e)
        · rw [upd_ne (fun z => by rw [z, upd_same] at hp; cases hp)] at hp
          exact hp
end
end My
end
section
set_option Elab.async false
set_option linter.all false
set_option maxRecDepth 100000
set_option maxHeartbeats 4000000
namespace My
open PySem PySem.Spec PyProof.Rows L2
open Km352 (Station)
section
variable {P : Program} {w : World} {K : PySem.W.Frag} {mg : Str → Option Value} {base : Heap} {C : Addr}
theorem scSHear : FnScope ["self", "search"] ["self", "search"] (defScope sSHear) := ⟨rfl, rfl, rfl, by decide +kernel, rfl, by decide +kernel, by decide +kernel⟩
theorem ok_shear {f : Addr} {fd : FuncData} (F : Fun K "hear_of" "Station.hear_of" sSHear f fd) (T : TSt K C) : FnOk P w K mg base CX0 1 f fd ["self", "search"] (spSHear C) := by
  refine F.ok scSHear (fun vs H Q E h => ?_) (fun cdv A outer s H vs Q E hr h => ?_)
  · obtain ⟨a, F, t, q, rfl, _⟩ := h
    rfl
  · obtain ⟨a, F, t, q, rfl, hS, hq, k⟩ := h
    obtain ⟨dx, c, l, rfl, h1, h2, h3, h4⟩ := hS.ex
    have ac : a ≠ c := ne_of h2 h3 (by intro z; cases z)
    have al : a ≠ l := ne_of h2 h4 (by intro z; cases z)
    refine ⟨_, pss_one (ps_if (pt_cmpR op_gt (pv 1) (pe_fld (pv 0) rfl) (nomark _))
      (pss_cons (ps_fld (pv 0) (pv 1) rfl)
      (pss_cons (ps_expr (pe_bm PySem.F.plainAttrs_list PySem.F.slot_list_extend PySem.F.type_list_extend mt_extend (pe_fld (pv 0) rfl) (pa_cons (pe_fld (pv 0) rfl) pa_nil)))
      (pss_one (ps_fld (pv 0) (pe_lst pa_nil) rfl)))) pss_nil), ?_⟩
    refine ⟨_, rfl, _, rfl, a, C, dx, _, _, rfl, h2, T.cl, T.n4, rfl, _, _, rfl, rfl, _, rfl, ite2 (fun e => ?_) (fun e => ?_)⟩
    · have e1 : t.search < q.search := by
        have : ((t.search : Int)) < q.search := of_decide_eq_true e
        omega
      have e2 : t.freezes q = { t with numbers := t.numbers ++ t.later, later := [], search := q.search } := if_pos e1
      rw [e2] at k
      have g2 : upd H a (.ins C dx (sf t.me c l q.search)) a = some (.ins C dx (sf t.me c l q.search)) := upd_same
      have g3 : upd H a (.ins C dx (sf t.me c l q.search)) c = some (.lst (nv t.numbers)) := Eq.trans (upd_ne ac.symm) h3
      have g4 : upd H a (.ins C dx (sf t.me c l q.search)) l = some (.lst (nv t.later)) := Eq.trans (upd_ne al.symm) h4
      refine ⟨_, rfl, _, rfl, a, C, dx, _, rfl, h2, T.cl, T.n4, (by show 4 < 1000; decide), ?_⟩
      refine ⟨_, rfl, a, C, dx, _, _, rfl, g2, T.cl, T.n2, rfl, .inl ⟨rfl, _, SqL.of g3⟩, _, rfl, a, C, dx, _, _, rfl, g2, T.cl, T.n3, rfl, c, l, _, _, rfl, rfl, g3, g4, (by rw [nv_len, nv_len]; exact Nat.le_trans hS.many (by decide)), ?_⟩
      refine ⟨Nat.zero_le _, fun l2 hl2 => ?_⟩
      have i2 := Eq.trans (upd_ne (H := upd H a (.ins C dx (sf t.me c l q.search))) (o := .lst (nv t.numbers ++ nv t.later)) ac) g2
      have a2 : a ≠ l2 := ne_of_none i2 hl2
      have c2 : c ≠ l2 := ne_of_none upd_same hl2
      refine ⟨_, rfl, a, C, dx, _, rfl, Eq.trans (upd_ne a2) i2, T.cl, T.n3, (by show 4 < 1000; decide), ?_⟩
      refine k _ [a, c, l2] ⟨⟨dx, c, l2, rfl, c2, upd_same, ?_, ?_⟩, hS.me, ?_, hq⟩ ⟨fun b o e hb => ?_, fun b hb => ?_, fun b hb => upd_live (upd_live (upd_live (upd_live hb)))⟩
      · rw [upd_ne ac.symm, upd_ne c2, upd_same, ← nv_app]
      · rw [upd_ne a2.symm, upd_same]
        rfl
      · show (t.numbers ++ t.later).length + 0 ≤ 4096
        rw [List.length_append]
        exact hS.many
      · simp only [List.mem_cons, List.not_mem_nil, or_false, not_or] at hb
        have e3 : upd (upd H a (.ins C dx (sf t.me c l q.search))) c (.lst (nv t.numbers ++ nv t.later)) b = some o := by rw [upd_ne hb.2.1, upd_ne hb.1]; exact e
        rw [upd_ne hb.1, upd_ne (ne_of_none e3 hl2)]
        exact e3
      · simp only [List.mem_cons, List.not_mem_nil, or_false] at hb
        rcases hb with rfl | rfl | rfl
        · simp
        · simp
        · rw [upd_ne c2.symm, upd_ne a2.symm] at hl2
          exact .inr hl2
    · have e1 : ¬ t.search < q.search := by
        intro z
        apply e
        apply decide_eq_true
        omega
      have e2 : t.freezes q = t := if_neg e1
      rw [e2] at k
      exact k _ _ hS (Ch.refl _ _)
theorem scSHow : FnScope ["self", "x", "number"] ["self", "x"] (defScope sSHow) := ⟨rfl, rfl, rfl, by decide +kernel, rfl, by decide +kernel, by decide +kernel⟩
theorem blkHow : BlkOk ["self", "x", "number"] (defScope sSHow) { kind := .function, names := [(".0", .local), ("number", .local), ("x", .free)], isGenerator := false, isCoroutine := false, more := [] } [("number", 2)] := ⟨rfl, by decide +kernel, by decide +kernel, by decide +kernel, by decide +kernel⟩
theorem filter_snoc {α : Type} (p : α → Bool) (l : List α) (x : α) : (l ++ [x]).filter p = if p x = true then l.filter p ++ [x] else l.filter p := by
  rw [List.filter_append]
  by_cases h : p x = true
  · rw [if_pos h, List.filter_cons_of_pos h, List.filter_nil]
  · rw [if_neg h, List.filter_cons_of_neg h, List.filter_nil, List.append_nil]
theorem ok_show {f : Addr} {fd : FuncData} (F : Fun K "how_many_at_most" "Station.how_many_at_most" sSHow f fd) (T : TSt K C) (hL : mg "len" = none) : FnOk P w K mg base CX0 1 f fd ["self", "x"] (spSHow C) := by
  refine F.ok scSHow (fun vs H Q E h => ?_) (fun cdv A outer s H vs Q E hr h => ?_)
  · obtain ⟨a, F, t, x, rfl, _⟩ := h
    rfl
  · obtain ⟨a, F, t, x, rfl, hS, k⟩ := h
    obtain ⟨dx, c, l, rfl, h1, h2, h3, h4⟩ := hS.ex
    refine ⟨_, pss_one (ps_ret (pe_callB call_len_seq (by rfl) hL PySem.boot_len (pa_cons (pe_lc (own := [("number", 2)]) rfl scSHow.nd (pi_list (pe_fld (pv 0) rfl)) blkHow
      (fun _ _ _ _ _ => pg_name (i := 2) scSHow.nd rfl (Or.inl rfl)) (fun _ _ _ _ _ => pts_one (pt_cmpR op_le (pv 2) (pv 1) (nomark _))) (fun _ _ _ _ _ => pv 2)) pa_nil))), ?_⟩
    refine ⟨_, rfl, a, C, dx, _, _, rfl, h2, T.cl, T.n2, rfl, c, rfl, ⟨_, SqL.of h3⟩, fun D hD => ?_⟩
    have cD : c ≠ D := ne_of_none h3 hD
    refine lc_list (K := K) (a := c) (xs := nv t.numbers) (fun i H' => Same H H' ∧ H' D = some (.lst (nv ((t.numbers.take i).filter fun n => decide (n ≤ x))))) ⟨same_new hD, upd_same⟩ (fun i H' _ h => SqL.of (h.1 _ _ h3)) ?_ ?_
    · rintro i y H' hi ⟨s1, hD1⟩
      rw [nv_get] at hi
      cases e : t.numbers[i]? with
      | none => rw [e] at hi; cases hi
      | some z =>
        rw [e] at hi
        cases hi
        rw [take_snoc e, filter_snoc]
        refine ⟨rfl, _, rfl, _, rfl, _, _, rfl, rfl, _, rfl, ite2 (fun e1 => ?_) (fun e1 => ?_)⟩
        · have e2 : z ≤ x := by
            have : (z : Int) ≤ x := of_decide_eq_true e1
            omega
          rw [if_pos (decide_eq_true e2)]
          refine ⟨_, rfl, _, hD1, ?_, fun b o e => ?_, Eq.trans upd_same (congrArg (fun z => some (HO.lst z)) (nv_snoc _ _))⟩
          · rw [nv_len]
            refine Nat.lt_of_le_of_lt (Nat.le_trans (List.length_filter_le _ _) (Nat.le_trans (List.length_take_le' _ _) (Nat.le_trans (Nat.le_add_right _ _) hS.many))) (by decide)
          · rw [upd_ne (ne_of_none e hD)]
            exact s1 b o e
        · have e2 : ¬ z ≤ x := by
            intro q
            apply e1
            apply decide_eq_true
            omega
          rw [if_neg (by simpa using e2)]
          exact ⟨s1, hD1⟩
    · rintro H' ⟨s1, hD1⟩
      rw [nv_len, List.take_length] at hD1
      refine ⟨D, _, rfl, .inl (SqL.of hD1), ?_⟩
      rw [nv_len]
      exact k _ s1
end
end My
end
section
set_option Elab.async false
set_option linter.all false
set_option maxRecDepth 100000
set_option maxHeartbeats 4000000
namespace My
open PySem PySem.Spec PyProof.Rows L2
open Km352 (Station)
theorem nums_nv (l : List Nat) : (Km352Neutral.nums l).map V.int = nv l := by
  unfold Km352Neutral.nums nv
  rw [List.map_map]
  rfl
section
variable {P : Program} {w : World} {K : PySem.W.Frag} {mg : Str → Option Value} {base : Heap} {C : Addr}
theorem scSHeard : FnScope ["self", "question", "search", "how_many"] ["self", "question"] (defScope sSHeard) := ⟨rfl, rfl, rfl, by decide +kernel, rfl, by decide +kernel, by decide +kernel⟩
theorem ok_sheard {f : Addr} {fd : FuncData} (F : Fun K "ks_heard" "Station.ks_heard" sSHeard f fd) (T : TSt K C) (G1 : Fn P w K mg base 4 "is_right_question" ["message"] (spIsQ K)) (G2 : Fn P w K mg base 2 "search_of" ["message"] (spAt K 4))
    (G3 : Fn P w K mg base 2 "round_of" ["message"] (spAt K 8)) (G4 : Fn P w K mg base 2 "x_of" ["question"] (spAt K 12)) (G5 : Fn P w K mg base 4 "written_answer" ["station", "search", "round_number", "how_many"] spWA)
    (M1 : Mt P w K mg base 1 C "hear_of" ["self", "search"] (spSHear C)) (M2 : Mt P w K mg base 1 C "how_many_at_most" ["self", "x"] (spSHow C)) (c1 : Cn mg "NOT_RIGHT" (-71)) (c2 : Cn mg "SEARCH_IS_OLD" (-13)) :
    FnOk P w K mg base CX0 5 f fd ["self", "question"] (spSHeard K C) := by
  refine F.ok scSHeard (fun vs H Q E h => ?_) (fun cdv A outer s H vs Q E hr h => ?_)
  · obtain ⟨a, p, F, t, l, rfl, _⟩ := h
    rfl
  · obtain ⟨a, p, F, t, l, rfl, hS, hl, hpF, h20, hb, k⟩ := h
    have r1 : Room 1 _ := hr.mono (by decide)
    have r2 : Room 2 _ := hr.mono (by decide)
    refine ⟨_, pss_cons (ps_if (pt_not (pt_val (pcall G1 hr (pa_cons (pv 1) pa_nil)))) (pss_one (ps_ret (pe_lst (pa_cons (pcn c1) pa_nil)))) pss_nil)
      (pss_cons (ps_set (i := 2) scSHeard.nd rfl (Or.inl rfl) (pcall G2 r2 (pa_cons (pv 1) pa_nil)))
      (pss_cons (ps_if (pt_cmpR op_lt (pv 2) (pe_fld (pv 0) rfl) (nomark _)) (pss_one (ps_ret (pe_lst (pa_cons (pcn c2) pa_nil)))) pss_nil)
      (pss_cons (ps_expr (pmeth (pv 0) T.cl M1 r1 (pa_cons (pv 2) pa_nil)))
      (pss_cons (ps_set (i := 3) scSHeard.nd rfl (Or.inl rfl) (pmeth (pv 0) T.cl M2 r1 (pa_cons (pcall G4 r2 (pa_cons (pv 1) pa_nil)) pa_nil)))
      (pss_one (ps_ret (pe_op op_cat (pe_lst (pa_cons (pv 3) pa_nil)) (pcall G5 hr (pa_cons (pe_fld (pv 0) rfl) (pa_cons (pv 2) (pa_cons (pcall G3 r2 (pa_cons (pv 1) pa_nil)) (pa_cons (pv 3) pa_nil)))))))))))), ?_⟩
    refine ⟨_, rfl, p, l, rfl, hl, h20, hb, fun H1 s1 => ⟨_, rfl, ?_⟩⟩
    have hS1 : StAt C H1 a F t := hS.same fun b o _ => s1 b o
    have hl1 := s1.seq hl
    have ch1 : Ch H H1 F F := Ch.same s1 F
    cases eq : Km352.questionOf l with
    | none =>
      have e2 : Km352.sDoes t (.sHeard l) = (t, Km352.only (-71)) := by
        show (match Km352.questionOf l with | none => _ | some q => _) = _
        rw [eq]
      rw [e2] at k
      refine iteT ⟨(by show 1 ≤ sizeLine; decide), fun r hr => ?_⟩
      have sm := same_new (o := .lst [.int (-71)]) hr
      exact k _ F r (hS1.same fun b o _ => sm b o) (ch1.trans (Ch.same sm _)) (s1.free hr) upd_same
    | some q =>
      have hq := Mx.question_is eq
      have q4 : Km352.num l 4 4 < 2 ^ 32 := Mx.num_lt hb (by omega)
      have q8 : Km352.num l 8 4 < 2 ^ 32 := Mx.num_lt hb (by omega)
      have e2 : Km352.sDoes t (.sHeard l) = if q.search < t.search then (t, Km352.only (-13)) else (t.freezes q, { value := (((t.freezes q).tells q).many : Int), out := ((t.freezes q).tells q).bytes }) := by
        show (match Km352.questionOf l with | none => _ | some q => _) = _
        rw [eq]
      rw [e2] at k
      obtain ⟨dx, c, ll, hF, h1, h2, h3, h4⟩ := hS1.ex
      refine iteF ⟨_, rfl, p, l, rfl, hl1, h20, _, rfl, _, rfl, a, C, dx, _, _, rfl, h2, T.cl, T.n4, rfl, _, _, rfl, rfl, _, rfl, ite2 (fun e => ?_) (fun e => ?_)⟩
      · have e3 : q.search < t.search := by
          have : ((Km352.num l 4 4 : Int)) < t.search := of_decide_eq_true e
          rw [hq]
          show Km352.num l 4 4 < _
          omega
        rw [if_pos e3] at k
        refine ⟨(by show 1 ≤ sizeLine; decide), fun r hr => ?_⟩
        have sm := same_new (o := .lst [.int (-13)]) hr
        exact k _ F r (hS1.same fun b o _ => sm b o) (ch1.trans (Ch.same sm _)) (s1.free hr) upd_same
      · have e3 : ¬ q.search < t.search := by
          intro z
          apply e
          apply decide_eq_true
          rw [hq] at z
          have z : Km352.num l 4 4 < _ := z
          omega
        rw [if_neg e3] at k
        refine ⟨_, rfl, a, dx, _, rfl, h2, rfl, _, rfl, a, F, t, q, (by rw [hq]; rfl), hS1, (by rw [hq]; exact q4), fun H2 F2 hS2 ch2 => ?_⟩
        have hl2 := ch2.seq hpF hl1
        obtain ⟨dx2, c2', ll2, hF2, g1, g2, g3, g4⟩ := hS2.ex
        refine ⟨_, rfl, a, dx2, _, rfl, g2, rfl, _, rfl, p, l, rfl, hl2, h20, a, F2, _, Km352.num l 12 4, rfl, hS2, fun H3 s3 => ?_⟩
        have hS3 : StAt C H3 a F2 (t.freezes q) := hS2.same fun b o _ => s3 b o
        have hl3 := s3.seq hl2
        refine ⟨_, rfl, (by show 1 ≤ sizeLine; decide), fun r4 hr4 => ?_⟩
        have s4 := same_new (o := .lst [iv (Km352.atMost (t.freezes q).numbers (Km352.num l 12 4))]) hr4
        have hm : (t.freezes q).me = t.me := by
          unfold Km352.Station.freezes
          split <;> rfl
        refine ⟨_, rfl, a, C, dx2, _, _, rfl, s4 _ _ (s3 _ _ g2), T.cl, T.n1, rfl, _, rfl, _, rfl, p, l, rfl, s4.seq hl3, h20, _, rfl, (t.freezes q).me, Km352.num l 4 4, Km352.num l 8 4, _, rfl, ?_, q4, q8, ?_, fun H5 r5 s5 hr5 hH5 => ?_⟩
        · rw [hm]
          exact Nat.lt_trans hS.me (by decide)
        · exact Nat.lt_of_le_of_lt (Nat.le_trans (Mx.atMost_le _ _) (Nat.le_trans (Nat.le_add_right _ _) hS2.many)) (by decide)
        · refine ⟨r4, r5, _, _, rfl, rfl, s5 _ _ upd_same, hH5, ?_, fun r6 hr6 => ?_⟩
          · rw [nv_len, Mx.answer_len]
            show 1 + 20 ≤ sizeLine
            decide
          have s6 := same_new (o := .lst ([iv (Km352.atMost (t.freezes q).numbers (Km352.num l 12 4))] ++ nv (Km352.Answer.bytes ⟨(t.freezes q).me, Km352.num l 4 4, Km352.num l 8 4, Km352.atMost (t.freezes q).numbers (Km352.num l 12 4)⟩))) hr6
          have sm := s3.trans (s4.trans (s5.trans s6))
          have sF := (s4.trans s5).free hr6
          refine k _ F2 r6 (hS2.same fun b o _ => sm b o) (ch1.trans (ch2.trans (Ch.same sm _))) ?_ (Eq.trans upd_same ?_)
          · exact s1.free (ch2.free (s3.free sF))
          · show _ = some (HO.lst (V.int _ :: (Km352Neutral.nums _).map V.int))
            rw [nums_nv]
            unfold Km352.Station.tells
            rw [hq]
            rfl
end
end My
end
section
set_option Elab.async false
set_option linter.all false
set_option maxRecDepth 100000
set_option maxHeartbeats 4000000
namespace My
open PySem PySem.Spec PyProof.Rows L2
abbrev cRd : Stmt := top 1
abbrev sRInit : Stmt := inClass cRd 0
abbrev sRMore : Stmt := inClass cRd 1
abbrev sRNum : Stmt := inClass cRd 2
abbrev sRRow : Stmt := inClass cRd 3
def zv (l : List Int) : List V := l.map V.int
theorem zv_len (l : List Int) : (zv l).length = l.length := List.length_map ..
theorem zv_get (l : List Int) (i : Nat) : (zv l)[i]? = (l[i]?).map V.int := List.getElem?_map ..
def rf (a : Addr) (i : Nat) : List (Str × V) := [("calls", .ref a), ("place", iv i)]
def RdAt (C : Addr) (H : Hp) (R a : Addr) (i : Nat) : Prop := ∃ dx, H R = some (.ins C dx (rf a i))
structure TRd (K : PySem.W.Frag) (C : Addr) : Prop where
  cl : Cls K C
  n1 : NoAttr K C "calls"
  n2 : NoAttr K C "place"
inductive spRInit (C : Addr) (vs : List V) (H : Hp) (Q : VK) (E : XK) : Prop
  | mk (p dx a : Addr) (h0 : vs = [.ref p, .ref a]) (h1 : H p = some (.ins C dx [])) (h2 : ∀ H' : Hp, RdAt C H' p a 0 → Ch H H' [p] [p] → Q .non H') : spRInit C vs H Q E
inductive spRMore (K : PySem.W.Frag) (C : Addr) (vs : List V) (H : Hp) (Q : VK) (E : XK) : Prop
  | mk (R a : Addr) (i : Nat) (l : List Int) (h0 : vs = [.ref R]) (h1 : RdAt C H R a i) (h2 : SqL K H a (zv l)) (h3 : Q (.bl (decide (i < l.length))) H) : spRMore K C vs H Q E
inductive spRNum (K : PySem.W.Frag) (C : Addr) (vs : List V) (H : Hp) (Q : VK) (E : XK) : Prop
  | mk (R a : Addr) (i : Nat) (l : List Int) (z : Int) (h0 : vs = [.ref R]) (h1 : RdAt C H R a i) (h2 : SqL K H a (zv l)) (h3 : l[i]? = some z) (h4 : ∀ H' : Hp, RdAt C H' R a (i + 1) → Ch H H' [R] [R] → Q (.int z) H') : spRNum K C vs H Q E
inductive spRRow (K : PySem.W.Frag) (C : Addr) (vs : List V) (H : Hp) (Q : VK) (E : XK) : Prop
  | mk (R a : Addr) (i m : Nat) (l : List Int) (h0 : vs = [.ref R]) (h1 : RdAt C H R a i) (h2 : SqL K H a (zv l)) (h3 : l[i]? = some (m : Int)) (h4 : ∀ (H' : Hp) (p : Addr), RdAt C H' R a (i + 1 + m) → Ch H H' [R] [R] → H p = none → H' p = some (.lst (zv ((l.drop (i + 1)).take m))) → Q (.ref p) H') : spRRow K C vs H Q E
theorem upd_ch {H : Hp} {a : Addr} {o : HO} : Ch H (upd H a o) [a] [a] := ⟨fun b u e hb => by rw [upd_ne (fun z => hb (by simp [z]))]; exact e, fun b hb => .inl hb, fun b hb => upd_live hb⟩
/-- a list that is read is no instance -/
theorem Ch.seqR {K : PySem.W.Frag} {H H' : Hp} {F' : List Addr} {p R C dx : Addr} {fs : List (Str × V)} {xs : List V} (e : Ch H H' [R] F') (hR : H R = some (.ins C dx fs)) (h : SqL K H p xs) : SqL K H' p xs := by
  rcases h with (h | ⟨o, h⟩) | h
  · have n : p ≠ R := ne_of h hR (by intro z; cases z)
    exact .inl (.inl (e.keep _ _ h (by simp [n])))
  · have n : p ≠ R := ne_of h hR (by intro z; cases z)
    exact .inl (.inr ⟨o, e.keep _ _ h (by simp [n])⟩)
  · exact .inr h
theorem cut_z {l : List Int} {i m : Nat} : cutV (zv l) (some (i : Int)) (some ((i : Int) + (m : Int))) = zv ((l.drop i).take m) := by
  unfold cutV
  rw [HT.sIx_nat, show ((i : Int) + (m : Int)) = ((i + m : Nat) : Int) by omega, HT.sIx_nat, zv_len]
  unfold zv
  rw [← List.map_drop, ← List.map_take]
  congr 1
  by_cases h1 : i ≤ l.length
  · rw [Nat.min_eq_left h1]
    by_cases h2 : i + m ≤ l.length
    · rw [Nat.min_eq_left h2, Nat.add_sub_cancel_left]
    · rw [Nat.min_eq_right (by omega), List.take_of_length_le (by rw [List.length_drop]; omega), List.take_of_length_le (by rw [List.length_drop]; omega)]
  · rw [Nat.min_eq_right (by omega), List.drop_of_length_le (by omega), List.drop_of_length_le (by omega), List.take_nil, List.take_nil]
section
variable {P : Program} {w : World} {K : PySem.W.Frag} {mg : Str → Option Value} {base : Heap} {C : Addr}
theorem scRInit : FnScope ["self", "calls"] ["self", "calls"] (defScope sRInit) := ⟨rfl, rfl, rfl, by decide +kernel, rfl, by decide +kernel, by decide +kernel⟩
theorem ok_rinit {f : Addr} {fd : FuncData} (F : Fun K "__init__" "CallReader.__init__" sRInit f fd) (T : TRd K C) : FnOk P w K mg base CX0 1 f fd ["self", "calls"] (spRInit C) := by
  refine F.ok scRInit (fun vs H Q E h => ?_) (fun cdv A outer s H vs Q E hr h => ?_)
  · obtain ⟨p, dx, a, rfl, _⟩ := h
    rfl
  · obtain ⟨p, dx, a, rfl, hp, k⟩ := h
    refine ⟨_, pss_cons (ps_fld (pv 0) (pv 1) rfl) (pss_one (ps_fld (pv 0) pe_int rfl)), ?_⟩
    refine ⟨_, rfl, _, rfl, p, C, dx, [], rfl, hp, T.cl, T.n1, (by show 0 < 1000; decide), _, rfl, p, C, dx, _, rfl, upd_same, T.cl, T.n2, (by show 1 < 1000; decide), ?_⟩
    exact k _ ⟨dx, upd_same⟩ (upd_ch.trans upd_ch)
theorem scRMore : FnScope ["self"] ["self"] (defScope sRMore) := ⟨rfl, rfl, rfl, by decide +kernel, rfl, by decide +kernel, by decide +kernel⟩
theorem ok_rmore {f : Addr} {fd : FuncData} (F : Fun K "has_more" "CallReader.has_more" sRMore f fd) (T : TRd K C) (hL : mg "len" = none) : FnOk P w K mg base CX0 1 f fd ["self"] (spRMore K C) := by
  refine F.ok scRMore (fun vs H Q E h => ?_) (fun cdv A outer s H vs Q E hr h => ?_)
  · obtain ⟨R, a, i, l, rfl, _⟩ := h
    rfl
  · obtain ⟨R, a, i, l, rfl, ⟨dx, h1⟩, hl, k⟩ := h
    refine ⟨_, pss_one (ps_ret (pe_cmpR op_lt (pe_fld (pv 0) rfl) (pe_callB call_len_seq (by rfl) hL PySem.boot_len (pa_cons (pe_fld (pv 0) rfl) pa_nil)) (nomark _))), ?_⟩
    refine ⟨_, rfl, R, C, dx, _, _, rfl, h1, T.cl, T.n2, rfl, _, rfl, R, C, dx, _, _, rfl, h1, T.cl, T.n1, rfl, a, _, rfl, .inl hl, _, _, rfl, rfl, ?_⟩
    have e : decide ((i : Int) < ((zv l).length : Int)) = decide (i < l.length) := by
      rw [zv_len]
      congr 1
      simp only [eq_iff_iff]
      omega
    rw [← e] at k
    exact k
theorem scRNum : FnScope ["self", "number"] ["self"] (defScope sRNum) := ⟨rfl, rfl, rfl, by decide +kernel, rfl, by decide +kernel, by decide +kernel⟩
theorem ok_rnum {f : Addr} {fd : FuncData} (F : Fun K "take_number" "CallReader.take_number" sRNum f fd) (T : TRd K C) : FnOk P w K mg base CX0 1 f fd ["self"] (spRNum K C) := by
  refine F.ok scRNum (fun vs H Q E h => ?_) (fun cdv A outer s H vs Q E hr h => ?_)
  · obtain ⟨R, a, i, l, z, rfl, _⟩ := h
    rfl
  · obtain ⟨R, a, i, l, z, rfl, ⟨dx, h1⟩, hl, hz, k⟩ := h
    refine ⟨_, pss_cons (ps_set (i := 1) scRNum.nd rfl (Or.inl rfl) (pe_ix ix_list (pe_fld (pv 0) rfl) (pe_fld (pv 0) rfl) (fun _ _ => rfl)))
      (pss_cons (ps_fld (pv 0) (pe_op op_add (pe_fld (pv 0) rfl) pe_int) rfl) (pss_one (ps_ret (pv 1)))), ?_⟩
    refine ⟨_, rfl, R, C, dx, _, _, rfl, h1, T.cl, T.n1, rfl, _, rfl, R, C, dx, _, _, rfl, h1, T.cl, T.n2, rfl, a, _, _, V.int z, rfl, rfl, hl, at_of (j := i) rfl (by rw [zv_get, hz]; rfl),
      _, rfl, R, C, dx, _, _, rfl, h1, T.cl, T.n2, rfl, _, _, rfl, rfl, _, rfl, R, C, dx, _, rfl, h1, T.cl, T.n2, (by show 2 < 1000; decide), _, rfl, ?_⟩
    exact k _ ⟨dx, upd_same⟩ upd_ch
theorem scRRow : FnScope ["self", "length", "row"] ["self"] (defScope sRRow) := ⟨rfl, rfl, rfl, by decide +kernel, rfl, by decide +kernel, by decide +kernel⟩
theorem ok_rrow {f : Addr} {fd : FuncData} (F : Fun K "take_row" "CallReader.take_row" sRRow f fd) (T : TRd K C) (M : Mt P w K mg base 1 C "take_number" ["self"] (spRNum K C)) : FnOk P w K mg base CX0 2 f fd ["self"] (spRRow K C) := by
  refine F.ok scRRow (fun vs H Q E h => ?_) (fun cdv A outer s H vs Q E hr h => ?_)
  · obtain ⟨R, a, i, m, l, rfl, _⟩ := h
    rfl
  · obtain ⟨R, a, i, m, l, rfl, h0, hl, hm, k⟩ := h
    obtain ⟨dx, h1⟩ := id h0
    refine ⟨_, pss_cons (ps_set (i := 1) scRRow.nd rfl (Or.inl rfl) (pmeth0 (pv 0) T.cl M hr))
      (pss_cons (ps_set (i := 2) scRRow.nd rfl (Or.inl rfl) (pe_slice sl_list (pe_fld (pv 0) rfl) (po_some (pe_fld (pv 0) rfl)) (po_some (pe_op op_add (pe_fld (pv 0) rfl) (pv 1)))))
      (pss_cons (ps_fld (pv 0) (pe_op op_add (pe_fld (pv 0) rfl) (pv 1)) rfl) (pss_one (ps_ret (pv 2))))), ?_⟩
    refine ⟨_, rfl, R, dx, _, rfl, h1, rfl, R, a, i, l, _, rfl, h0, hl, hm, fun H1 hR1 ch1 => ?_⟩
    have hl1 := ch1.seqR h1 hl
    obtain ⟨dx1, g1⟩ := hR1
    refine ⟨_, rfl, R, C, dx1, _, _, rfl, g1, T.cl, T.n1, rfl, _, rfl, R, C, dx1, _, _, rfl, g1, T.cl, T.n2, rfl, _, rfl, _, rfl, R, C, dx1, _, _, rfl, g1, T.cl, T.n2, rfl, _, rfl, _, _, rfl, rfl, _, rfl, a, _, rfl, hl1, fun p hp => ?_⟩
    have s2 := same_new (o := .lst (cutV (zv l) (some ((i + 1 : Nat) : Int)) (some (((i + 1 : Nat) : Int) + (m : Int))))) hp
    refine ⟨_, rfl, R, C, dx1, _, _, rfl, s2 _ _ g1, T.cl, T.n2, rfl, _, rfl, _, _, rfl, rfl, _, rfl, R, C, dx1, _, rfl, s2 _ _ g1, T.cl, T.n2, (by show 2 < 1000; decide), _, rfl, ?_⟩
    refine k _ p ⟨dx1, upd_same⟩ ((ch1.trans (Ch.same s2 _)).trans upd_ch) (ch1.free hp) (Eq.trans (upd_ne (ne_of_none g1 hp).symm) (Eq.trans upd_same ?_))
    rw [cut_z]
end
end My
end
section
set_option Elab.async false
set_option linter.all false
set_option maxRecDepth 100000
set_option maxHeartbeats 4000000
namespace My
open PySem PySem.Spec PyProof.Rows L2
/-! ### sum(d.values()) -/
/-- the view at p of the dict at d -/
def viewOf (p d : Addr) : HO := .ext fun h => h.get? p = some { cls := .type "dict_values", data := .fields #[.ref d] }
def rVals : V → List V → Hp → VK → Prop := fun x xs H Q => ∃ (d : Addr) (kvs : List (Key × V)), x = .ref d ∧ xs = [] ∧ H d = some (.dK kvs) ∧ ∀ p, H p = none → Q (.ref p) (upd H p (viewOf p d))
def rSumV : List V → Hp → VK → Prop := fun vs H Q => ∃ (p d : Addr) (kvs : List (Key × V)) (ns : List Int), vs = [.ref p] ∧ H p = some (viewOf p d) ∧ H d = some (.dK kvs) ∧ kvs.map (·.2) = ns.map V.int ∧ Q (.int ns.sum) H
theorem kv_at : ∀ {kvs : List (Key × V)} {vs : List (Key × Value)} {i : Nat} {k : Key} {u : Value}, KV kvs vs → vs[i]? = some (k, u) → ∃ v, kvs[i]? = some (k, v) ∧ RelV v u
  | _, _, i, k, u, .nil, h => by simp at h
  | p :: kvs, q :: vs, 0, k, u, .cons r t, h => by
    have e : q = (k, u) := Option.some.inj h
    obtain ⟨a, b⟩ := p
    subst e
    obtain ⟨r1, r2⟩ := r
    have r1 : a = k := r1
    subst r1
    exact ⟨b, rfl, r2⟩
  | p :: kvs, q :: vs, i + 1, k, u, .cons r t, h => kv_at (i := i) (k := k) (u := u) t h
theorem preSum_list (ns : List Int) : ∀ n, n ≤ ns.length → preSum (fun i => ns.getD i 0) n = (ns.take n).sum
  | 0, _ => by simp [preSum]
  | n + 1, h => by
    have ih := preSum_list ns n (by omega)
    have e : ns[n]? = some (ns.getD n 0) := by
      rw [List.getD_eq_getElem?_getD, List.getElem?_eq_getElem (by omega)]
      rfl
    show preSum (fun i => ns.getD i 0) n + ns.getD n 0 = _
    rw [ih, sum_take e]
section
variable {X : Cx}
theorem mt_values : MtR X "dict.values" rVals := by
  intro pins s σ H x xs v us Q I rx rs h
  obtain ⟨d, kvs, rfl, rfl, hd, q⟩ := h
  cases rx
  cases rs
  obtain ⟨z, hs, vs, kv, dd⟩ := I.hok d _ hd
  refine call_meetsIn PySem.F.slot_dict_values dd.typeIs PySem.F.entry_dict_values (PySem.F.args_dict_values_1 _) (meets_dict_values (mixKind X.prog X.w) d hs) ⟨⟨vs, dd⟩, ?_⟩
  have e : (s.heap.push { cls := .type "dict_values", data := .fields #[.ref d] }).get? s.heap.objs.size = some { cls := .type "dict_values", data := .fields #[.ref d] } := Heap.get?_push_size _ rfl
  refine ⟨.ref s.heap.objs.size, _, I.laid (a := s.heap.objs.size) (o := viewOf s.heap.objs.size d) (t' := s.toks) (fun b o q => Heap.get?_push_of_some _ q) (Nat.le_refl _) ?_, rfl, q _ (I.hok.fresh (Nat.le_refl _))⟩
  exact ⟨e, ⟨_, e⟩, fun h1 h2 p k => k _ p⟩
theorem cr_sumV (hc : X.calm = true) : CallR X (.builtin "sum") rSumV := by
  intro pins s σ H vs us Q I r h
  obtain ⟨p, d, kvs, ns, rfl, hp, hd, hns, q⟩ := h
  rw [Vals.ref1 r]
  obtain ⟨z, hs, vs, kv, dd⟩ := I.hok d _ hd
  obtain ⟨ep, hat⟩ := dd.dictAt
  obtain ⟨hv, _, _⟩ := I.hok p _ hp
  refine call_sum_walkAnyS ?_
  have hv : s.heap.get? p = some { cls := .type "dict_values", data := .fields #[.ref d] } := hv
  have K := PySem.W.kdl_values (prog := X.prog) (w := X.w) (knd := mixKind X.prog X.w) (r := p) (d := d) (kvs := vs) (ep := ep)
  obtain ⟨oI, St, hit, W, st⟩ := K.iter X.A.in1 s (I.ok.hd hc) ⟨⟨_, hv, rfl, rfl⟩, hat⟩
  have hl : kvs.length = vs.length := Paired.length kv
  have hn : ns.length = kvs.length := by
    have := congrArg List.length hns
    rw [List.length_map, List.length_map] at this
    exact this.symm
  refine hit _ _ ⟨s.heap.objs.size, _, _, _, vs.length, _, _, (fun i => ns.getD i 0), rfl, W.toS, st, fun b hb => ?_, fun i v hi => ?_, fun s' t' hm => ?_⟩
  · show b < (s.heap.push oI).objs.size
    rw [show (s.heap.push oI).objs.size = s.heap.objs.size + 1 by simp [Heap.push]]
    rcases List.mem_cons.mp hb with e | hb
    · rw [e]; exact Nat.lt_succ_self _
    · rw [List.mem_singleton.mp hb]; exact Nat.lt_succ_of_lt (K.there _ ⟨⟨_, hv, rfl, rfl⟩, hat⟩).2
  · obtain ⟨k, hi⟩ := hi
    obtain ⟨y, hy, ry⟩ := kv_at kv hi
    have e : (kvs.map (·.2))[i]? = some y := by rw [List.getElem?_map, hy]; rfl
    rw [hns, List.getElem?_map] at e
    cases en : ns[i]? with
    | none => rw [en] at e; cases e
    | some m =>
      rw [en] at e
      have e : V.int m = y := Option.some.inj e
      subst e
      obtain ⟨t, rfl⟩ := ry
      refine ⟨t, ?_⟩
      show Value.int m t = Value.int (ns.getD i 0) t
      rw [List.getD_eq_getElem?_getD, en]
      rfl
  · have hk : ∀ b o, s.heap.get? b = some o → s'.heap.get? b = some o := fun b o e =>
      hm.heap b o (fun hI => absurd (Heap.lt_size e) (by rw [List.mem_singleton.mp hI]; exact Nat.lt_irrefl _)) (Heap.get?_push_of_some _ e)
    rw [Moved.eq_with hm]
    refine ⟨.int ns.sum, H, I.kept hk, ⟨t', ?_⟩, q⟩
    rw [← hl, ← hn, preSum_list ns _ (Nat.le_refl _), List.take_length]
end
end My
end
section
set_option Elab.async false
set_option linter.all false
set_option maxRecDepth 100000
set_option maxHeartbeats 4000000
namespace My
open PySem PySem.Spec PyProof.Rows L2
open Mc (Se)
abbrev cSe : Stmt := top 42
abbrev sEInit : Stmt := inClass cSe 0
abbrev sEX : Stmt := inClass cSe 1
abbrev sEWait : Stmt := inClass cSe 2
abbrev sEKeep : Stmt := inClass cSe 3
abbrev sEEnd : Stmt := inClass cSe 4
abbrev sEHalve : Stmt := inClass cSe 5
/-! ### more of what a call changes -/
theorem Ch.more {H H' : Hp} {F F' G : List Addr} (c : Ch H H' F F') (h : ∀ b ∈ G, b ∈ F' ∨ H b = none) : Ch H H' F G :=
  ⟨c.keep, fun b hb => (h b hb).elim (c.fp b) .inr, c.live⟩
theorem Ch.sub {H H' : Hp} {F F' G G' : List Addr} (c : Ch H H' F F') (hF : ∀ b ∈ F, b ∈ G) (hG : ∀ b ∈ G', b ∈ G ∨ b ∈ F') : Ch H H' G G' :=
  ⟨fun b o e n => c.keep b o e fun z => n (hF b z), fun b hb => (hG b hb).elim .inl fun z => (c.fp b z).elim (fun y => .inl (hF b y)) .inr, c.live⟩
/-- one object of ours is written -/
theorem ch_upd {H : Hp} {a : Addr} {o : HO} {F : List Addr} (h : a ∈ F) : Ch H (upd H a o) F F :=
  upd_ch.sub (fun b hb => by rw [List.mem_singleton.mp hb]; exact h) fun b hb => .inl hb
/-- a new instance and its __init__ -/
theorem made_same {H H2 : Hp} {x dx C : Addr} {F2 : List Addr} (nx : H x = none) (nd : H dx = none) (c : Ch (upd (upd H dx (.own x)) x (.ins C dx [])) H2 [x] F2) : Same H H2 ∧ ∀ b ∈ F2, H b = none := by
  refine ⟨fun b o e => ?_, fun b hb => ?_⟩
  · have h1 : b ≠ x := ne_of_none e nx
    have h2 : b ≠ dx := ne_of_none e nd
    refine c.keep b o ?_ (by simp [h1])
    rw [upd_ne h1, upd_ne h2]
    exact e
  · rcases c.fp b hb with q | q
    · rw [List.mem_singleton.mp q]
      exact nx
    · by_cases h1 : b = x
      · rw [h1]; exact nx
      · by_cases h2 : b = dx
        · rw [h2]; exact nd
        · rw [upd_ne h1, upd_ne h2] at q
          exact q
/-! ### a search -/
def fV : Option Nat → V
  | none => .non
  | some n => iv n
def tk (l : List (Nat × Nat)) : List (Key × V) := l.map fun p => (Sum.inl (p.1 : Int), iv p.2)
theorem tk_val (st : Nat) : ∀ l : List (Nat × Nat), valV (tk l) (Sum.inl (st : Int)) = (l.lookup st).map iv
  | [] => rfl
  | (a, b) :: l => by
    have ih := tk_val st l
    show valV ((Sum.inl (a : Int), iv b) :: tk l) (Sum.inl (st : Int)) = Option.map iv (match st == a with | true => some b | false => l.lookup st)
    by_cases e : a = st
    · subst e
      rw [valV_pos (p := ((Sum.inl (a : Int) : Key), iv b)) rfl, beq_self_eq_true]
      rfl
    · rw [valV_neg (p := ((Sum.inl (a : Int) : Key), iv b)) (fun z => e (by have := Sum.inl.inj z; omega)), ih, beq_eq_false_iff_ne.mpr (fun z => e z.symm)]
theorem tk_snoc (l : List (Nat × Nat)) (st h : Nat) : tk (l ++ [(st, h)]) = tk l ++ [(Sum.inl (st : Int), iv h)] := by
  unfold tk
  rw [List.map_append]
  rfl
theorem tk_len (l : List (Nat × Nat)) : (tk l).length = l.length := List.length_map ..
theorem tk_vals (l : List (Nat × Nat)) : (tk l).map (·.2) = (l.map fun p => ((p.2 : Nat) : Int)).map V.int := by
  unfold tk
  rw [List.map_map, List.map_map]
  rfl
theorem sum_cast : ∀ l : List (Nat × Nat), (l.map fun p => ((p.2 : Nat) : Int)).sum = (((l.map (·.2)).sum : Nat) : Int)
  | [] => rfl
  | p :: l => by
    have ih := sum_cast l
    rw [List.map_cons, List.sum_cons, List.map_cons, List.sum_cons, ih]
    omega
def ef (e : Se) (d : Addr) : List (Str × V) := [("number", iv e.number), ("k", iv e.k), ("stations", iv e.stations), ("round_number", iv e.round), ("lo", iv e.lo), ("hi", iv e.hi), ("told", .ref d), ("over", .bl e.over), ("found", fV e.found)]
structure SeAt (C : Addr) (H : Hp) (a : Addr) (F : List Addr) (e : Se) : Prop where
  ex : ∃ dx d, F = [a, d] ∧ H a = some (.ins C dx (ef e d)) ∧ H d = some (.dK (tk e.told))
theorem SeAt.same {C : Addr} {H H' : Hp} {a : Addr} {F : List Addr} {e : Se} (h : SeAt C H a F e) (k : ∀ b o, b ∈ F → H b = some o → H' b = some o) : SeAt C H' a F e := by
  obtain ⟨dx, d, rfl, h1, h2⟩ := h.ex
  exact ⟨dx, d, rfl, k _ _ (by simp) h1, k _ _ (by simp) h2⟩
theorem SeAt.live {C : Addr} {H : Hp} {a : Addr} {F : List Addr} {e : Se} (h : SeAt C H a F e) : ∀ b ∈ F, ∃ o, H b = some o := by
  obtain ⟨dx, d, rfl, h1, h2⟩ := h.ex
  intro b hb
  simp only [List.mem_cons, List.not_mem_nil, or_false] at hb
  rcases hb with rfl | rfl
  · exact ⟨_, h1⟩
  · exact ⟨_, h2⟩
structure TSe (K : PySem.W.Frag) (C : Addr) : Prop where
  cl : Cls K C
  n1 : NoAttr K C "number"
  n2 : NoAttr K C "k"
  n3 : NoAttr K C "stations"
  n4 : NoAttr K C "round_number"
  n5 : NoAttr K C "lo"
  n6 : NoAttr K C "hi"
  n7 : NoAttr K C "told"
  n8 : NoAttr K C "over"
  n9 : NoAttr K C "found"
inductive spEInit (C : Addr) (vs : List V) (H : Hp) (Q : VK) (E : XK) : Prop
  | mk (p dx : Addr) (s k n : Nat) (h0 : vs = [.ref p, iv s, iv k, iv n]) (h1 : H p = some (.ins C dx [])) (h2 : ∀ (H' : Hp) (F : List Addr), SeAt C H' p F (Se.new s k n) → Ch H H' [p] F → Q .non H') : spEInit C vs H Q E
inductive spEX (C : Addr) (vs : List V) (H : Hp) (Q : VK) (E : XK) : Prop
  | mk (a : Addr) (F : List Addr) (e : Se) (h0 : vs = [.ref a]) (h1 : SeAt C H a F e) (h2 : Q (iv e.x) H) : spEX C vs H Q E
def waits (e : Se) (s r st : Nat) : Bool := decide ((s = e.number ∧ r = e.round) ∧ st < e.stations ∧ e.told.lookup st = none)
inductive spEWait (C : Addr) (vs : List V) (H : Hp) (Q : VK) (E : XK) : Prop
  | mk (a : Addr) (F : List Addr) (e : Se) (s r st : Nat) (h0 : vs = [.ref a, iv s, iv r, iv st]) (h1 : SeAt C H a F e) (h2 : Q (.bl (waits e s r st)) H) : spEWait C vs H Q E
inductive spEHalve (C : Addr) (vs : List V) (H : Hp) (Q : VK) (E : XK) : Prop
  | mk (a : Addr) (F : List Addr) (e : Se) (m : Bool) (h0 : vs = [.ref a, .bl m]) (h1 : SeAt C H a F e) (h2 : ∀ (H' : Hp) (F' : List Addr), SeAt C H' a F' (e.halve m) → Ch H H' F F' → Q .non H') : spEHalve C vs H Q E
inductive spEEnd (C : Addr) (vs : List V) (H : Hp) (Q : VK) (E : XK) : Prop
  | mk (a : Addr) (F : List Addr) (e : Se) (m : Bool) (h0 : vs = [.ref a, .bl m]) (h1 : SeAt C H a F e) (h2 : ∀ (H' : Hp) (F' : List Addr), SeAt C H' a F' (e.endRound m) → Ch H H' F F' → Q .non H') : spEEnd C vs H Q E
inductive spEKeep (C : Addr) (vs : List V) (H : Hp) (Q : VK) (E : XK) : Prop
  | mk (a : Addr) (F : List Addr) (e : Se) (st h : Nat) (h0 : vs = [.ref a, iv st, iv h]) (h1 : SeAt C H a F e) (h2 : e.told.lookup st = none) (h3 : e.told.length ≤ 16) (h4 : ∀ (H' : Hp) (F' : List Addr), SeAt C H' a F' (e.keep st h) → Ch H H' F F' → Q .non H') : spEKeep C vs H Q E
section
variable {P : Program} {w : World} {K : PySem.W.Frag} {mg : Str → Option Value} {base : Heap} {C : Addr}
theorem scEInit : FnScope ["self", "number", "k", "stations"] ["self", "number", "k", "stations"] (defScope sEInit) := ⟨rfl, rfl, rfl, by decide +kernel, rfl, by decide +kernel, by decide +kernel⟩
theorem ok_einit {f : Addr} {fd : FuncData} (F : Fun K "__init__" "Search.__init__" sEInit f fd) (T : TSe K C) (cG : Cn mg "GREATEST_NUMBER" 4294967295) : FnOk P w K mg base CX0 1 f fd ["self", "number", "k", "stations"] (spEInit C) := by
  refine F.ok scEInit (fun vs H Q E h => ?_) (fun cdv A outer s H vs Q E hr h => ?_)
  · obtain ⟨p, dx, s, k, n, rfl, _⟩ := h
    rfl
  · obtain ⟨p, dx, sr, k, n, rfl, hp, q⟩ := h
    refine ⟨_, pss_cons (ps_fld (pv 0) (pv 1) rfl) (pss_cons (ps_fld (pv 0) (pv 2) rfl) (pss_cons (ps_fld (pv 0) (pv 3) rfl) (pss_cons (ps_fld (pv 0) pe_int rfl) (pss_cons (ps_fld (pv 0) pe_int rfl)
      (pss_cons (ps_fld (pv 0) (pcn cG) rfl) (pss_cons (ps_fld (pv 0) pe_dnewK rfl) (pss_cons (ps_fld (pv 0) pe_bl rfl) (pss_one (ps_fld (pv 0) pe_non rfl))))))))), ?_⟩
    refine ⟨_, rfl, _, rfl, p, C, dx, [], rfl, hp, T.cl, T.n1, (by show 0 < 1000; decide), ?_⟩
    refine ⟨_, rfl, _, rfl, p, C, dx, _, rfl, upd_same, T.cl, T.n2, (by show 1 < 1000; decide), ?_⟩
    refine ⟨_, rfl, _, rfl, p, C, dx, _, rfl, upd_same, T.cl, T.n3, (by show 2 < 1000; decide), ?_⟩
    refine ⟨_, rfl, p, C, dx, _, rfl, upd_same, T.cl, T.n4, (by show 3 < 1000; decide), ?_⟩
    refine ⟨_, rfl, p, C, dx, _, rfl, upd_same, T.cl, T.n5, (by show 4 < 1000; decide), ?_⟩
    refine ⟨_, rfl, p, C, dx, _, rfl, upd_same, T.cl, T.n6, (by show 5 < 1000; decide), fun d hd => ?_⟩
    have pd : p ≠ d := ne_of_none upd_same hd
    refine ⟨_, rfl, p, C, dx, _, rfl, Eq.trans (upd_ne pd) upd_same, T.cl, T.n7, (by show 6 < 1000; decide), ?_⟩
    refine ⟨_, rfl, p, C, dx, _, rfl, upd_same, T.cl, T.n8, (by show 7 < 1000; decide), ?_⟩
    refine ⟨_, rfl, p, C, dx, _, rfl, upd_same, T.cl, T.n9, (by show 8 < 1000; decide), ?_⟩
    have hd0 : H d = none := by
      rw [upd_ne pd.symm, upd_ne pd.symm, upd_ne pd.symm, upd_ne pd.symm, upd_ne pd.symm, upd_ne pd.symm] at hd
      exact hd
    refine q _ [p, d] ⟨dx, d, rfl, upd_same, ?_⟩ (Ch.more (upd_ch.trans (upd_ch.trans (upd_ch.trans (upd_ch.trans (upd_ch.trans (upd_ch.trans ((Ch.same (same_new hd) _).trans (upd_ch.trans (upd_ch.trans upd_ch))))))))) fun b hb => ?_)
    · rw [upd_ne pd.symm, upd_ne pd.symm, upd_ne pd.symm, upd_same]
      rfl
    · simp only [List.mem_cons, List.not_mem_nil, or_false] at hb
      rcases hb with rfl | rfl
      · exact .inl (by simp)
      · exact .inr hd0
theorem scEX : FnScope ["self"] ["self"] (defScope sEX) := ⟨rfl, rfl, rfl, by decide +kernel, rfl, by decide +kernel, by decide +kernel⟩
theorem ok_ex {f : Addr} {fd : FuncData} (F : Fun K "asked_x" "Search.asked_x" sEX f fd) (T : TSe K C) (cG : Cn mg "GREATEST_NUMBER" 4294967295) : FnOk P w K mg base CX0 1 f fd ["self"] (spEX C) := by
  refine F.ok scEX (fun vs H Q E h => ?_) (fun cdv A outer s H vs Q E hr h => ?_)
  · obtain ⟨a, F, e, rfl, _⟩ := h
    rfl
  · obtain ⟨a, F, e, rfl, hS, q⟩ := h
    obtain ⟨dx, d, rfl, h1, h2⟩ := hS.ex
    refine ⟨_, pss_cons (ps_if (pt_cmpR op_eq (pe_fld (pv 0) rfl) pe_int (nomark _)) (pss_one (ps_ret (pcn cG))) pss_nil)
      (pss_one (ps_ret (pe_op op_fdiv (pe_op op_add (pe_fld (pv 0) rfl) (pe_fld (pv 0) rfl)) pe_int))), ?_⟩
    unfold Se.x at q
    refine ⟨_, rfl, a, C, dx, _, _, rfl, h1, T.cl, T.n4, rfl, rfl, _, rfl, ite2 (fun z => ?_) (fun z => ?_)⟩
    · have z1 : e.round = 0 := by
        have := V.int.inj (of_decide_eq_true z)
        omega
      rw [if_pos z1] at q
      exact q
    · have z1 : ¬ e.round = 0 := fun y => z (decide_eq_true (by rw [y]; rfl))
      rw [if_neg z1] at q
      refine ⟨_, rfl, a, C, dx, _, _, rfl, h1, T.cl, T.n5, rfl, _, rfl, a, C, dx, _, _, rfl, h1, T.cl, T.n6, rfl, _, _, rfl, rfl, _, _, rfl, rfl, ⟨by decide, by decide⟩, ?_⟩
      have e1 : ((e.lo : Int) + (e.hi : Int)) / 2 = (((e.lo + e.hi) / 2 : Nat) : Int) := by omega
      show Q (.int (((e.lo : Int) + (e.hi : Int)) / 2)) H
      rw [e1]
      exact q
theorem scEWait : FnScope ["self", "search", "round_number", "station"] ["self", "search", "round_number", "station"] (defScope sEWait) := ⟨rfl, rfl, rfl, by decide +kernel, rfl, by decide +kernel, by decide +kernel⟩
theorem iv_ne {a b : Nat} (h : ¬ a = b) : (!decide (iv a = iv b)) = true := by
  rw [decide_eq_false fun z => h (by have := V.int.inj z; omega)]
  rfl
theorem iv_eq {a b : Nat} (h : a = b) : (!decide (iv a = iv b)) = false := by
  rw [decide_eq_true (by rw [h])]
  rfl
theorem ok_ewait {f : Addr} {fd : FuncData} (F : Fun K "waits_for" "Search.waits_for" sEWait f fd) (T : TSe K C) : FnOk P w K mg base CX0 1 f fd ["self", "search", "round_number", "station"] (spEWait C) := by
  refine F.ok scEWait (fun vs H Q E h => ?_) (fun cdv A outer s H vs Q E hr h => ?_)
  · obtain ⟨a, F, e, s, r, st, rfl, _⟩ := h
    rfl
  · obtain ⟨a, F, e, sr, r, st, rfl, hS, q⟩ := h
    obtain ⟨dx, d, rfl, h1, h2⟩ := hS.ex
    have hu := hu_of hr
    refine ⟨_, pss_cons (ps_if (pw_or (pt_cmpR op_ne (pv 1) (pe_fld (pv 0) rfl) (nomark _)) (pw_or1 (pt_cmpR op_ne (pv 2) (pe_fld (pv 0) rfl) (nomark _)))).pt (pss_one (ps_ret pe_bl)) pss_nil)
      (pss_one (ps_ret (pe_and (pe_cmpR op_lt (pv 3) (pe_fld (pv 0) rfl) (nomark _)) (pe_one (pe_cmp (pc_dnotin hu (pv 3) (pe_fld (pv 0) rfl)) (by rfl)))))), ?_⟩
    unfold waits at q
    refine ⟨_, rfl, _, rfl, a, C, dx, _, _, rfl, h1, T.cl, T.n1, rfl, rfl, _, rfl, ite2 (fun z => ?_) (fun z => ?_)⟩
    · have z1 : ¬ sr = e.number := fun y => by rw [iv_eq y] at z; cases z
      rw [decide_eq_false fun y => z1 y.1.1] at q
      exact iteT q
    · have z1 : sr = e.number := Classical.byContradiction fun y => z (iv_ne y)
      refine ⟨_, rfl, _, rfl, a, C, dx, _, _, rfl, h1, T.cl, T.n4, rfl, rfl, _, rfl, ite2 (fun z2 => ?_) (fun z2 => ?_)⟩
      · have z3 : ¬ r = e.round := fun y => by rw [iv_eq y] at z2; cases z2
        rw [decide_eq_false fun y => z3 y.1.2] at q
        exact q
      · have z3 : r = e.round := Classical.byContradiction fun y => z2 (iv_ne y)
        refine ⟨_, rfl, _, rfl, a, C, dx, _, _, rfl, h1, T.cl, T.n3, rfl, _, _, rfl, rfl, _, rfl, ite2 (fun z4 => ?_) (fun z4 => ?_)⟩
        · have z5 : (st : Int) < (e.stations : Int) := of_decide_eq_true z4
          refine ⟨_, rfl, _, rfl, a, C, dx, _, _, rfl, h1, T.cl, T.n7, rfl, d, _, rfl, DGet.k (k := Sum.inl (st : Int)) h2, ?_⟩
          rw [tk_val]
          cases y : e.told.lookup st with
          | none =>
            rw [decide_eq_true ⟨⟨z1, z3⟩, by omega, y⟩] at q
            exact q
          | some v =>
            rw [decide_eq_false fun x => by rw [y] at x; cases x.2.2] at q
            exact q
        · have z5 : ¬ (st : Int) < (e.stations : Int) := fun y => z4 (decide_eq_true y)
          rw [decide_eq_false fun x => by have := x.2.1; omega] at q
          exact q
theorem scEHalve : FnScope ["self", "more_than_k", "x"] ["self", "more_than_k"] (defScope sEHalve) := ⟨rfl, rfl, rfl, by decide +kernel, rfl, by decide +kernel, by decide +kernel⟩
theorem ok_ehalve {f : Addr} {fd : FuncData} (F : Fun K "halve" "Search.halve" sEHalve f fd) (T : TSe K C) (M : Mt P w K mg base 1 C "asked_x" ["self"] (spEX C)) : FnOk P w K mg base CX0 2 f fd ["self", "more_than_k"] (spEHalve C) := by
  refine F.ok scEHalve (fun vs H Q E h => ?_) (fun cdv A outer s H vs Q E hr h => ?_)
  · obtain ⟨a, F, e, m, rfl, _⟩ := h
    rfl
  · obtain ⟨a, F, e, m, rfl, hS, q⟩ := h
    obtain ⟨dx, d, rfl, h1, h2⟩ := hS.ex
    have ad : a ≠ d := ne_of h1 h2 (by intro z; cases z)
    refine ⟨_, pss_cons (ps_set (i := 2) scEHalve.nd rfl (Or.inl rfl) (pmeth0 (pv 0) T.cl M hr))
      (pss_cons (ps_if (pt_val (pv 1)) (pss_one (ps_fld (pv 0) (pv 2) rfl)) (pss_one (ps_fld (pv 0) (pe_op op_add (pv 2) pe_int) rfl)))
      (pss_one (ps_if (pt_cmpR op_eq (pe_fld (pv 0) rfl) (pe_fld (pv 0) rfl) (nomark _)) (pss_cons (ps_fld (pv 0) (pe_fld (pv 0) rfl) rfl) (pss_one (ps_fld (pv 0) pe_bl rfl))) pss_nil))), ?_⟩
    have tail : ∀ (σ : L2.St) (e1 : Se), σ[0]? = some (some (.ref a)) → e1 = e.cut m → e1.told = e.told → tIfS (tTest (tOp rEq (tFld K (tVar 0) "lo") (tFld K (tVar 0) "hi"))) (tSeq (sFld K (tVar 0) (tFld K (tVar 0) "lo") "found") (sFld K (tVar 0) (tC (.bl true)) "over")) tNext
        { nx := fun _ H' => Q .non H', rt := Q } σ (upd H a (.ins C dx (ef e1 d))) := by
      intro σ e1 hσ he ht
      have g1 : upd H a (.ins C dx (ef e1 d)) a = some (.ins C dx (ef e1 d)) := upd_same
      unfold Se.halve at q
      rw [← he] at q
      refine ⟨_, hσ, a, C, dx, _, _, rfl, g1, T.cl, T.n5, rfl, _, hσ, a, C, dx, _, _, rfl, g1, T.cl, T.n6, rfl, rfl, _, rfl, ite2 (fun z => ?_) (fun z => ?_)⟩
      · have z1 : e1.lo = e1.hi := by
          have := V.int.inj (of_decide_eq_true z)
          omega
        rw [if_pos z1] at q
        refine ⟨_, hσ, a, C, dx, _, _, rfl, g1, T.cl, T.n5, rfl, _, hσ, a, C, dx, _, rfl, g1, T.cl, T.n9, (by show 9 < 1000; decide), ?_⟩
        refine ⟨_, hσ, a, C, dx, _, rfl, upd_same, T.cl, T.n8, (by show 9 < 1000; decide), ?_⟩
        refine q _ [a, d] ⟨dx, d, rfl, upd_same, ?_⟩ (((ch_upd (by simp)).trans (ch_upd (by simp))).trans (ch_upd (by simp)))
        rw [upd_ne ad.symm, upd_ne ad.symm, upd_ne ad.symm, h2]
        show _ = some (HO.dK (tk e1.told))
        rw [ht]
      · have z1 : ¬ e1.lo = e1.hi := fun y => z (decide_eq_true (by rw [y]))
        rw [if_neg z1] at q
        refine q _ [a, d] ⟨dx, d, rfl, upd_same, ?_⟩ (ch_upd (by simp))
        rw [upd_ne ad.symm, h2, ht]
    refine ⟨_, rfl, a, dx, _, rfl, h1, rfl, a, _, e, rfl, hS, ?_⟩
    refine ⟨_, rfl, _, rfl, ?_⟩
    cases m with
    | true =>
      refine iteT ⟨_, rfl, _, rfl, a, C, dx, _, rfl, h1, T.cl, T.n6, (by show 9 < 1000; decide), ?_⟩
      exact tail _ { e with hi := e.x } rfl rfl rfl
    | false =>
      refine iteF ⟨_, rfl, _, _, rfl, rfl, _, rfl, a, C, dx, _, rfl, h1, T.cl, T.n5, (by show 9 < 1000; decide), ?_⟩
      exact tail _ { e with lo := e.x + 1 } rfl rfl rfl
theorem scEEnd : FnScope ["self", "more_than_k"] ["self", "more_than_k"] (defScope sEEnd) := ⟨rfl, rfl, rfl, by decide +kernel, rfl, by decide +kernel, by decide +kernel⟩
theorem ok_eend {f : Addr} {fd : FuncData} (F : Fun K "end_round" "Search.end_round" sEEnd f fd) (T : TSe K C) (M : Mt P w K mg base 2 C "halve" ["self", "more_than_k"] (spEHalve C)) : FnOk P w K mg base CX0 3 f fd ["self", "more_than_k"] (spEEnd C) := by
  refine F.ok scEEnd (fun vs H Q E h => ?_) (fun cdv A outer s H vs Q E hr h => ?_)
  · obtain ⟨a, F, e, m, rfl, _⟩ := h
    rfl
  · obtain ⟨a, F, e, m, rfl, hS, q⟩ := h
    refine ⟨_, pss_cons (ps_if (pt_cmpR op_eq (pe_fld (pv 0) rfl) pe_int (nomark _)) (pss_one (ps_fld (pv 0) (pe_not (pv 1)) rfl)) (pss_one (ps_expr (pmeth (pv 0) T.cl M hr (pa_cons (pv 1) pa_nil)))))
      (pss_one (ps_if (pt_not (pt_val (pe_fld (pv 0) rfl))) (pss_cons (ps_fld (pv 0) (pe_op op_add (pe_fld (pv 0) rfl) pe_int) rfl) (pss_one (ps_fld (pv 0) pe_dnewK rfl))) pss_nil)), ?_⟩
    have tail : ∀ (H1 : Hp) (F1 : List Addr), SeAt C H1 a F1 (e.mid m) → Ch H H1 F F1 → tIfS (tNot (tB (tFld K (tVar 0) "over"))) (tSeq (sFld K (tVar 0) (tOp (rI0 fun i j => .int (i + j)) (tFld K (tVar 0) "round_number") (tC (.int 1))) "round_number") (sFld K (tVar 0) tDNewK "told")) tNext
        { nx := fun _ H' => Q .non H', rt := Q } [some (.ref a), some (.bl m)] H1 := by
      intro H1 F1 hS1 ch1
      obtain ⟨dx1, d1, rfl, g1, g2⟩ := hS1.ex
      have ad1 : a ≠ d1 := ne_of g1 g2 (by intro z; cases z)
      refine ⟨_, rfl, a, C, dx1, _, _, rfl, g1, T.cl, T.n8, rfl, _, rfl, ?_⟩
      unfold Se.endRound at q
      cases ov : (e.mid m).over with
      | true =>
        rw [if_pos ov] at q
        exact iteF (q _ _ hS1 ch1)
      | false =>
        rw [if_neg (by rw [ov]; exact Bool.false_ne_true)] at q
        refine iteT ⟨_, rfl, a, C, dx1, _, _, rfl, g1, T.cl, T.n4, rfl, _, _, rfl, rfl, _, rfl, a, C, dx1, _, rfl, g1, T.cl, T.n4, (by show 9 < 1000; decide), fun d2 hd2 => ?_⟩
        have ad2 : a ≠ d2 := ne_of_none upd_same hd2
        have hd2' : H1 d2 = none := by
          rw [upd_ne ad2.symm] at hd2
          exact hd2
        refine ⟨_, rfl, a, C, dx1, _, rfl, Eq.trans (upd_ne ad2) upd_same, T.cl, T.n7, (by show 9 < 1000; decide), ?_⟩
        have cc : Ch H1 (upd (upd (upd H1 a (.ins C dx1 (putF "round_number" (.int ((e.mid m).round + 1)) (ef (e.mid m) d1)))) d2 (.dK [])) a (.ins C dx1 (putF "told" (.ref d2) (putF "round_number" (.int ((e.mid m).round + 1)) (ef (e.mid m) d1))))) [a, d1] [a, d2] := by
          refine Ch.more (((ch_upd (F := [a, d1]) (by simp)).trans (Ch.same (same_new hd2) _)).trans (ch_upd (by simp))) fun b hb => ?_
          simp only [List.mem_cons, List.not_mem_nil, or_false] at hb
          rcases hb with rfl | rfl
          · exact .inl (by simp)
          · exact .inr hd2'
        refine q _ [a, d2] ⟨dx1, d2, rfl, ?_, ?_⟩ (ch1.trans cc)
        · exact upd_same
        · rw [upd_ne ad2.symm, upd_same]
          rfl
    obtain ⟨dx, d, hF, h1, h2⟩ := hS.ex
    have ad : a ≠ d := ne_of h1 h2 (by intro z; cases z)
    refine ⟨_, rfl, a, C, dx, _, _, rfl, h1, T.cl, T.n4, rfl, rfl, _, rfl, ite2 (fun z => ?_) (fun z => ?_)⟩
    · have z1 : e.round = 0 := by
        have := V.int.inj (of_decide_eq_true z)
        omega
      have em : e.mid m = { e with over := !m } := if_pos z1
      refine ⟨_, rfl, _, rfl, _, rfl, a, C, dx, _, rfl, h1, T.cl, T.n8, (by show 9 < 1000; decide), ?_⟩
      refine tail _ F ?_ ?_
      · rw [em, hF]
        refine ⟨dx, d, rfl, upd_same, ?_⟩
        rw [upd_ne ad.symm, h2]
      · rw [hF]
        exact ch_upd (by simp)
    · have z1 : ¬ e.round = 0 := fun y => z (decide_eq_true (by rw [y]; rfl))
      have em : e.mid m = e.halve m := if_neg z1
      refine ⟨_, rfl, a, dx, _, rfl, h1, rfl, _, rfl, a, F, e, m, rfl, hS, fun H1 F1 hS1 ch1 => ?_⟩
      exact tail H1 F1 (by rw [em]; exact hS1) ch1
theorem scEKeep : FnScope ["self", "station", "how_many"] ["self", "station", "how_many"] (defScope sEKeep) := ⟨rfl, rfl, rfl, by decide +kernel, rfl, by decide +kernel, by decide +kernel⟩
theorem ok_ekeep {f : Addr} {fd : FuncData} (F : Fun K "keep" "Search.keep" sEKeep f fd) (T : TSe K C) (M : Mt P w K mg base 3 C "end_round" ["self", "more_than_k"] (spEEnd C)) (hL : mg "len" = none) (hS0 : mg "sum" = none) : FnOk P w K mg base CX0 4 f fd ["self", "station", "how_many"] (spEKeep C) := by
  refine F.ok scEKeep (fun vs H Q E h => ?_) (fun cdv A outer s H vs Q E hr h => ?_)
  · obtain ⟨a, F, e, st, h, rfl, _⟩ := h
    rfl
  · obtain ⟨a, F, e, st, hm, rfl, hS, hn, hlen, q⟩ := h
    obtain ⟨dx, d, rfl, h1, h2⟩ := hS.ex
    have ad : a ≠ d := ne_of h1 h2 (by intro z; cases z)
    have hu := hu_of hr
    refine ⟨_, pss_cons (ps_dput hu (pe_fld (pv 0) rfl) (pv 1) (pv 2) rfl)
      (pss_one (ps_if (pt_cmpR op_eq (pe_callB call_lenD (by rfl) hL PySem.boot_len (pa_cons (pe_fld (pv 0) rfl) pa_nil)) (pe_fld (pv 0) rfl) (nomark _))
        (pss_one (ps_expr (pmeth (pv 0) T.cl M hr (pa_cons (pe_cmpR op_gt (pe_callB (cr_sumV rfl) (by rfl) hS0 boot_sum (pa_cons (pe_bm0 PySem.F.plainAttrs_dict PySem.F.slot_dict_values PySem.F.type_dict_values mt_values (pe_fld (pv 0) rfl)) pa_nil)) (pe_fld (pv 0) rfl) (nomark _)) pa_nil)))) pss_nil)), ?_⟩
    have hv : valV (tk e.told) (Sum.inl (st : Int)) = none := by rw [tk_val, hn]; rfl
    refine ⟨_, rfl, _, rfl, a, C, dx, _, _, rfl, h1, T.cl, T.n7, rfl, _, rfl, d, _, rfl, DPut.k (k := Sum.inl (st : Int)) h2 (by rw [tk_len]; exact Nat.lt_of_le_of_lt hlen (by decide)), ?_⟩
    rw [putK_new _ hv, ← tk_snoc]
    have g1 : upd H d (.dK (tk (e.told ++ [(st, hm)]))) a = some (.ins C dx (ef (e.put st hm) d)) := Eq.trans (upd_ne ad) h1
    have g2 : upd H d (.dK (tk (e.told ++ [(st, hm)]))) d = some (.dK (tk (e.told ++ [(st, hm)]))) := upd_same
    have hS1 : SeAt C (upd H d (.dK (tk (e.told ++ [(st, hm)])))) a [a, d] (e.put st hm) := ⟨dx, d, rfl, g1, g2⟩
    have c1 : Ch H (upd H d (.dK (tk (e.told ++ [(st, hm)])))) [a, d] [a, d] := ch_upd (by simp)
    refine ⟨_, rfl, a, C, dx, _, _, rfl, g1, T.cl, T.n7, rfl, d, _, rfl, g2, _, rfl, a, C, dx, _, _, rfl, g1, T.cl, T.n3, rfl, rfl, _, rfl, ite2 (fun z => ?_) (fun z => ?_)⟩
    · have z1 : (e.put st hm).told.length = e.stations := by
        have z := V.int.inj (of_decide_eq_true z)
        rw [tk_len] at z
        have z : ((e.told ++ [(st, hm)]).length : Int) = (e.stations : Int) := z
        show (e.told ++ [(st, hm)]).length = e.stations
        omega
      unfold Se.keep at q
      rw [if_pos z1] at q
      refine ⟨_, rfl, a, dx, _, rfl, g1, rfl, _, rfl, a, C, dx, _, _, rfl, g1, T.cl, T.n7, rfl, .inr ⟨rfl, _, g2⟩, d, _, rfl, rfl, g2, fun p hp => ?_⟩
      have s3 := same_new (o := viewOf p d) hp
      refine ⟨p, d, _, _, rfl, upd_same, s3 _ _ g2, tk_vals _, _, rfl, a, C, dx, _, _, rfl, s3 _ _ g1, T.cl, T.n2, rfl, _, _, rfl, rfl, a, [a, d], e.put st hm, decide (e.k < (e.put st hm).sum), ?_, hS1.same fun b o _ => s3 b o, fun H' F' hS' ch' => ?_⟩
      · have e1 : decide ((e.k : Int) < ((e.told ++ [(st, hm)]).map fun p => ((p.2 : Nat) : Int)).sum) = decide (e.k < (e.put st hm).sum) := by
          rw [sum_cast]
          congr 1
          simp only [eq_iff_iff]
          show (e.k : Int) < (((e.told ++ [(st, hm)]).map (·.2)).sum : Nat) ↔ e.k < ((e.told ++ [(st, hm)]).map (·.2)).sum
          omega
        rw [← e1]
        rfl
      · exact q H' F' hS' (c1.trans ((Ch.same s3 _).trans ch'))
    · have z1 : ¬ (e.put st hm).told.length = e.stations := by
        intro y
        apply z
        apply decide_eq_true
        rw [tk_len]
        show V.int _ = V.int _
        have y : (e.told ++ [(st, hm)]).length = e.stations := y
        rw [y]
        rfl
      unfold Se.keep at q
      rw [if_neg z1] at q
      exact q _ _ hS1 c1
end
end My
end
section
set_option Elab.async false
set_option linter.all false
set_option maxRecDepth 100000
set_option maxHeartbeats 4000000
namespace My
open PySem PySem.Spec PyProof.Rows L2
open Mc (Se On Rel)
open Km352 (Centre)
abbrev cCe : Stmt := top 44
abbrev sCInit : Stmt := inClass cCe 0
abbrev sCAsk : Stmt := inClass cCe 1
abbrev sCSay : Stmt := inClass cCe 2
abbrev sCHeard : Stmt := inClass cCe 3
abbrev sCFound : Stmt := inClass cCe 4
abbrev sCIs : Stmt := inClass cCe 5
def cf (n s : Nat) (lb : V) : List (Str × V) := [("stations", iv n), ("searches", iv s), ("last_begun", lb)]
structure CeAt (C CS : Addr) (H : Hp) (a : Addr) (F : List Addr) (c : Centre) : Prop where
  ex : ∃ dx lb, H a = some (.ins C dx (cf c.stations c.search lb)) ∧ ((c.state = 0 ∧ lb = .non ∧ F = [a]) ∨ ∃ b e F', lb = .ref b ∧ SeAt CS H b F' e ∧ Rel e c ∧ F = a :: F' ∧ a ∉ F')
  n16 : c.stations ≤ 16
  search : c.search < 2 ^ 32
theorem CeAt.same {C CS : Addr} {H H' : Hp} {a : Addr} {F : List Addr} {c : Centre} (h : CeAt C CS H a F c) (k : ∀ b o, b ∈ F → H b = some o → H' b = some o) : CeAt C CS H' a F c := by
  obtain ⟨⟨dx, lb, h1, h2⟩, x, y⟩ := h
  refine ⟨⟨dx, lb, ?_, ?_⟩, x, y⟩
  · rcases h2 with ⟨_, _, rfl⟩ | ⟨b, e, F', _, _, _, rfl, _⟩ <;> exact k _ _ (by simp) h1
  · rcases h2 with h2 | ⟨b, e, F', e1, e2, e3, rfl, e5⟩
    · exact .inl h2
    · exact .inr ⟨b, e, F', e1, e2.same fun b o hb => k b o (List.mem_cons_of_mem _ hb), e3, rfl, e5⟩
theorem CeAt.live {C CS : Addr} {H : Hp} {a : Addr} {F : List Addr} {c : Centre} (h : CeAt C CS H a F c) : ∀ b ∈ F, ∃ o, H b = some o := by
  obtain ⟨⟨dx, lb, h1, h2⟩, x, y⟩ := h
  intro b hb
  rcases h2 with ⟨_, _, rfl⟩ | ⟨b', e, F', _, e2, _, rfl, _⟩
  · rw [List.mem_singleton.mp hb]
    exact ⟨_, h1⟩
  · rcases List.mem_cons.mp hb with rfl | hb
    · exact ⟨_, h1⟩
    · exact e2.live b hb
theorem CeAt.mem {C CS : Addr} {H : Hp} {a : Addr} {F : List Addr} {c : Centre} (h : CeAt C CS H a F c) : a ∈ F := by
  obtain ⟨⟨dx, lb, h1, h2⟩, x, y⟩ := h
  rcases h2 with ⟨_, _, rfl⟩ | ⟨b', e, F', _, e2, _, rfl, _⟩ <;> simp
structure TCe (K : PySem.W.Frag) (C : Addr) : Prop where
  cl : Cls K C
  n1 : NoAttr K C "stations"
  n2 : NoAttr K C "searches"
  n3 : NoAttr K C "last_begun"
inductive spCInit (C CS : Addr) (vs : List V) (H : Hp) (Q : VK) (E : XK) : Prop
  | mk (p dx : Addr) (n : Nat) (h0 : vs = [.ref p, iv n]) (h1 : n ≤ 16) (h2 : H p = some (.ins C dx [])) (h3 : ∀ (H' : Hp) (F : List Addr), CeAt C CS H' p F (Km352.centre0 n) → Ch H H' [p] F → Q .non H') : spCInit C CS vs H Q E
inductive spCIs (C CS : Addr) (vs : List V) (H : Hp) (Q : VK) (E : XK) : Prop
  | mk (a : Addr) (F : List Addr) (c : Centre) (h0 : vs = [.ref a]) (h1 : CeAt C CS H a F c) (h2 : Q (.bl (decide (c.state = 1))) H) : spCIs C CS vs H Q E
inductive spCAsk (C CS : Addr) (vs : List V) (H : Hp) (Q : VK) (E : XK) : Prop
  | mk (a : Addr) (F : List Addr) (c : Centre) (k : Nat) (h0 : vs = [.ref a, iv k]) (h1 : CeAt C CS H a F c) (h2 : Res Q H F (fun H' F' => CeAt C CS H' a F' (Km352.cDoes c (.cAsk k)).1) (Km352Neutral.told (Km352.cDoes c (.cAsk k)).2)) : spCAsk C CS vs H Q E
inductive spCSay (C CS : Addr) (vs : List V) (H : Hp) (Q : VK) (E : XK) : Prop
  | mk (a : Addr) (F : List Addr) (c : Centre) (h0 : vs = [.ref a]) (h1 : CeAt C CS H a F c) (h2 : Res Q H F (fun H' F' => CeAt C CS H' a F' (Km352.cDoes c .cSay).1) (Km352Neutral.told (Km352.cDoes c .cSay).2)) : spCSay C CS vs H Q E
inductive spCFound (C CS : Addr) (vs : List V) (H : Hp) (Q : VK) (E : XK) : Prop
  | mk (a : Addr) (F : List Addr) (c : Centre) (h0 : vs = [.ref a]) (h1 : CeAt C CS H a F c) (h2 : Res Q H F (fun H' F' => CeAt C CS H' a F' (Km352.cDoes c .cFound).1) (Km352Neutral.told (Km352.cDoes c .cFound).2)) : spCFound C CS vs H Q E
inductive spCHeard (K : PySem.W.Frag) (C CS : Addr) (vs : List V) (H : Hp) (Q : VK) (E : XK) : Prop
  | mk (a p : Addr) (F : List Addr) (c : Centre) (l : List Nat) (h0 : vs = [.ref a, .ref p]) (h1 : CeAt C CS H a F c) (h2 : SqL K H p (nv l)) (h3 : l.length = 20) (h4 : (∀ b ∈ l, b < 256)) (h5 : Res Q H F (fun H' F' => CeAt C CS H' a F' (Km352.cDoes c (.cHeard l)).1) (Km352Neutral.told (Km352.cDoes c (.cHeard l)).2)) : spCHeard K C CS vs H Q E
section
variable {P : Program} {w : World} {K : PySem.W.Frag} {mg : Str → Option Value} {base : Heap} {C CS : Addr}
theorem scCInit : FnScope ["self", "stations"] ["self", "stations"] (defScope sCInit) := ⟨rfl, rfl, rfl, by decide +kernel, rfl, by decide +kernel, by decide +kernel⟩
theorem ok_cinit {f : Addr} {fd : FuncData} (F : Fun K "__init__" "Centre.__init__" sCInit f fd) (T : TCe K C) : FnOk P w K mg base CX0 1 f fd ["self", "stations"] (spCInit C CS) := by
  refine F.ok scCInit (fun vs H Q E h => ?_) (fun cdv A outer s H vs Q E hr h => ?_)
  · obtain ⟨p, dx, n, rfl, _⟩ := h
    rfl
  · obtain ⟨p, dx, n, rfl, hn, hp, q⟩ := h
    refine ⟨_, pss_cons (ps_fld (pv 0) (pv 1) rfl) (pss_cons (ps_fld (pv 0) pe_int rfl) (pss_one (ps_fld (pv 0) pe_non rfl))), ?_⟩
    refine ⟨_, rfl, _, rfl, p, C, dx, [], rfl, hp, T.cl, T.n1, (by show 0 < 1000; decide), ?_⟩
    refine ⟨_, rfl, p, C, dx, _, rfl, upd_same, T.cl, T.n2, (by show 1 < 1000; decide), ?_⟩
    refine ⟨_, rfl, p, C, dx, _, rfl, upd_same, T.cl, T.n3, (by show 2 < 1000; decide), ?_⟩
    exact q _ [p] ⟨⟨dx, .non, upd_same, .inl ⟨rfl, rfl, rfl⟩⟩, hn, (by show 0 < 2 ^ 32; decide)⟩ ((upd_ch.trans upd_ch).trans upd_ch)
theorem scCIs : FnScope ["self"] ["self"] (defScope sCIs) := ⟨rfl, rfl, rfl, by decide +kernel, rfl, by decide +kernel, by decide +kernel⟩
theorem rel_state {e : Se} {c : Centre} (r : Rel e c) : (!e.over) = decide (c.state = 1) := by
  rcases r with r | ⟨r1, r2, _⟩ | ⟨r1, r2, _⟩
  · rw [r.over, r.state]
    rfl
  · rw [r1, r2]
    rfl
  · rw [r1, r2]
    rfl
theorem ok_cis {f : Addr} {fd : FuncData} (F : Fun K "is_searching" "Centre.is_searching" sCIs f fd) (T : TCe K C) (T2 : TSe K CS) : FnOk P w K mg base CX0 1 f fd ["self"] (spCIs C CS) := by
  refine F.ok scCIs (fun vs H Q E h => ?_) (fun cdv A outer s H vs Q E hr h => ?_)
  · obtain ⟨a, F, c, rfl, _⟩ := h
    rfl
  · obtain ⟨a, F, c, rfl, hC, q⟩ := h
    obtain ⟨dx, lb, h1, h2⟩ := hC.ex
    refine ⟨_, pss_one (ps_ret (pe_and (pe_cmp (pc_notN (pe_fld (pv 0) rfl))) (pe_one (pe_not (pe_fld (pe_fld (pv 0) rfl) rfl))))), ?_⟩
    refine ⟨_, rfl, a, C, dx, _, _, rfl, h1, T.cl, T.n3, rfl, _, rfl, ?_⟩
    rcases h2 with ⟨e1, rfl, _⟩ | ⟨b, e, F', rfl, e2, e3, _, _⟩
    · refine iteF ?_
      rw [e1] at q
      exact q
    · obtain ⟨dx2, d, _, g1, g2⟩ := e2.ex
      refine iteT ⟨_, rfl, a, C, dx, _, _, rfl, h1, T.cl, T.n3, rfl, b, CS, dx2, _, _, rfl, g1, T2.cl, T2.n8, rfl, _, rfl, ?_⟩
      rw [rel_state e3]
      exact q
theorem scCAsk : FnScope ["self", "k"] ["self", "k"] (defScope sCAsk) := ⟨rfl, rfl, rfl, by decide +kernel, rfl, by decide +kernel, by decide +kernel⟩
theorem ok_cask {f : Addr} {fd : FuncData} (F : Fun K "kc_ask" "Centre.kc_ask" sCAsk f fd) (T : TCe K C) (M : Mr P w K mg base 1 CS "Search" ["self", "number", "k", "stations"] (spEInit CS)) (c1 : Cn mg "MOST_SEARCHES" 4294967295) (c2 : Cn mg "NO_ROOM" (-28)) : FnOk P w K mg base CX0 3 f fd ["self", "k"] (spCAsk C CS) := by
  refine F.ok scCAsk (fun vs H Q E h => ?_) (fun cdv A outer s H vs Q E hr h => ?_)
  · obtain ⟨a, F, c, k, rfl, _⟩ := h
    rfl
  · obtain ⟨a, F, c, k, rfl, hC, q⟩ := h
    obtain ⟨dx, lb, h1, h2⟩ := hC.ex
    refine ⟨_, pss_cons (ps_if (pt_cmpR op_ge (pe_fld (pv 0) rfl) (pcn c1) (nomark _)) (pss_one (ps_ret (pe_lst (pa_cons (pcn c2) pa_nil)))) pss_nil)
      (pss_cons (ps_fld (pv 0) (pe_op op_add (pe_fld (pv 0) rfl) pe_int) rfl)
      (pss_cons (ps_fld (pv 0) (pmake M hr (pa_cons (pe_fld (pv 0) rfl) (pa_cons (pv 1) (pa_cons (pe_fld (pv 0) rfl) pa_nil)))) rfl)
      (pss_one (ps_ret (pe_lst (pa_cons pe_int pa_nil)))))), ?_⟩
    refine ⟨_, rfl, a, C, dx, _, _, rfl, h1, T.cl, T.n2, rfl, _, _, rfl, rfl, _, rfl, ite2 (fun z => ?_) (fun z => ?_)⟩
    · have z1 : (4294967295 : Int) ≤ (c.search : Int) := of_decide_eq_true z
      have e2 : Km352.cDoes c (.cAsk k) = (c, Km352.only (-28)) := by
        show (if Km352.TOP ≤ c.search + 1 then _ else _) = _
        rw [if_pos (by show 2 ^ 32 ≤ c.search + 1; omega)]
      rw [e2] at q
      refine ⟨(by show 1 ≤ sizeLine; decide), fun p hp => ?_⟩
      have sm := same_new (o := .lst [.int (-28)]) hp
      exact q _ _ p (hC.same fun b o _ => sm b o) (Ch.same sm _) hp upd_same
    · have z1 : ¬ (4294967295 : Int) ≤ (c.search : Int) := fun y => z (decide_eq_true y)
      have e2 : Km352.cDoes c (.cAsk k) = ({ c with k := k, search := c.search + 1, round := 0, lo := 0, hi := Km352.TOP - 1, got := Km352.none_, state := 1 }, Km352.only 0) := by
        show (if Km352.TOP ≤ c.search + 1 then _ else _) = _
        rw [if_neg (by show ¬ 2 ^ 32 ≤ c.search + 1; omega)]
      rw [e2] at q
      have g1 : upd H a (.ins C dx (cf c.stations (c.search + 1) lb)) a = some (.ins C dx (cf c.stations (c.search + 1) lb)) := upd_same
      refine ⟨_, rfl, a, C, dx, _, _, rfl, h1, T.cl, T.n2, rfl, _, _, rfl, rfl, _, rfl, a, C, dx, _, rfl, h1, T.cl, T.n2, (by show 3 < 1000; decide), ?_⟩
      refine ⟨_, rfl, a, C, dx, _, _, rfl, g1, T.cl, T.n2, rfl, _, rfl, _, rfl, a, C, dx, _, _, rfl, g1, T.cl, T.n1, rfl, fun x dx2 nx ndx nex => ?_⟩
      refine ⟨x, dx2, c.search + 1, k, c.stations, rfl, upd_same, fun H2 F2 hS2 ch2 => ⟨rfl, ?_⟩⟩
      obtain ⟨s2, fr2⟩ := made_same nx ndx ch2
      have g2 := s2 _ _ g1
      have aF : a ∉ F2 := fun z => by
        cases Eq.trans (Eq.symm g1) (fr2 a z)
      refine ⟨_, rfl, a, C, dx, _, rfl, g2, T.cl, T.n3, (by show 3 < 1000; decide), (by show 1 ≤ sizeLine; decide), fun p hp => ?_⟩
      have sm := same_new (o := .lst [.int 0]) hp
      have hS3 : SeAt CS (upd (upd H2 a (.ins C dx (cf c.stations (c.search + 1) (.ref x)))) p (.lst [.int 0])) x F2 (Se.new (c.search + 1) k c.stations) :=
        (hS2.same fun b o hb e => by rw [upd_ne fun z => aF (by rw [← z]; exact hb)]; exact e).same fun b o _ => sm b o
      have hn : H p = none := by
        have y : H2 p = none := by
          rw [upd_ne (fun z => by rw [z, upd_same] at hp; cases hp)] at hp
          exact hp
        have y2 := s2.free y
        rw [upd_ne (fun z => by rw [z, upd_same] at y2; cases y2)] at y2
        exact y2
      refine q _ (a :: F2) p ⟨⟨dx, .ref x, sm _ _ upd_same, .inr ⟨x, _, F2, rfl, hS3, .inl (Mc.on_new (c := c) hC.n16), rfl, aF⟩⟩, hC.n16, (by show c.search + 1 < 2 ^ 32; omega)⟩ ?_ hn upd_same
      have c1 : Ch H (upd H a (.ins C dx (cf c.stations (c.search + 1) lb))) F F := ch_upd hC.mem
      have c2 := (((c1.trans (Ch.same s2 F)).trans (ch_upd (a := a) (o := .ins C dx (cf c.stations (c.search + 1) (.ref x))) hC.mem)).trans (Ch.same sm F))
      refine c2.more fun b hb => ?_
      rcases List.mem_cons.mp hb with rfl | hb
      · exact .inl hC.mem
      · exact .inr (c1.free (fr2 b hb))
theorem scCSay : FnScope ["self", "search"] ["self"] (defScope sCSay) := ⟨rfl, rfl, rfl, by decide +kernel, rfl, by decide +kernel, by decide +kernel⟩
theorem ok_csay {f : Addr} {fd : FuncData} (F : Fun K "kc_say" "Centre.kc_say" sCSay f fd) (T : TCe K C) (T2 : TSe K CS) (M1 : Mt P w K mg base 1 C "is_searching" ["self"] (spCIs C CS)) (M2 : Mt P w K mg base 1 CS "asked_x" ["self"] (spEX CS))
    (G : Fn P w K mg base 4 "written_question" ["search", "round_number", "x"] spWQ) (c1 : Cn mg "NOT_NOW" (-11)) : FnOk P w K mg base CX0 5 f fd ["self"] (spCSay C CS) := by
  refine F.ok scCSay (fun vs H Q E h => ?_) (fun cdv A outer s H vs Q E hr h => ?_)
  · obtain ⟨a, F, c, rfl, _⟩ := h
    rfl
  · obtain ⟨a, F, c, rfl, hC, q⟩ := h
    obtain ⟨dx, lb, h1, h2⟩ := hC.ex
    have r1 : Room 1 _ := hr.mono (by decide)
    refine ⟨_, pss_cons (ps_if (pt_not (pt_val (pmeth0 (pv 0) T.cl M1 r1))) (pss_one (ps_ret (pe_lst (pa_cons (pcn c1) pa_nil)))) pss_nil)
      (pss_cons (ps_set (i := 1) scCSay.nd rfl (Or.inl rfl) (pe_fld (pv 0) rfl))
      (pss_one (ps_ret (pe_op op_cat (pe_lst (pa_cons pe_int pa_nil)) (pcall G hr (pa_cons (pe_fld (pv 1) rfl) (pa_cons (pe_fld (pv 1) rfl) (pa_cons (pmeth0 (pv 1) T2.cl M2 r1) pa_nil)))))))), ?_⟩
    refine ⟨_, rfl, a, dx, _, rfl, h1, rfl, a, F, c, rfl, hC, _, rfl, ?_⟩
    have e0 : Km352.cDoes c .cSay = (c, if c.state ≠ 1 then Km352.only (-11) else { value := 0, out := c.question.bytes }) := rfl
    rw [e0] at q
    by_cases z : c.state = 1
    · rw [if_neg (by simp [z])] at q
      rw [decide_eq_true z]
      refine iteF ?_
      rcases h2 with ⟨y, _⟩ | ⟨b, e, F', rfl, e2, e3, _, _⟩
      · rw [z] at y
        cases y
      rcases e3 with r | ⟨y, _⟩ | ⟨y, _⟩
      · obtain ⟨dx2, d, hF', g1, g2⟩ := e2.ex
        refine ⟨_, rfl, a, C, dx, _, _, rfl, h1, T.cl, T.n3, rfl, ?_⟩
        refine ⟨(by show 1 ≤ sizeLine; decide), fun p hp => ?_⟩
        have s1 := same_new (o := .lst [.int 0]) hp
        refine ⟨_, rfl, b, CS, dx2, _, _, rfl, s1 _ _ g1, T2.cl, T2.n1, rfl, _, rfl, b, CS, dx2, _, _, rfl, s1 _ _ g1, T2.cl, T2.n4, rfl, _, rfl, b, dx2, _, rfl, s1 _ _ g1, rfl, b, F', e, rfl, e2.same (fun b o _ => s1 b o), e.number, e.round, e.x, rfl, ?_, ?_, ?_, fun H2 p2 s2 hp2 hH2 => ?_⟩
        · rw [r.number]
          exact hC.search
        · rw [r.round]
          exact Nat.lt_of_le_of_lt r.round_le (by decide)
        · rw [r.x]
          exact r.x_lt
        · refine ⟨p, p2, _, _, rfl, rfl, s2 _ _ upd_same, hH2, ?_, fun p3 hp3 => ?_⟩
          · rw [nv_len, Mx.question_len]
            show 1 + 20 ≤ sizeLine
            decide
          have s3 := same_new (o := .lst ([V.int 0] ++ nv (Km352.Question.bytes ⟨e.number, e.round, e.x⟩))) hp3
          have sm := s1.trans (s2.trans s3)
          refine q _ F p3 (hC.same fun b o _ => sm b o) (Ch.same sm _) ((s1.trans s2).free hp3) (Eq.trans upd_same ?_)
          show _ = some (HO.lst (V.int 0 :: (Km352Neutral.nums c.question.bytes).map V.int))
          rw [nums_nv]
          unfold Km352.Centre.question
          rw [r.number, r.round, r.x]
          rfl
      · rw [z] at y
        cases y
      · rw [z] at y
        cases y
    · rw [if_pos z] at q
      rw [decide_eq_false z]
      refine iteT ⟨(by show 1 ≤ sizeLine; decide), fun p hp => ?_⟩
      have sm := same_new (o := .lst [.int (-11)]) hp
      exact q _ _ p (hC.same fun b o _ => sm b o) (Ch.same sm _) hp upd_same
theorem scCFound : FnScope ["self"] ["self"] (defScope sCFound) := ⟨rfl, rfl, rfl, by decide +kernel, rfl, by decide +kernel, by decide +kernel⟩
theorem ok_cfound {f : Addr} {fd : FuncData} (F : Fun K "kc_found" "Centre.kc_found" sCFound f fd) (T : TCe K C) (T2 : TSe K CS) (M1 : Mt P w K mg base 1 C "is_searching" ["self"] (spCIs C CS)) (c1 : Cn mg "NOT_NOW" (-11)) (c2 : Cn mg "NOT_SO_MANY" (-2)) : FnOk P w K mg base CX0 2 f fd ["self"] (spCFound C CS) := by
  refine F.ok scCFound (fun vs H Q E h => ?_) (fun cdv A outer s H vs Q E hr h => ?_)
  · obtain ⟨a, F, c, rfl, _⟩ := h
    rfl
  · obtain ⟨a, F, c, rfl, hC, q⟩ := h
    obtain ⟨dx, lb, h1, h2⟩ := hC.ex
    refine ⟨_, pss_cons (ps_if (pw_or (pt_cmp (pc_isN (pe_fld (pv 0) rfl))) (pw_or1 (pt_val (pmeth0 (pv 0) T.cl M1 hr)))).pt (pss_one (ps_ret (pe_lst (pa_cons (pcn c1) pa_nil)))) pss_nil)
      (pss_cons (ps_if (pt_cmp (pc_isN (pe_fld (pe_fld (pv 0) rfl) rfl))) (pss_one (ps_ret (pe_lst (pa_cons (pcn c2) pa_nil)))) pss_nil)
      (pss_one (ps_ret (pe_lst (pa_cons pe_int (pa_cons (pe_fld (pe_fld (pv 0) rfl) rfl) pa_nil)))))), ?_⟩
    have e0 : Km352.cDoes c .cFound = (c, if c.state = 2 then { value := 0, out := [c.lo] } else if c.state = 3 then Km352.only (-2) else Km352.only (-11)) := rfl
    rw [e0] at q
    have no : ¬ c.state = 2 → ¬ c.state = 3 → NewAt (.lst [.int (-11)]) 1 H Q := fun y1 y2 => by
      rw [if_neg y1, if_neg y2] at q
      refine ⟨by decide, fun p hp => ?_⟩
      have sm := same_new (o := .lst [.int (-11)]) hp
      exact q _ _ p (hC.same fun b o _ => sm b o) (Ch.same sm _) hp upd_same
    refine ⟨_, rfl, a, C, dx, _, _, rfl, h1, T.cl, T.n3, rfl, _, rfl, ?_⟩
    rcases h2 with ⟨y, rfl, _⟩ | ⟨b, e, F', rfl, e2, e3, _, _⟩
    · exact iteT (iteT (no (by omega) (by omega)))
    · refine iteF ⟨_, rfl, a, dx, _, rfl, h1, rfl, a, F, c, rfl, hC, _, rfl, ?_⟩
      obtain ⟨dx2, d, hF', g1, g2⟩ := e2.ex
      rcases e3 with r | ⟨y1, y2, y3⟩ | ⟨y1, y2, y3⟩
      · have := r.state
        rw [decide_eq_true this]
        exact iteT (no (by omega) (by omega))
      · rw [if_pos y1] at q
        rw [decide_eq_false (by omega)]
        have ey : fV e.found = iv c.lo := by rw [y3]; rfl
        refine iteF ⟨_, rfl, a, C, dx, _, _, rfl, h1, T.cl, T.n3, rfl, b, CS, dx2, _, _, rfl, g1, T2.cl, T2.n9, rfl, _, rfl, ?_⟩
        rw [ey]
        refine iteF ⟨_, rfl, a, C, dx, _, _, rfl, h1, T.cl, T.n3, rfl, b, CS, dx2, _, _, rfl, g1, T2.cl, T2.n9, rfl, (by show 2 ≤ sizeLine; decide), fun p hp => ?_⟩
        rw [ey]
        have sm := same_new (o := .lst [.int 0, iv c.lo]) hp
        exact q _ _ p (hC.same fun b o _ => sm b o) (Ch.same sm _) hp upd_same
      · rw [if_neg (by omega), if_pos y1] at q
        rw [decide_eq_false (by omega)]
        have ey : fV e.found = .non := by rw [y3]; rfl
        refine iteF ⟨_, rfl, a, C, dx, _, _, rfl, h1, T.cl, T.n3, rfl, b, CS, dx2, _, _, rfl, g1, T2.cl, T2.n9, rfl, _, rfl, ?_⟩
        rw [ey]
        refine iteT ⟨(by show 1 ≤ sizeLine; decide), fun p hp => ?_⟩
        have sm := same_new (o := .lst [.int (-2)]) hp
        exact q _ _ p (hC.same fun b o _ => sm b o) (Ch.same sm _) hp upd_same
theorem scCHeard : FnScope ["self", "answer", "station"] ["self", "answer"] (defScope sCHeard) := ⟨rfl, rfl, rfl, by decide +kernel, rfl, by decide +kernel, by decide +kernel⟩
theorem ok_cheard {f : Addr} {fd : FuncData} (F : Fun K "kc_heard" "Centre.kc_heard" sCHeard f fd) (T : TCe K C) (T2 : TSe K CS) (M1 : Mt P w K mg base 1 C "is_searching" ["self"] (spCIs C CS)) (M2 : Mt P w K mg base 1 CS "waits_for" ["self", "search", "round_number", "station"] (spEWait CS))
    (M3 : Mt P w K mg base 4 CS "keep" ["self", "station", "how_many"] (spEKeep CS)) (G1 : Fn P w K mg base 4 "is_right_answer" ["message"] (spIsA K)) (G2 : Fn P w K mg base 2 "search_of" ["message"] (spAt K 4)) (G3 : Fn P w K mg base 2 "round_of" ["message"] (spAt K 8))
    (G4 : Fn P w K mg base 1 "station_of" ["answer"] (spStn K)) (G5 : Fn P w K mg base 2 "how_many_of" ["answer"] (spAt K 12)) (c1 : Cn mg "NOT_RIGHT" (-71)) : FnOk P w K mg base CX0 5 f fd ["self", "answer"] (spCHeard K C CS) := by
  refine F.ok scCHeard (fun vs H Q E h => ?_) (fun cdv A outer s H vs Q E hr h => ?_)
  · obtain ⟨a, p, F, c, l, rfl, _⟩ := h
    rfl
  · obtain ⟨a, p, F, c, l, rfl, hC, hl, h20, hb, q⟩ := h
    have r1 : Room 1 _ := hr.mono (by decide)
    have r2 : Room 2 _ := hr.mono (by decide)
    have e0 : Km352.cDoes c (.cHeard l) = match Km352.answerOf l with
      | none => (c, Km352.only (-71))
      | some x => ((c.hears x).1, Km352.only (if (c.hears x).2 = true then 1 else 0)) := rfl
    rw [e0] at q
    clear e0
    -- a right answer
    refine cut (ps_if (pt_not (pt_val (pcall G1 hr (pa_cons (pv 1) pa_nil)))) (pss_one (ps_ret (pe_lst (pa_cons (pcn c1) pa_nil)))) pss_nil) (fun σ' H1 => σ' = [some (.ref a), some (.ref p), none] ∧ Same H H1 ∧ ∃ x, Km352.answerOf l = some x)
      ⟨_, rfl, p, l, rfl, hl, h20, hb, fun H1 s1 => ⟨_, rfl, ?_⟩⟩ ?_
    · cases eq : Km352.answerOf l with
      | none =>
        rw [eq] at q
        refine iteT ⟨(by show 1 ≤ sizeLine; decide), fun r hr => ?_⟩
        have sm := s1.trans (same_new (o := .lst [.int (-71)]) hr)
        exact q _ F r (hC.same fun b o _ => sm b o) (Ch.same sm _) (s1.free hr) upd_same
      | some x => exact iteF ⟨rfl, s1, x, rfl⟩
    rintro _ H1 ⟨rfl, s1, x, eq⟩
    rw [eq] at q
    dsimp only at q
    have hx := Mx.answer_is eq
    have xs : x.search = Km352.num l 4 4 := by rw [hx]
    have xr : x.round = Km352.num l 8 4 := by rw [hx]
    have xm : x.many = Km352.num l 12 4 := by rw [hx]
    have xt : x.station = l.getD 1 0 := by rw [hx]; exact Mx.num1 (at1 h20)
    clear hx eq
    have hC1 : CeAt C CS H1 a F c := hC.same fun b o _ => s1 b o
    have hl1 := s1.seq hl
    obtain ⟨dx, lb, h1, h2⟩ := hC1.ex
    have nay : c.hears x = (c, false) → NewAt (.lst [.int 0]) 1 H1 Q := fun y => by
      rw [y] at q
      refine ⟨by decide, fun r hr => ?_⟩
      have sm := s1.trans (same_new (o := .lst [.int 0]) hr)
      exact q _ F r (hC.same fun b o _ => sm b o) (Ch.same sm _) (s1.free hr) upd_same
    -- a search goes on
    refine cut (ps_if (pt_not (pt_val (pmeth0 (pv 0) T.cl M1 r1))) (pss_one (ps_ret (pe_lst (pa_cons pe_int pa_nil)))) pss_nil) (fun σ' H' => σ' = [some (.ref a), some (.ref p), none] ∧ H1 = H' ∧ c.state = 1)
      ⟨_, rfl, a, dx, _, rfl, h1, rfl, a, F, c, rfl, hC1, _, rfl, ?_⟩ ?_
    · by_cases z : c.state = 1
      · rw [decide_eq_true z]
        exact iteF ⟨rfl, rfl, z⟩
      · rw [decide_eq_false z]
        exact iteT (nay (Mc.deaf z x))
    rintro _ _ ⟨rfl, rfl, z⟩
    obtain ⟨b, e, F', rfl, e2, r, hF, aF⟩ : ∃ b e F', lb = .ref b ∧ SeAt CS H1 b F' e ∧ On e c ∧ F = a :: F' ∧ a ∉ F' := by
      rcases h2 with ⟨y, _⟩ | ⟨b, e, F', y1, y2, r | ⟨y, _⟩ | ⟨y, _⟩, y4, y5⟩
      · rw [z] at y; cases y
      · exact ⟨b, e, F', y1, y2, r, y4, y5⟩
      · rw [z] at y; cases y
      · rw [z] at y; cases y
    obtain ⟨dx2, d, hF', g1, g2⟩ := e2.ex
    refine cut (ps_set (i := 2) scCHeard.nd rfl (Or.inl rfl) (pcall G4 r1 (pa_cons (pv 1) pa_nil))) (fun σ' H' => σ' = [some (.ref a), some (.ref p), some (iv (l.getD 1 0))] ∧ H1 = H') ⟨_, rfl, p, l, rfl, hl1, h20, rfl, rfl⟩ ?_
    rintro _ _ ⟨rfl, rfl⟩
    -- it waits for it
    refine cut (ps_if (pt_not (pt_val (pmeth (pe_fld (pv 0) rfl) T2.cl M2 r1 (pa_cons (pcall G2 r2 (pa_cons (pv 1) pa_nil)) (pa_cons (pcall G3 r2 (pa_cons (pv 1) pa_nil)) (pa_cons (pv 2) pa_nil)))))) (pss_one (ps_ret (pe_lst (pa_cons pe_int pa_nil)))) pss_nil)
      (fun σ' H' => σ' = [some (.ref a), some (.ref p), some (iv (l.getD 1 0))] ∧ H1 = H' ∧ (x.search = c.search ∧ x.round = c.round) ∧ x.station < c.stations ∧ c.got.getD x.station none = none)
      ⟨_, rfl, a, C, dx, _, _, rfl, h1, T.cl, T.n3, rfl, b, dx2, _, rfl, g1, rfl, _, rfl, p, l, rfl, hl1, h20, _, rfl, p, l, rfl, hl1, h20, _, rfl, b, F', e, Km352.num l 4 4, Km352.num l 8 4, l.getD 1 0, rfl, e2, _, rfl, ?_⟩ ?_
    · have ew : waits e (Km352.num l 4 4) (Km352.num l 8 4) (l.getD 1 0) = decide ((x.search = c.search ∧ x.round = c.round) ∧ x.station < c.stations ∧ c.got.getD x.station none = none) := by
        unfold waits
        rw [xs, xr, xt, r.number, r.round, r.stations, r.look]
      rw [ew]
      by_cases y : (x.search = c.search ∧ x.round = c.round) ∧ x.station < c.stations ∧ c.got.getD x.station none = none
      · rw [decide_eq_true y]
        exact iteF ⟨rfl, rfl, y⟩
      · rw [decide_eq_false y]
        exact iteT (nay (Mc.On.deaf y))
    rintro _ _ ⟨rfl, rfl, y⟩
    obtain ⟨k1, k2, k3, k4⟩ := r.keep y.1.1 y.1.2 y.2.1 y.2.2
    rw [k1] at q
    have hlook : e.told.lookup (l.getD 1 0) = none := by rw [← r.look, ← xt]; exact y.2.2
    rw [xt, xm] at k2
    refine cut (ps_expr (pmeth (pe_fld (pv 0) rfl) T2.cl M3 hr (pa_cons (pv 2) (pa_cons (pcall G5 r2 (pa_cons (pv 1) pa_nil)) pa_nil)))) (fun _ H2 => ∃ F2, SeAt CS H2 b F2 (e.keep (l.getD 1 0) (Km352.num l 12 4)) ∧ Ch H1 H2 F' F2)
      ⟨_, rfl, a, C, dx, _, _, rfl, h1, T.cl, T.n3, rfl, b, dx2, _, rfl, g1, rfl, _, rfl, _, rfl, p, l, rfl, hl1, h20, b, F', e, l.getD 1 0, Km352.num l 12 4, rfl, e2, hlook, r.few, fun H2 F2 hS2 ch2 => ⟨F2, hS2, ch2⟩⟩ ?_
    rintro _ H2 ⟨F2, hS2, ch2⟩
    refine cut_ret (pe_lst (pa_cons pe_int pa_nil)) ⟨(by show 1 ≤ sizeLine; decide), fun r hr => ?_⟩
    have sm := same_new (o := .lst [.int 1]) hr
    have aF2 : a ∉ F2 := fun y2 => by
      rcases ch2.fp a y2 with y3 | y3
      · exact aF y3
      · cases Eq.trans (Eq.symm h1) y3
    refine q _ (a :: F2) r ⟨⟨dx, .ref b, ?_, .inr ⟨b, _, F2, rfl, hS2.same fun b o _ => sm b o, k2, rfl, aF2⟩⟩, by rw [k4]; exact hC.n16, by rw [k3]; exact hC.search⟩ ((Ch.same s1 F).trans ((ch2.sub (G := F) (G' := a :: F2) (fun b hb => by rw [hF]; exact List.mem_cons_of_mem _ hb) fun b hb => ?_).trans (Ch.same sm _))) (s1.free (ch2.free hr)) upd_same
    · rw [k3, k4]
      exact sm _ _ (ch2.keep a _ h1 aF)
    · rcases List.mem_cons.mp hb with rfl | hb
      · exact .inl hC.mem
      · exact .inr hb
end
end My
end
section
set_option Elab.async false
set_option linter.all false
set_option maxRecDepth 100000
set_option maxHeartbeats 4000000
namespace My
open PySem PySem.Spec PyProof.Rows L2
open Km352 (Centre Station)
open Km352Neutral (S)
abbrev cLn : Stmt := top 48
abbrev sLInit : Stmt := inClass cLn 0
abbrev sLKs : Stmt := inClass cLn 1
abbrev sLKc : Stmt := inClass cLn 2
/-- the classes: Line, Station, Centre, Search, CallReader -/
structure Four where
  L : Addr
  S : Addr
  C : Addr
  E : Addr
  R : Addr
theorem StAt.live {C : Addr} {H : Hp} {a : Addr} {F : List Addr} {t : Station} (h : StAt C H a F t) : ∀ b ∈ F, ∃ o, H b = some o := by
  obtain ⟨dx, c, l, rfl, _, h2, h3, h4⟩ := h.ex
  intro b hb
  simp only [List.mem_cons, List.not_mem_nil, or_false] at hb
  rcases hb with rfl | rfl | rfl
  · exact ⟨_, h2⟩
  · exact ⟨_, h3⟩
  · exact ⟨_, h4⟩
def StO (C : Addr) (H : Hp) (v : V) (F : List Addr) : Option Station → Prop
  | none => v = .non ∧ F = []
  | some t => ∃ a, v = .ref a ∧ StAt C H a F t
def CeO (C CS : Addr) (H : Hp) (v : V) (F : List Addr) : Option Centre → Prop
  | none => v = .non ∧ F = []
  | some t => ∃ a, v = .ref a ∧ CeAt C CS H a F t
theorem StO.same {C : Addr} {H H' : Hp} {v : V} {F : List Addr} {o : Option Station} (h : StO C H v F o) (k : ∀ b o, b ∈ F → H b = some o → H' b = some o) : StO C H' v F o := by
  cases o with
  | none => exact h
  | some t =>
    obtain ⟨a, h1, h2⟩ := h
    exact ⟨a, h1, h2.same k⟩
theorem CeO.same {C CS : Addr} {H H' : Hp} {v : V} {F : List Addr} {o : Option Centre} (h : CeO C CS H v F o) (k : ∀ b o, b ∈ F → H b = some o → H' b = some o) : CeO C CS H' v F o := by
  cases o with
  | none => exact h
  | some t =>
    obtain ⟨a, h1, h2⟩ := h
    exact ⟨a, h1, h2.same k⟩
theorem StO.live {C : Addr} {H : Hp} {v : V} {F : List Addr} {o : Option Station} (h : StO C H v F o) : ∀ b ∈ F, ∃ o, H b = some o := by
  cases o with
  | none =>
    obtain ⟨_, rfl⟩ := h
    intro b hb
    cases hb
  | some t =>
    obtain ⟨a, h1, h2⟩ := h
    exact h2.live
theorem CeO.live {C CS : Addr} {H : Hp} {v : V} {F : List Addr} {o : Option Centre} (h : CeO C CS H v F o) : ∀ b ∈ F, ∃ o, H b = some o := by
  cases o with
  | none =>
    obtain ⟨_, rfl⟩ := h
    intro b hb
    cases hb
  | some t =>
    obtain ⟨a, h1, h2⟩ := h
    exact h2.live
def lf (ls : Addr) (vc : V) : List (Str × V) := [("stations", .ref ls), ("centre", vc)]
def foot (L ls : Addr) (Fs : Nat → List Addr) : List Addr := L :: ls :: (Fs 0 ++ (Fs 1 ++ (Fs 2 ++ (Fs 3 ++ Fs 4))))
theorem mem_foot {L ls b : Addr} {Fs : Nat → List Addr} : b ∈ foot L ls Fs ↔ b = L ∨ b = ls ∨ ∃ i, i < 5 ∧ b ∈ Fs i := by
  unfold foot
  simp only [List.mem_cons, List.mem_append]
  constructor
  · rintro (h | h | h | h | h | h | h)
    · exact .inl h
    · exact .inr (.inl h)
    · exact .inr (.inr ⟨0, by decide, h⟩)
    · exact .inr (.inr ⟨1, by decide, h⟩)
    · exact .inr (.inr ⟨2, by decide, h⟩)
    · exact .inr (.inr ⟨3, by decide, h⟩)
    · exact .inr (.inr ⟨4, by decide, h⟩)
  · rintro (h | h | ⟨i, hi, h⟩)
    · exact .inl h
    · exact .inr (.inl h)
    · match i, hi, h with
      | 0, _, h => exact .inr (.inr (.inl h))
      | 1, _, h => exact .inr (.inr (.inr (.inl h)))
      | 2, _, h => exact .inr (.inr (.inr (.inr (.inl h))))
      | 3, _, h => exact .inr (.inr (.inr (.inr (.inr (.inl h)))))
      | 4, _, h => exact .inr (.inr (.inr (.inr (.inr (.inr h)))))
/-- a line of objects, by its parts -/
structure Ln (Z : Four) (H : Hp) (L : Addr) (s : S) (ls : Addr) (vs : List V) (vc : V) (Fs : Nat → List Addr) : Prop where
  obj : ∃ dx, H L = some (.ins Z.L dx (lf ls vc))
  lst : H ls = some (.lst vs)
  vlen : vs.length = 4
  slen : s.1.length = 4
  clen : s.2.length = 1
  st : ∀ i, i < 4 → StO Z.S H (vs.getD i .non) (Fs i) (s.1.getD i none)
  ce : CeO Z.C Z.E H vc (Fs 4) (s.2.getD 0 none)
  dis : ∀ i j, i < 5 → j < 5 → i ≠ j → ∀ b, b ∈ Fs i → b ∉ Fs j
  out : ∀ i, i < 5 → L ∉ Fs i ∧ ls ∉ Fs i
def LnAt (Z : Four) (H : Hp) (L : Addr) (FL : List Addr) (s : S) : Prop := ∃ ls vs vc Fs, Ln Z H L s ls vs vc Fs ∧ FL = foot L ls Fs
def updF (Fs : Nat → List Addr) (i : Nat) (F : List Addr) : Nat → List Addr := fun j => if j = i then F else Fs j
theorem updF_at {Fs : Nat → List Addr} {i : Nat} {F : List Addr} : updF Fs i F i = F := if_pos rfl
theorem updF_ne {Fs : Nat → List Addr} {i j : Nat} {F : List Addr} (h : j ≠ i) : updF Fs i F j = Fs j := if_neg h
section
variable {Z : Four} {H H' : Hp} {L ls : Addr} {s : S} {vs vs' : List V} {vc vc' : V} {Fs : Nat → List Addr} {F' : List Addr}
theorem Ln.liveF (h : Ln Z H L s ls vs vc Fs) {i : Nat} (hi : i < 5) : ∀ b ∈ Fs i, ∃ o, H b = some o := by
  by_cases e : i = 4
  · subst e
    exact h.ce.live
  · exact (h.st i (by omega)).live
theorem Ln.live (h : Ln Z H L s ls vs vc Fs) : ∀ b ∈ foot L ls Fs, ∃ o, H b = some o := by
  intro b hb
  rcases mem_foot.mp hb with rfl | rfl | ⟨i, hi, hb⟩
  · obtain ⟨dx, e⟩ := h.obj
    exact ⟨_, e⟩
  · exact ⟨_, h.lst⟩
  · exact h.liveF hi b hb
theorem LnAt.live {FL : List Addr} (h : LnAt Z H L FL s) : ∀ b ∈ FL, ∃ o, H b = some o := by
  obtain ⟨ls, vs, vc, Fs, h, rfl⟩ := h
  exact h.live
theorem Ln.ne (h : Ln Z H L s ls vs vc Fs) : L ≠ ls := by
  obtain ⟨dx, e⟩ := h.obj
  exact ne_of e h.lst (by intro z; cases z)
theorem Ln.same (h : Ln Z H L s ls vs vc Fs) (k : ∀ b o, b ∈ foot L ls Fs → H b = some o → H' b = some o) : Ln Z H' L s ls vs vc Fs := by
  obtain ⟨dx, e⟩ := h.obj
  refine ⟨⟨dx, k _ _ (mem_foot.mpr (.inl rfl)) e⟩, k _ _ (mem_foot.mpr (.inr (.inl rfl))) h.lst, h.vlen, h.slen, h.clen, fun i hi => ?_, ?_, h.dis, h.out⟩
  · exact (h.st i hi).same fun b o hb => k b o (mem_foot.mpr (.inr (.inr ⟨i, by omega, hb⟩)))
  · exact h.ce.same fun b o hb => k b o (mem_foot.mpr (.inr (.inr ⟨4, by decide, hb⟩)))
theorem LnAt.same {FL : List Addr} (h : LnAt Z H L FL s) (k : ∀ b o, b ∈ FL → H b = some o → H' b = some o) : LnAt Z H' L FL s := by
  obtain ⟨ls, vs, vc, Fs, h, rfl⟩ := h
  exact ⟨ls, vs, vc, Fs, h.same k, rfl⟩
/-- parts stay apart where one is made anew -/
theorem Ln.apart (h : Ln Z H L s ls vs vc Fs) {i : Nat} (hi : i < 5) (fresh : ∀ b ∈ F', b ∈ Fs i ∨ H b = none) :
    (∀ a b, a < 5 → b < 5 → a ≠ b → ∀ c, c ∈ updF Fs i F' a → c ∉ updF Fs i F' b) ∧ ∀ a, a < 5 → L ∉ updF Fs i F' a ∧ ls ∉ updF Fs i F' a := by
  have nb : ∀ b, b < 5 → b ≠ i → ∀ c, c ∈ F' → c ∉ Fs b := fun b hb hne c hc hcb => by
    rcases fresh c hc with q | q
    · exact h.dis i b hi hb (fun z => hne z.symm) c q hcb
    · obtain ⟨o, e⟩ := h.liveF hb c hcb
      rw [q] at e
      cases e
  refine ⟨fun a b ha hb hab c hc hcb => ?_, fun a ha => ?_⟩
  · by_cases e1 : a = i
    · subst e1
      rw [updF_at] at hc
      rw [updF_ne (fun z => hab z.symm)] at hcb
      exact nb b hb (fun z => hab z.symm) c hc hcb
    · rw [updF_ne e1] at hc
      by_cases e2 : b = i
      · subst e2
        rw [updF_at] at hcb
        exact nb a ha e1 c hcb hc
      · rw [updF_ne e2] at hcb
        exact h.dis a b ha hb hab c hc hcb
  · by_cases e1 : a = i
    · subst e1
      rw [updF_at]
      obtain ⟨dx, eL⟩ := h.obj
      refine ⟨fun z => ?_, fun z => ?_⟩
      · rcases fresh L z with q | q
        · exact (h.out a ha).1 q
        · rw [eL] at q; cases q
      · rcases fresh ls z with q | q
        · exact (h.out a ha).2 q
        · rw [h.lst] at q; cases q
    · rw [updF_ne e1]
      exact h.out a ha
theorem getD_set_ne {α : Type} {l : List α} {i j : Nat} {x d : α} (h : j ≠ i) : (l.set i x).getD j d = l.getD j d := by
  rw [List.getD_eq_getElem?_getD, List.getD_eq_getElem?_getD, List.getElem?_set_ne (fun z => h z.symm)]
theorem getD_set_at {α : Type} {l : List α} {i : Nat} {x d : α} (h : i < l.length) : (l.set i x).getD i d = x := by
  rw [List.getD_eq_getElem?_getD, List.getElem?_set_self h]
  rfl
/-- a station is put in its place -/
theorem Ln.put_st (h : Ln Z H L s ls vs vc Fs) {i : Nat} (hi : i < 4) {t' : Station} (keep : ∀ b o, b ∈ foot L ls Fs → H b = some o → b ∉ Fs i → b ≠ ls → H' b = some o) (hls : H' ls = some (.lst vs')) (hv : vs'.length = 4)
    (hvj : ∀ j, j ≠ i → vs'.getD j .non = vs.getD j .non) (new : StO Z.S H' (vs'.getD i .non) F' (some t')) (fresh : ∀ b ∈ F', b ∈ Fs i ∨ H b = none) : Ln Z H' L (s.1.set i (some t'), s.2) ls vs' vc (updF Fs i F') := by
  obtain ⟨d1, d2⟩ := h.apart (by omega) fresh
  obtain ⟨dx, eL⟩ := h.obj
  refine ⟨⟨dx, keep L _ (mem_foot.mpr (.inl rfl)) eL (h.out i (by omega)).1 h.ne⟩, hls, hv, ?_, h.clen, fun j hj => ?_, ?_, d1, d2⟩
  · show (s.1.set i (some t')).length = 4
    rw [List.length_set]
    exact h.slen
  · show StO Z.S H' (vs'.getD j .non) (updF Fs i F' j) ((s.1.set i (some t')).getD j none)
    by_cases e : j = i
    · subst e
      rw [updF_at, getD_set_at (by rw [h.slen]; exact hj)]
      exact new
    · rw [updF_ne e, getD_set_ne e, hvj j e]
      refine (h.st j hj).same fun b o hb q => keep b o (mem_foot.mpr (.inr (.inr ⟨j, by omega, hb⟩))) q (h.dis j i (by omega) (by omega) e b hb) fun z => ?_
      rw [z] at hb
      exact (h.out j (by omega)).2 hb
  · show CeO Z.C Z.E H' vc (updF Fs i F' 4) (s.2.getD 0 none)
    rw [updF_ne (show 4 ≠ i by omega)]
    refine h.ce.same fun b o hb q => keep b o (mem_foot.mpr (.inr (.inr ⟨4, by decide, hb⟩))) q (h.dis 4 i (by decide) (by omega) (by omega) b hb) fun z => ?_
    rw [z] at hb
    exact (h.out 4 (by decide)).2 hb
/-- the centre is put in its place -/
theorem Ln.put_ce (h : Ln Z H L s ls vs vc Fs) {c' : Centre} (keep : ∀ b o, b ∈ foot L ls Fs → H b = some o → b ∉ Fs 4 → b ≠ L → H' b = some o) (hL : ∃ dx, H' L = some (.ins Z.L dx (lf ls vc')))
    (new : CeO Z.C Z.E H' vc' F' (some c')) (fresh : ∀ b ∈ F', b ∈ Fs 4 ∨ H b = none) : Ln Z H' L (s.1, s.2.set 0 (some c')) ls vs vc' (updF Fs 4 F') := by
  obtain ⟨d1, d2⟩ := h.apart (by decide) fresh
  refine ⟨hL, keep ls _ (mem_foot.mpr (.inr (.inl rfl))) h.lst (h.out 4 (by decide)).2 h.ne.symm, h.vlen, h.slen, ?_, fun j hj => ?_, ?_, d1, d2⟩
  · show (s.2.set 0 (some c')).length = 1
    rw [List.length_set]
    exact h.clen
  · show StO Z.S H' (vs.getD j .non) (updF Fs 4 F' j) (s.1.getD j none)
    rw [updF_ne (by omega)]
    refine (h.st j hj).same fun b o hb q => keep b o (mem_foot.mpr (.inr (.inr ⟨j, by omega, hb⟩))) q (h.dis j 4 (by omega) (by decide) (by omega) b hb) fun z => ?_
    rw [z] at hb
    exact (h.out j (by omega)).1 hb
  · show CeO Z.C Z.E H' vc' (updF Fs 4 F' 4) ((s.2.set 0 (some c')).getD 0 none)
    rw [updF_at, getD_set_at (by rw [h.clen]; decide)]
    exact new
/-- what changed of one part, of all -/
theorem ch_foot {G : List Addr} {i : Nat} (hi : i < 5) (c : Ch H H' G F') (hG : ∀ b ∈ G, b ∈ foot L ls Fs) : Ch H H' (foot L ls Fs) (foot L ls (updF Fs i F')) := by
  refine c.sub hG fun b hb => ?_
  rcases mem_foot.mp hb with h | h | ⟨j, hj, h⟩
  · exact .inl (mem_foot.mpr (.inl h))
  · exact .inl (mem_foot.mpr (.inr (.inl h)))
  · by_cases e : j = i
    · subst e
      rw [updF_at] at h
      exact .inr h
    · rw [updF_ne e] at h
      exact .inl (mem_foot.mpr (.inr (.inr ⟨j, hj, h⟩)))
end
structure TLn (K : PySem.W.Frag) (C : Addr) : Prop where
  cl : Cls K C
  n1 : NoAttr K C "stations"
  n2 : NoAttr K C "centre"
inductive spLInit (Z : Four) (vs : List V) (H : Hp) (Q : VK) (E : XK) : Prop
  | mk (p dx : Addr) (h0 : vs = [.ref p]) (h1 : H p = some (.ins Z.L dx [])) (h2 : ∀ (H' : Hp) (F : List Addr), LnAt Z H' p F Km352Neutral.start → Ch H H' [p] F → Q .non H') : spLInit Z vs H Q E
def newSt (s : S) (i me : Nat) : S × List Int := if 16 ≤ me then (s, [-22]) else (((s.1).set i (some (Km352.station0 me)), s.2), [0])
def newCe (s : S) (n : Nat) : S × List Int := if n = 0 ∨ 16 < n then (s, [-22]) else ((s.1, (s.2).set 0 (some (Km352.centre0 n))), [0])
inductive spLKs (Z : Four) (vs : List V) (H : Hp) (Q : VK) (E : XK) : Prop
  | mk (L : Addr) (FL : List Addr) (s : S) (i me : Nat) (h0 : vs = [.ref L, iv i, iv me]) (h1 : i < 4) (h2 : LnAt Z H L FL s) (h3 : Res Q H FL (fun H' FL' => LnAt Z H' L FL' (newSt s i me).1) (newSt s i me).2) : spLKs Z vs H Q E
inductive spLKc (Z : Four) (vs : List V) (H : Hp) (Q : VK) (E : XK) : Prop
  | mk (L : Addr) (FL : List Addr) (s : S) (n : Nat) (h0 : vs = [.ref L, iv n]) (h1 : LnAt Z H L FL s) (h2 : Res Q H FL (fun H' FL' => LnAt Z H' L FL' (newCe s n).1) (newCe s n).2) : spLKc Z vs H Q E
section
variable {P : Program} {w : World} {K : PySem.W.Frag} {mg : Str → Option Value} {base : Heap} {Z : Four}
theorem scLInit : FnScope ["self"] ["self"] (defScope sLInit) := ⟨rfl, rfl, rfl, by decide +kernel, rfl, by decide +kernel, by decide +kernel⟩
theorem ok_linit {f : Addr} {fd : FuncData} (F : Fun K "__init__" "Line.__init__" sLInit f fd) (T : TLn K Z.L) : FnOk P w K mg base CX0 1 f fd ["self"] (spLInit Z) := by
  refine F.ok scLInit (fun vs H Q E h => ?_) (fun cdv A outer s H vs Q E hr h => ?_)
  · obtain ⟨p, dx, rfl, _⟩ := h
    rfl
  · obtain ⟨p, dx, rfl, hp, q⟩ := h
    refine ⟨_, pss_cons (ps_fld (pv 0) (pe_lst (pa_cons pe_non (pa_cons pe_non (pa_cons pe_non (pa_cons pe_non pa_nil))))) rfl) (pss_one (ps_fld (pv 0) pe_non rfl)), ?_⟩
    refine ⟨(by show 4 ≤ sizeLine; decide), fun ls hls => ?_⟩
    have pl : p ≠ ls := ne_of_none hp hls
    refine ⟨_, rfl, p, Z.L, dx, [], rfl, Eq.trans (upd_ne pl) hp, T.cl, T.n1, (by show 0 < 1000; decide), ?_⟩
    refine ⟨_, rfl, p, Z.L, dx, _, rfl, upd_same, T.cl, T.n2, (by show 1 < 1000; decide), ?_⟩
    refine q _ (foot p ls fun _ => []) ⟨ls, [.non, .non, .non, .non], .non, fun _ => [], ⟨⟨dx, upd_same⟩, ?_, rfl, rfl, rfl, fun i hi => ?_, ⟨rfl, rfl⟩, fun _ _ _ _ _ b hb => (by cases hb), fun _ _ => ⟨by simp, by simp⟩⟩, rfl⟩ ?_
    · rw [upd_ne pl.symm, upd_ne pl.symm, upd_same]
    · match i, hi with
      | 0, _ => exact ⟨rfl, rfl⟩
      | 1, _ => exact ⟨rfl, rfl⟩
      | 2, _ => exact ⟨rfl, rfl⟩
      | 3, _ => exact ⟨rfl, rfl⟩
    · refine Ch.more (((Ch.same (same_new hls) [p]).trans upd_ch).trans upd_ch) fun b hb => ?_
      rcases mem_foot.mp hb with rfl | rfl | ⟨_, _, hb⟩
      · exact .inl (by simp)
      · exact .inr hls
      · cases hb
theorem scLKs : FnScope ["self", "place", "me"] ["self", "place", "me"] (defScope sLKs) := ⟨rfl, rfl, rfl, by decide +kernel, rfl, by decide +kernel, by decide +kernel⟩
theorem ok_lks {f : Addr} {fd : FuncData} (F : Fun K "ks_start" "Line.ks_start" sLKs f fd) (T : TLn K Z.L) (M : Mr P w K mg base 1 Z.S "Station" ["self", "me"] (spSInit Z.S)) (c1 : Cn mg "HIGHEST_STATION" 15) (c2 : Cn mg "OUT_OF_BOUNDS" (-22)) : FnOk P w K mg base CX0 3 f fd ["self", "place", "me"] (spLKs Z) := by
  refine F.ok scLKs (fun vs H Q E h => ?_) (fun cdv A outer s H vs Q E hr h => ?_)
  · obtain ⟨L, FL, s, i, me, rfl, _⟩ := h
    rfl
  · obtain ⟨L, FL, s, i, me, rfl, hi, hLn, q⟩ := h
    refine ⟨_, pss_cons (ps_if (pt_cmpR op_gt (pv 2) (pcn c1) (nomark _)) (pss_one (ps_ret (pe_lst (pa_cons (pcn c2) pa_nil)))) pss_nil)
      (pss_cons (ps_asg (pmake M hr (pa_cons (pv 2) pa_nil)) (pg_sub (pe_fld (pv 0) rfl) (pv 1) set_list))
      (pss_one (ps_ret (pe_lst (pa_cons pe_int pa_nil))))), ?_⟩
    unfold newSt at q
    refine ⟨_, rfl, _, _, rfl, rfl, _, rfl, ite2 (fun z => ?_) (fun z => ?_)⟩
    · have z1 : (15 : Int) < (me : Int) := of_decide_eq_true z
      rw [if_pos (show 16 ≤ me by omega)] at q
      refine ⟨(by show 1 ≤ sizeLine; decide), fun p hp => ?_⟩
      have sm := same_new (o := .lst [.int (-22)]) hp
      exact q _ _ p (hLn.same fun b o _ => sm b o) (Ch.same sm _) hp upd_same
    · have z1 : ¬ (15 : Int) < (me : Int) := fun y => z (decide_eq_true y)
      rw [if_neg (show ¬ 16 ≤ me by omega)] at q
      obtain ⟨ls, ws, vc, Fs, h, rfl⟩ := hLn
      obtain ⟨dx, eL⟩ := h.obj
      refine ⟨_, rfl, fun x dx2 nx ndx nex => ?_⟩
      refine ⟨x, dx2, me, rfl, by omega, upd_same, fun H2 F2 hS2 ch2 => ⟨rfl, ?_⟩⟩
      obtain ⟨s2, fr2⟩ := made_same nx ndx ch2
      refine ⟨_, rfl, L, Z.L, dx, _, _, rfl, s2 _ _ eL, T.cl, T.n1, rfl, _, rfl, ls, _, _, i, rfl, rfl, s2 _ _ h.lst, ?_, (by show 1 ≤ sizeLine; decide), fun p hp => ?_⟩
      · unfold ixN
        rw [h.vlen, if_pos (by omega), if_pos (by omega), Int.toNat_natCast]
      have sm := same_new (o := .lst [.int 0]) hp
      have lsF : ls ∉ F2 := fun y => by
        have := fr2 ls y
        rw [h.lst] at this
        cases this
      have pn : H p = none := by
        rw [upd_ne (fun z => by rw [z, upd_same] at hp; cases hp)] at hp
        exact s2.free hp
      refine q _ _ p ⟨ls, ws.set i (.ref x), vc, updF Fs i F2, ?_, rfl⟩ ?_ pn upd_same
      · refine h.put_st hi (fun b o _ e _ hb => ?_) ?_ ?_ (fun j hj => getD_set_ne hj) ?_ fun b hb => .inr (fr2 b hb)
        · exact sm _ _ (Eq.trans (upd_ne hb) (s2 _ _ e))
        · exact sm _ _ upd_same
        · rw [List.length_set]
          exact h.vlen
        · rw [getD_set_at (by rw [h.vlen]; exact hi)]
          refine ⟨x, rfl, (hS2.same fun b o hb e => ?_).same fun b o _ => sm b o⟩
          rw [upd_ne fun y => lsF (by rw [← y]; exact hb)]
          exact e
      · have cc : Ch H (upd (upd H2 ls (.lst (ws.set i (.ref x)))) p (.lst [.int 0])) [ls] F2 :=
          (((Ch.same s2 [ls]).trans upd_ch).trans (Ch.same sm _)).more fun b hb => .inr (fr2 b hb)
        exact ch_foot (by omega) cc fun b hb => by
          rw [List.mem_singleton.mp hb]
          exact mem_foot.mpr (.inr (.inl rfl))
theorem scLKc : FnScope ["self", "stations"] ["self", "stations"] (defScope sLKc) := ⟨rfl, rfl, rfl, by decide +kernel, rfl, by decide +kernel, by decide +kernel⟩
theorem ok_lkc {f : Addr} {fd : FuncData} (F : Fun K "kc_start" "Line.kc_start" sLKc f fd) (T : TLn K Z.L) (M : Mr P w K mg base 1 Z.C "Centre" ["self", "stations"] (spCInit Z.C Z.E)) (c1 : Cn mg "MOST_STATIONS" 16) (c2 : Cn mg "OUT_OF_BOUNDS" (-22)) : FnOk P w K mg base CX0 3 f fd ["self", "stations"] (spLKc Z) := by
  refine F.ok scLKc (fun vs H Q E h => ?_) (fun cdv A outer s H vs Q E hr h => ?_)
  · obtain ⟨L, FL, s, n, rfl, _⟩ := h
    rfl
  · obtain ⟨L, FL, s, n, rfl, hLn, q⟩ := h
    refine ⟨_, pss_cons (ps_if (pw_or (pt_cmpR op_lt (pv 1) pe_int (nomark _)) (pw_or1 (pt_cmpR op_gt (pv 1) (pcn c1) (nomark _)))).pt (pss_one (ps_ret (pe_lst (pa_cons (pcn c2) pa_nil)))) pss_nil)
      (pss_cons (ps_fld (pv 0) (pmake M hr (pa_cons (pv 1) pa_nil)) rfl)
      (pss_one (ps_ret (pe_lst (pa_cons pe_int pa_nil))))), ?_⟩
    unfold newCe at q
    have no : (n = 0 ∨ 16 < n) → NewAt (.lst [.int (-22)]) 1 H Q := fun y => by
      rw [if_pos y] at q
      refine ⟨by decide, fun p hp => ?_⟩
      have sm := same_new (o := .lst [.int (-22)]) hp
      exact q _ _ p (hLn.same fun b o _ => sm b o) (Ch.same sm _) hp upd_same
    refine ⟨_, rfl, _, _, rfl, rfl, _, rfl, ite2 (fun z => ?_) (fun z => ?_)⟩
    · have z1 : (n : Int) < 1 := of_decide_eq_true z
      exact iteT (no (.inl (by omega)))
    · have z1 : ¬ (n : Int) < 1 := fun y => z (decide_eq_true y)
      refine ⟨_, rfl, _, _, rfl, rfl, _, rfl, ite2 (fun z2 => ?_) (fun z2 => ?_)⟩
      · have z3 : (16 : Int) < (n : Int) := of_decide_eq_true z2
        exact no (.inr (by omega))
      · have z3 : ¬ (16 : Int) < (n : Int) := fun y => z2 (decide_eq_true y)
        rw [if_neg (by omega)] at q
        obtain ⟨ls, ws, vc, Fs, h, rfl⟩ := hLn
        obtain ⟨dx, eL⟩ := h.obj
        refine ⟨_, rfl, fun x dx2 nx ndx nex => ?_⟩
        refine ⟨x, dx2, n, rfl, by omega, upd_same, fun H2 F2 hS2 ch2 => ⟨rfl, ?_⟩⟩
        obtain ⟨s2, fr2⟩ := made_same nx ndx ch2
        refine ⟨_, rfl, L, Z.L, dx, _, rfl, s2 _ _ eL, T.cl, T.n2, (by show 2 < 1000; decide), (by show 1 ≤ sizeLine; decide), fun p hp => ?_⟩
        have sm := same_new (o := .lst [.int 0]) hp
        have LF : L ∉ F2 := fun y => by
          have := fr2 L y
          rw [eL] at this
          cases this
        have pn : H p = none := by
          rw [upd_ne (fun z => by rw [z, upd_same] at hp; cases hp)] at hp
          exact s2.free hp
        refine q _ _ p ⟨ls, ws, .ref x, updF Fs 4 F2, ?_, rfl⟩ ?_ pn upd_same
        · refine h.put_ce (fun b o _ e _ hb => ?_) ⟨dx, sm _ _ upd_same⟩ ?_ fun b hb => .inr (fr2 b hb)
          · exact sm _ _ (Eq.trans (upd_ne hb) (s2 _ _ e))
          · refine ⟨x, rfl, (hS2.same fun b o hb e => ?_).same fun b o _ => sm b o⟩
            rw [upd_ne fun y => LF (by rw [← y]; exact hb)]
            exact e
        · have cc : Ch H (upd (upd H2 L (.ins Z.L dx (lf ls (.ref x)))) p (.lst [.int 0])) [L] F2 :=
            (((Ch.same s2 [L]).trans upd_ch).trans (Ch.same sm _)).more fun b hb => .inr (fr2 b hb)
          exact ch_foot (by decide) cc fun b hb => by
            rw [List.mem_singleton.mp hb]
            exact mem_foot.mpr (.inl rfl)
end
end My
end
section
set_option Elab.async false
set_option linter.all false
set_option maxRecDepth 100000
set_option maxHeartbeats 4000000
namespace My
open PySem PySem.Spec PyProof.Rows L2
open Km352 (Centre Station)
open Km352Neutral (S)
abbrev sAoS : Stmt := top 60
abbrev sAoC : Stmt := top 61
abbrev sNext : Stmt := top 62
theorem eqT {x y : Int} (h : x = y) : decide (V.int x = V.int y) = true := decide_eq_true (by rw [h])
theorem eqF {x y : Int} (h : x ≠ y) : decide (V.int x = V.int y) = false := decide_eq_false fun z => h (V.int.inj z)
theorem int_arg {a : Addr} {x : Int} (h : 0 ≤ x) : V.ref a :: ([V.int x] ++ []) = [V.ref a, iv x.toNat] := by
  show [V.ref a, V.int x] = [V.ref a, V.int ((x.toNat : Nat) : Int)]
  rw [Int.toNat_of_nonneg h]
/-- a row of bytes, as ints and as nats -/
theorem zv_nats : ∀ {r : List Int}, (∀ z ∈ r, 0 ≤ z ∧ z < 256) → zv r = nv (Km352Neutral.nats r)
  | [], _ => rfl
  | a :: r, h => by
    have ih := zv_nats (r := r) fun z hz => h z (List.mem_cons_of_mem _ hz)
    have ha := (h a (List.mem_cons_self ..)).1
    show V.int a :: zv r = iv a.toNat :: nv (Km352Neutral.nats r)
    rw [ih]
    show V.int a :: _ = V.int ((a.toNat : Nat) : Int) :: _
    rw [Int.toNat_of_nonneg ha]
theorem nats_lt {r : List Int} (h : ∀ z ∈ r, 0 ≤ z ∧ z < 256) : ∀ b ∈ Km352Neutral.nats r, b < 256 := by
  intro b hb
  obtain ⟨z, hz, rfl⟩ := List.mem_map.mp hb
  have := h z hz
  omega
theorem nats_len (r : List Int) : (Km352Neutral.nats r).length = r.length := List.length_map ..
theorem Ch.alsoR {H H1 : Hp} {R : Addr} (c : Ch H H1 [R] [R]) (F : List Addr) : Ch H H1 (R :: F) (R :: F) := c.sub (fun b hb => by rw [List.mem_singleton.mp hb]; exact List.mem_cons_self ..) fun b hb => .inl hb
theorem Ch.underR {H H1 : Hp} {F F' : List Addr} (c : Ch H H1 F F') (R : Addr) : Ch H H1 (R :: F) (R :: F') := c.sub (fun b hb => List.mem_cons_of_mem _ hb) fun b hb => by
  rcases List.mem_cons.mp hb with rfl | hb
  · exact .inl (List.mem_cons_self ..)
  · exact .inr hb
theorem RdAt.keep {C : Addr} {H H' : Hp} {R a : Addr} {i : Nat} {F F' : List Addr} (h : RdAt C H R a i) (c : Ch H H' F F') (n : R ∉ F) : RdAt C H' R a i := by
  obtain ⟨dx, e⟩ := h
  exact ⟨dx, c.keep _ _ e n⟩
theorem RdAt.off {C : Addr} {H H' : Hp} {R a : Addr} {i : Nat} {F F' : List Addr} (h : RdAt C H R a i) (c : Ch H H' F F') (n : R ∉ F) : R ∉ F' := fun z => by
  obtain ⟨dx, e⟩ := h
  rcases c.fp R z with y | y
  · exact n y
  · rw [e] at y
    cases y
theorem off_R {H H1 : Hp} {R : Addr} {F : List Addr} (c : Ch H H1 [R] [R]) (n : R ∉ F) : ∀ b o, b ∈ F → H b = some o → H1 b = some o := fun b o hb e => c.keep b o e fun z => n (by rw [← List.mem_singleton.mp z]; exact hb)
theorem LnAt.ins {Z : Four} {H : Hp} {L : Addr} {FL : List Addr} {s : S} (h : LnAt Z H L FL s) : ∃ dx ls vc, H L = some (.ins Z.L dx (lf ls vc)) := by
  obtain ⟨ls, vs, vc, Fs, h, _⟩ := h
  obtain ⟨dx, e⟩ := h.obj
  exact ⟨dx, ls, vc, e⟩
section
variable {l : List Int} {i j : Nat} {op : Int} {c : Km352.Call}
theorem st_ne0 (h : Mw.StOp l i op c j) : op ≠ 0 := by cases h <;> decide
theorem st_ne4 (h : Mw.StOp l i op c j) : op ≠ 4 := by cases h <;> decide
theorem st_mem (h : Mw.StOp l i op c j) : inV (.int op) [.int 1, .int 2, .int 3] = true := by cases h <;> decide
theorem ct_ne0 (h : Mw.CtOp l i op c j) : op ≠ 0 := by cases h <;> decide
theorem ct_ne4 (h : Mw.CtOp l i op c j) : op ≠ 4 := by cases h <;> decide
theorem ct_not (h : Mw.CtOp l i op c j) : ¬ inV (.int op) [.int 1, .int 2, .int 3] = true := by cases h <;> decide
theorem ct_mem (h : Mw.CtOp l i op c j) : inV (.int op) [.int 5, .int 6, .int 7, .int 8] = true := by cases h <;> decide
end
section
variable {Z : Four} {H H' : Hp} {L ls R a : Addr} {s : S} {ws : List V} {vc : V} {Fs : Nat → List Addr} {F' : List Addr} {k : Nat}
theorem Ln.at_st (h : Ln Z H L s ls ws vc Fs) (hk : k < 4) {t : Station} (ht : s.1.getD k none = some t) : ∃ a, ws[k]? = some (V.ref a) ∧ StAt Z.S H a (Fs k) t := by
  have hst := h.st k hk
  rw [ht] at hst
  obtain ⟨a, ea, hS⟩ := hst
  refine ⟨a, ?_, hS⟩
  rw [List.getD_eq_getElem?_getD, List.getElem?_eq_getElem (by rw [h.vlen]; exact hk)] at ea
  rw [List.getElem?_eq_getElem (by rw [h.vlen]; exact hk)]
  exact congrArg some ea
/-- a part and the reader have changed: what of it all -/
theorem turn_ch {i : Nat} (hi : i < 5) (hRF : R ∉ foot L ls Fs) (hRF4 : R ∉ F') (ch : Ch H H' (R :: Fs i) (R :: F')) :
    (∀ b o, b ∈ foot L ls Fs → H b = some o → b ∉ Fs i → H' b = some o) ∧ (∀ b ∈ F', b ∈ Fs i ∨ H b = none) ∧ Ch H H' (R :: foot L ls Fs) (R :: foot L ls (updF Fs i F')) ∧ R ∉ foot L ls (updF Fs i F') := by
  refine ⟨fun b o hb e hn => ch.keep b o e fun z => ?_, fun b hb => ?_, ch.sub (fun b hb => ?_) fun b hb => ?_, fun z => ?_⟩
  · rcases List.mem_cons.mp z with z | z
    · exact hRF (by rw [← z]; exact hb)
    · exact hn z
  · rcases ch.fp b (List.mem_cons_of_mem _ hb) with z | z
    · rcases List.mem_cons.mp z with z | z
      · exact absurd (by rw [← z]; exact hb) hRF4
      · exact .inl z
    · exact .inr z
  · rcases List.mem_cons.mp hb with z | z
    · rw [z]; exact List.mem_cons_self ..
    · exact List.mem_cons_of_mem _ (mem_foot.mpr (.inr (.inr ⟨i, hi, z⟩)))
  · rcases List.mem_cons.mp hb with z | z
    · rw [z]; exact .inl (List.mem_cons_self ..)
    · rcases mem_foot.mp z with z | z | ⟨m, hm, z⟩
      · exact .inl (List.mem_cons_of_mem _ (mem_foot.mpr (.inl z)))
      · exact .inl (List.mem_cons_of_mem _ (mem_foot.mpr (.inr (.inl z))))
      · by_cases em : m = i
        · subst em
          rw [updF_at] at z
          exact .inr (List.mem_cons_of_mem _ z)
        · rw [updF_ne em] at z
          exact .inl (List.mem_cons_of_mem _ (mem_foot.mpr (.inr (.inr ⟨m, hm, z⟩))))
  · rcases mem_foot.mp z with z | z | ⟨m, hm, z⟩
    · exact hRF (mem_foot.mpr (.inl z))
    · exact hRF (mem_foot.mpr (.inr (.inl z)))
    · by_cases em : m = i
      · subst em
        rw [updF_at] at z
        exact hRF4 z
      · rw [updF_ne em] at z
        exact hRF (mem_foot.mpr (.inr (.inr ⟨m, hm, z⟩)))
theorem Ln.turn_st (h : Ln Z H L s ls ws vc Fs) (hk : k < 4) (hRF : R ∉ foot L ls Fs) (hRF4 : R ∉ F') (ch : Ch H H' (R :: Fs k) (R :: F')) (ev : ws[k]? = some (V.ref a)) {t : Station} (hS : StAt Z.S H' a F' t) :
    R ∉ foot L ls (updF Fs k F') ∧ LnAt Z H' L (foot L ls (updF Fs k F')) (s.1.set k (some t), s.2) ∧ Ch H H' (R :: foot L ls Fs) (R :: foot L ls (updF Fs k F')) := by
  obtain ⟨y1, y2, y3, y4⟩ := turn_ch (by omega) hRF hRF4 ch
  refine ⟨y4, ⟨ls, ws, vc, updF Fs k F', h.put_st hk (fun b o hb e hb1 _ => y1 b o hb e hb1) (y1 ls _ (mem_foot.mpr (.inr (.inl rfl))) h.lst (h.out k (by omega)).2) h.vlen (fun _ _ => rfl) ?_ y2, rfl⟩, y3⟩
  rw [List.getD_eq_getElem?_getD, ev]
  exact ⟨a, rfl, hS⟩
theorem Ln.turn_ce (h : Ln Z H L s ls ws (.ref a) Fs) (hRF : R ∉ foot L ls Fs) (hRF4 : R ∉ F') (ch : Ch H H' (R :: Fs 4) (R :: F')) {t : Centre} (hS : CeAt Z.C Z.E H' a F' t) :
    R ∉ foot L ls (updF Fs 4 F') ∧ LnAt Z H' L (foot L ls (updF Fs 4 F')) (s.1, s.2.set 0 (some t)) ∧ Ch H H' (R :: foot L ls Fs) (R :: foot L ls (updF Fs 4 F')) := by
  obtain ⟨y1, y2, y3, y4⟩ := turn_ch (by decide) hRF hRF4 ch
  obtain ⟨dx, eL⟩ := h.obj
  exact ⟨y4, ⟨ls, ws, .ref a, updF Fs 4 F', h.put_ce (fun b o hb e hb1 _ => y1 b o hb e hb1) ⟨dx, y1 L _ (mem_foot.mpr (.inl rfl)) eL (h.out 4 (by decide)).1⟩ ⟨a, rfl, hS⟩ y2, rfl⟩, y3⟩
end
inductive spAoS (Z : Four) (K : PySem.W.Frag) (vs : List V) (H : Hp) (Q : VK) (E : XK) : Prop
  | mk (op : Int) (a R ad : Addr) (i j : Nat) (l : List Int) (F : List Addr) (t : Station) (c : Km352.Call) (h0 : vs = [.int op, .ref a, .ref R]) (h1 : StAt Z.S H a F t) (h2 : RdAt Z.R H R ad i) (h3 : SqL K H ad (zv l)) (h4 : R ∉ F) (h5 : Mw.StOp l i op c j) (h6 : ∀ (H' : Hp) (F' : List Addr) (p : Addr), R ∉ F' → StAt Z.S H' a F' (Km352.sDoes t c).1 → RdAt Z.R H' R ad j → Ch H H' (R :: F) (R :: F') → H p = none → H' p = some (.lst (zv (Km352Neutral.told (Km352.sDoes t c).2))) → Q (.ref p) H') : spAoS Z K vs H Q E
inductive spAoC (Z : Four) (K : PySem.W.Frag) (vs : List V) (H : Hp) (Q : VK) (E : XK) : Prop
  | mk (op : Int) (a R ad : Addr) (i j : Nat) (l : List Int) (F : List Addr) (t : Centre) (c : Km352.Call) (h0 : vs = [.int op, .ref a, .ref R]) (h1 : CeAt Z.C Z.E H a F t) (h2 : RdAt Z.R H R ad i) (h3 : SqL K H ad (zv l)) (h4 : R ∉ F) (h5 : Mw.CtOp l i op c j) (h6 : ∀ (H' : Hp) (F' : List Addr) (p : Addr), R ∉ F' → CeAt Z.C Z.E H' a F' (Km352.cDoes t c).1 → RdAt Z.R H' R ad j → Ch H H' (R :: F) (R :: F') → H p = none → H' p = some (.lst (zv (Km352Neutral.told (Km352.cDoes t c).2))) → Q (.ref p) H') : spAoC Z K vs H Q E
inductive spNext (Z : Four) (K : PySem.W.Frag) (vs : List V) (H : Hp) (Q : VK) (E : XK) : Prop
  | mk (R L ad : Addr) (i j : Nat) (l : List Int) (FL : List Addr) (s : S) (cc : List (List Int)) (h0 : vs = [.ref R, .ref L]) (h1 : RdAt Z.R H R ad i) (h2 : SqL K H ad (zv l)) (h3 : LnAt Z H L FL s) (h4 : R ∉ FL) (h5 : Mw.At l i cc j) (h6 : Km352Neutral.asked1 cc = true) (h7 : (Km352Neutral.step s cc).2 ≠ []) (h8 : ∀ (H' : Hp) (FL' : List Addr) (p : Addr), R ∉ FL' → RdAt Z.R H' R ad j → LnAt Z H' L FL' (Km352Neutral.step s cc).1 → Ch H H' (R :: FL) (R :: FL') → H p = none → H' p = some (.lst (zv (Km352Neutral.step s cc).2)) → Q (.ref p) H') : spNext Z K vs H Q E
section
variable {P : Program} {w : World} {K : PySem.W.Frag} {mg : Str → Option Value} {base : Heap} {Z : Four}
theorem scAoS : FnScope ["call", "station", "reader"] ["call", "station", "reader"] (defScope sAoS) := ⟨rfl, rfl, rfl, by decide +kernel, rfl, by decide +kernel, by decide +kernel⟩
theorem ok_aos {f : Addr} {fd : FuncData} (F : Fun K "answer_of_station" "answer_of_station" sAoS f fd) (T : TSt K Z.S) (TR : TRd K Z.R) (MN : Mt P w K mg base 1 Z.R "take_number" ["self"] (spRNum K Z.R)) (MR : Mt P w K mg base 2 Z.R "take_row" ["self"] (spRRow K Z.R))
    (M1 : Mt P w K mg base 1 Z.S "ks_add" ["self", "x"] (spSAdd Z.S)) (M2 : Mt P w K mg base 5 Z.S "ks_heard" ["self", "question"] (spSHeard K Z.S)) (M3 : Mt P w K mg base 1 Z.S "ks_many" ["self"] (spSMany Z.S)) (c1 : Cn mg "KS_ADD" 1) (c2 : Cn mg "KS_HEARD" 2) :
    FnOk P w K mg base CX0 6 f fd ["call", "station", "reader"] (spAoS Z K) := by
  refine F.ok scAoS (fun vs H Q E h => ?_) (fun cdv A outer s H vs Q E hr h => ?_)
  · obtain ⟨op, a, R, ad, i, j, l, F, t, c, rfl, _⟩ := h
    rfl
  · obtain ⟨op, a, R, ad, i, j, l, F, t, c, rfl, hS, hRd, hl, hRF, hop, q⟩ := h
    have r1 : Room 1 _ := hr.mono (by decide)
    have r2 : Room 2 _ := hr.mono (by decide)
    obtain ⟨dx, co, la, hF, h1, h2, h3, h4⟩ := hS.ex
    obtain ⟨dxR, hR⟩ := id hRd
    cases hop with
    | @add x hx hx0 =>
      refine cut_yes (pt_cmpR op_eq (pv 0) (pcn c1) (nomark _)) (pss_one (ps_ret (pmeth (pv 1) T.cl M1 r1 (pa_cons (pmeth0 (pv 2) TR.cl MN r1) pa_nil))))
        ⟨_, rfl, rfl, _, rfl, iteDT rfl ⟨_, rfl, a, dx, _, rfl, h2, rfl, _, rfl, R, dxR, _, rfl, hR, rfl, R, ad, i, l, x, rfl, hRd, hl, hx, fun H1 hR1 ch1 => ?_⟩⟩
      exact ⟨a, F, t, x.toNat, int_arg hx0, hS.same (off_R ch1 hRF), fun H2 F2 p hS2 ch2 hp hH2 =>
        q H2 F2 p (hR1.off ch2 hRF) hS2 (hR1.keep ch2 hRF) ((ch1.alsoR F).trans (ch2.underR R)) (ch1.free hp) hH2⟩
    | @heard m hm h20 hb =>
      refine cut_no (pt_cmpR op_eq (pv 0) (pcn c1) (nomark _)) (fun H' => H = H') ⟨_, rfl, rfl, _, rfl, iteDF (int_ne (by decide)) rfl⟩ ?_
      rintro _ rfl
      refine cut_yes (pt_cmpR op_eq (pv 0) (pcn c2) (nomark _)) (pss_one (ps_ret (pmeth (pv 1) T.cl M2 hr (pa_cons (pmeth0 (pv 2) TR.cl MR r2) pa_nil))))
        ⟨_, rfl, rfl, _, rfl, iteDT rfl ⟨_, rfl, a, dx, _, rfl, h2, rfl, _, rfl, R, dxR, _, rfl, hR, rfl, R, ad, i, m, l, rfl, hRd, hl, hm, fun H1 p1 hR1 ch1 hp1 hH1 => ?_⟩⟩
      have pF : p1 ∉ F := fun y => by
        obtain ⟨o, e⟩ := hS.live p1 y
        rw [hp1] at e
        cases e
      rw [zv_nats hb] at hH1
      exact ⟨a, p1, F, t, _, rfl, hS.same (off_R ch1 hRF), SqL.of hH1, pF, by rw [nats_len]; exact h20, nats_lt hb, fun H2 F2 p hS2 ch2 hp hH2 =>
        q H2 F2 p (hR1.off ch2 hRF) hS2 (hR1.keep ch2 hRF) ((ch1.alsoR F).trans (ch2.underR R)) (ch1.free hp) hH2⟩
    | many =>
      refine cut_no (pt_cmpR op_eq (pv 0) (pcn c1) (nomark _)) (fun H' => H = H') ⟨_, rfl, rfl, _, rfl, iteDF (int_ne (by decide)) rfl⟩ ?_
      rintro _ rfl
      refine cut_no (pt_cmpR op_eq (pv 0) (pcn c2) (nomark _)) (fun H' => H = H') ⟨_, rfl, rfl, _, rfl, iteDF (int_ne (by decide)) rfl⟩ ?_
      rintro _ rfl
      exact cut_ret (pmeth0 (pv 1) T.cl M3 r1) ⟨_, rfl, a, dx, _, rfl, h2, rfl, a, F, t, rfl, hS, fun H2 F2 p hS2 ch2 hp hH2 =>
        q H2 F2 p (hRd.off ch2 hRF) hS2 (hRd.keep ch2 hRF) (ch2.underR R) hp hH2⟩
theorem scAoC : FnScope ["call", "centre", "reader"] ["call", "centre", "reader"] (defScope sAoC) := ⟨rfl, rfl, rfl, by decide +kernel, rfl, by decide +kernel, by decide +kernel⟩
theorem ok_aoc {f : Addr} {fd : FuncData} (F : Fun K "answer_of_centre" "answer_of_centre" sAoC f fd) (T : TCe K Z.C) (TR : TRd K Z.R) (MN : Mt P w K mg base 1 Z.R "take_number" ["self"] (spRNum K Z.R)) (MR : Mt P w K mg base 2 Z.R "take_row" ["self"] (spRRow K Z.R))
    (M1 : Mt P w K mg base 3 Z.C "kc_ask" ["self", "k"] (spCAsk Z.C Z.E)) (M2 : Mt P w K mg base 5 Z.C "kc_say" ["self"] (spCSay Z.C Z.E)) (M3 : Mt P w K mg base 5 Z.C "kc_heard" ["self", "answer"] (spCHeard K Z.C Z.E)) (M4 : Mt P w K mg base 2 Z.C "kc_found" ["self"] (spCFound Z.C Z.E))
    (c1 : Cn mg "KC_ASK" 5) (c2 : Cn mg "KC_SAY" 6) (c3 : Cn mg "KC_HEARD" 7) : FnOk P w K mg base CX0 6 f fd ["call", "centre", "reader"] (spAoC Z K) := by
  refine F.ok scAoC (fun vs H Q E h => ?_) (fun cdv A outer s H vs Q E hr h => ?_)
  · obtain ⟨op, a, R, ad, i, j, l, F, t, c, rfl, _⟩ := h
    rfl
  · obtain ⟨op, a, R, ad, i, j, l, F, t, c, rfl, hS, hRd, hl, hRF, hop, q⟩ := h
    have r1 : Room 1 _ := hr.mono (by decide)
    have r2 : Room 2 _ := hr.mono (by decide)
    have r3 : Room 3 _ := hr.mono (by decide)
    obtain ⟨dx, lb, h2, _⟩ := hS.ex
    obtain ⟨dxR, hR⟩ := id hRd
    cases hop with
    | @ask x hx hx0 =>
      refine cut_yes (pt_cmpR op_eq (pv 0) (pcn c1) (nomark _)) (pss_one (ps_ret (pmeth (pv 1) T.cl M1 r3 (pa_cons (pmeth0 (pv 2) TR.cl MN r1) pa_nil))))
        ⟨_, rfl, rfl, _, rfl, iteDT rfl ⟨_, rfl, a, dx, _, rfl, h2, rfl, _, rfl, R, dxR, _, rfl, hR, rfl, R, ad, i, l, x, rfl, hRd, hl, hx, fun H1 hR1 ch1 => ?_⟩⟩
      exact ⟨a, F, t, x.toNat, int_arg hx0, hS.same (off_R ch1 hRF), fun H2 F2 p hS2 ch2 hp hH2 =>
        q H2 F2 p (hR1.off ch2 hRF) hS2 (hR1.keep ch2 hRF) ((ch1.alsoR F).trans (ch2.underR R)) (ch1.free hp) hH2⟩
    | say =>
      refine cut_no (pt_cmpR op_eq (pv 0) (pcn c1) (nomark _)) (fun H' => H = H') ⟨_, rfl, rfl, _, rfl, iteDF (int_ne (by decide)) rfl⟩ ?_
      rintro _ rfl
      exact cut_yes (pt_cmpR op_eq (pv 0) (pcn c2) (nomark _)) (pss_one (ps_ret (pmeth0 (pv 1) T.cl M2 hr)))
        ⟨_, rfl, rfl, _, rfl, iteDT rfl ⟨_, rfl, a, dx, _, rfl, h2, rfl, a, F, t, rfl, hS, fun H2 F2 p hS2 ch2 hp hH2 =>
          q H2 F2 p (hRd.off ch2 hRF) hS2 (hRd.keep ch2 hRF) (ch2.underR R) hp hH2⟩⟩
    | @heard m hm h20 hb =>
      refine cut_no (pt_cmpR op_eq (pv 0) (pcn c1) (nomark _)) (fun H' => H = H') ⟨_, rfl, rfl, _, rfl, iteDF (int_ne (by decide)) rfl⟩ ?_
      rintro _ rfl
      refine cut_no (pt_cmpR op_eq (pv 0) (pcn c2) (nomark _)) (fun H' => H = H') ⟨_, rfl, rfl, _, rfl, iteDF (int_ne (by decide)) rfl⟩ ?_
      rintro _ rfl
      refine cut_yes (pt_cmpR op_eq (pv 0) (pcn c3) (nomark _)) (pss_one (ps_ret (pmeth (pv 1) T.cl M3 hr (pa_cons (pmeth0 (pv 2) TR.cl MR r2) pa_nil))))
        ⟨_, rfl, rfl, _, rfl, iteDT rfl ⟨_, rfl, a, dx, _, rfl, h2, rfl, _, rfl, R, dxR, _, rfl, hR, rfl, R, ad, i, m, l, rfl, hRd, hl, hm, fun H1 p1 hR1 ch1 hp1 hH1 => ?_⟩⟩
      rw [zv_nats hb] at hH1
      exact ⟨a, p1, F, t, _, rfl, hS.same (off_R ch1 hRF), SqL.of hH1, by rw [nats_len]; exact h20, nats_lt hb, fun H2 F2 p hS2 ch2 hp hH2 =>
        q H2 F2 p (hR1.off ch2 hRF) hS2 (hR1.keep ch2 hRF) ((ch1.alsoR F).trans (ch2.underR R)) (ch1.free hp) hH2⟩
    | found =>
      refine cut_no (pt_cmpR op_eq (pv 0) (pcn c1) (nomark _)) (fun H' => H = H') ⟨_, rfl, rfl, _, rfl, iteDF (int_ne (by decide)) rfl⟩ ?_
      rintro _ rfl
      refine cut_no (pt_cmpR op_eq (pv 0) (pcn c2) (nomark _)) (fun H' => H = H') ⟨_, rfl, rfl, _, rfl, iteDF (int_ne (by decide)) rfl⟩ ?_
      rintro _ rfl
      refine cut_no (pt_cmpR op_eq (pv 0) (pcn c3) (nomark _)) (fun H' => H = H') ⟨_, rfl, rfl, _, rfl, iteDF (int_ne (by decide)) rfl⟩ ?_
      rintro _ rfl
      exact cut_ret (pmeth0 (pv 1) T.cl M4 r2) ⟨_, rfl, a, dx, _, rfl, h2, rfl, a, F, t, rfl, hS, fun H2 F2 p hS2 ch2 hp hH2 =>
        q H2 F2 p (hRd.off ch2 hRF) hS2 (hRd.keep ch2 hRF) (ch2.underR R) hp hH2⟩
theorem scNext : FnScope ["reader", "line", "call", "place"] ["reader", "line"] (defScope sNext) := ⟨rfl, rfl, rfl, by decide +kernel, rfl, by decide +kernel, by decide +kernel⟩
theorem ok_next {f : Addr} {fd : FuncData} (F : Fun K "answer_of_next" "answer_of_next" sNext f fd) (TL : TLn K Z.L) (TR : TRd K Z.R) (MN : Mt P w K mg base 1 Z.R "take_number" ["self"] (spRNum K Z.R))
    (M1 : Mt P w K mg base 3 Z.L "ks_start" ["self", "place", "me"] (spLKs Z)) (M2 : Mt P w K mg base 3 Z.L "kc_start" ["self", "stations"] (spLKc Z))
    (G1 : Fn P w K mg base 6 "answer_of_station" ["call", "station", "reader"] (spAoS Z K)) (G2 : Fn P w K mg base 6 "answer_of_centre" ["call", "centre", "reader"] (spAoC Z K))
    (c0 : Cn mg "KS_START" 0) (c1 : Cn mg "KS_ADD" 1) (c2 : Cn mg "KS_HEARD" 2) (c3 : Cn mg "KS_MANY" 3) (c4 : Cn mg "KC_START" 4) (c5 : Cn mg "KC_ASK" 5) (c6 : Cn mg "KC_SAY" 6) (c7 : Cn mg "KC_HEARD" 7) (c8 : Cn mg "KC_FOUND" 8) :
    FnOk P w K mg base CX0 7 f fd ["reader", "line"] (spNext Z K) := by
  refine F.ok scNext (fun vs H Q E h => ?_) (fun cdv A outer s H vs Q E hr h => ?_)
  · obtain ⟨R, L, ad, i, j, l, FL, s, cc, rfl, _⟩ := h
    rfl
  · obtain ⟨R, L, ad, i, j, l, FL, s, cc, rfl, hRd, hl, hLn, hRF, hat, hask, hne, q⟩ := h
    have r1 : Room 1 _ := hr.mono (by decide)
    have r3 : Room 3 _ := hr.mono (by decide)
    obtain ⟨op, k, ho, hk, kd⟩ := hat.kind hask hne
    obtain ⟨dxR, hR⟩ := id hRd
    generalize Km352Neutral.step s cc = y at q kd
    refine cut (ps_set (i := 2) scNext.nd rfl (Or.inl rfl) (pmeth0 (pv 0) TR.cl MN r1)) (fun σ' H1 => σ' = [some (.ref R), some (.ref L), some (.int op), none] ∧ RdAt Z.R H1 R ad (i + 1) ∧ Ch H H1 [R] [R])
      ⟨_, rfl, R, dxR, _, rfl, hR, rfl, R, ad, i, l, op, rfl, hRd, hl, ho, fun H1 hRd1 ch1 => ⟨rfl, hRd1, ch1⟩⟩ ?_
    rintro _ H1 ⟨rfl, hRd1, ch1⟩
    have hl1 := ch1.seqR hR hl
    obtain ⟨dxR1, hR1⟩ := id hRd1
    refine cut (ps_set (i := 3) scNext.nd rfl (Or.inl rfl) (pmeth0 (pv 0) TR.cl MN r1)) (fun σ' H2 => σ' = [some (.ref R), some (.ref L), some (.int op), some (iv k)] ∧ RdAt Z.R H2 R ad (i + 2) ∧ Ch H1 H2 [R] [R])
      ⟨_, rfl, R, dxR1, _, rfl, hR1, rfl, R, ad, i + 1, l, _, rfl, hRd1, hl1, hk, fun H2 hRd2 ch2 => ⟨rfl, hRd2, ch2⟩⟩ ?_
    rintro _ H2 ⟨rfl, hRd2, ch2⟩
    have hl2 := ch2.seqR hR1 hl1
    have ch02 : Ch H H2 [R] [R] := ch1.trans ch2
    have hLn2 : LnAt Z H2 L FL s := hLn.same (off_R ch02 hRF)
    obtain ⟨dxR2, hR2⟩ := id hRd2
    clear hat hask hne hl1 hLn ho hk ch1 ch2 hRd1 hRd hl
    cases kd with
    | @sNew x hx hx0 hk4 =>
      obtain ⟨dxL, ls, vc, eL⟩ := hLn2.ins
      refine cut_yes (pt_cmpR op_eq (pv 2) (pcn c0) (nomark _)) (pss_one (ps_ret (pmeth (pv 1) TL.cl M1 r3 (pa_cons (pv 3) (pa_cons (pmeth0 (pv 0) TR.cl MN r1) pa_nil)))))
        ⟨_, rfl, rfl, _, rfl, iteDT rfl ⟨_, rfl, L, dxL, _, rfl, eL, rfl, _, rfl, _, rfl, R, dxR2, _, rfl, hR2, rfl, R, ad, i + 2, l, x, rfl, hRd2, hl2, hx, fun H3 hRd3 ch3 => ?_⟩⟩
      exact ⟨L, FL, s, k, x.toNat, by show [V.ref L, V.int (k : Int), V.int x] = [V.ref L, V.int (k : Int), V.int ((x.toNat : Nat) : Int)]; rw [Int.toNat_of_nonneg hx0], hk4, hLn2.same (off_R ch3 hRF), fun H4 FL4 p hLn4 ch4 hp hH4 =>
        q H4 FL4 p (hRd3.off ch4 hRF) (hRd3.keep ch4 hRF) hLn4 (((ch02.trans ch3).alsoR FL).trans (ch4.underR R)) ((ch02.trans ch3).free hp) hH4⟩
    | @cNew x hx hx0 hk0 =>
      obtain ⟨dxL, ls, vc, eL⟩ := hLn2.ins
      refine cut_no (pt_cmpR op_eq (pv 2) (pcn c0) (nomark _)) (fun H' => H2 = H') ⟨_, rfl, rfl, _, rfl, iteDF (int_ne (by decide)) rfl⟩ ?_
      rintro _ rfl
      refine cut_yes (pt_cmpR op_eq (pv 2) (pcn c4) (nomark _)) (pss_one (ps_ret (pmeth (pv 1) TL.cl M2 r3 (pa_cons (pmeth0 (pv 0) TR.cl MN r1) pa_nil))))
        ⟨_, rfl, rfl, _, rfl, iteDT rfl ⟨_, rfl, L, dxL, _, rfl, eL, rfl, _, rfl, R, dxR2, _, rfl, hR2, rfl, R, ad, i + 2, l, x, rfl, hRd2, hl2, hx, fun H3 hRd3 ch3 => ?_⟩⟩
      exact ⟨L, FL, s, x.toNat, int_arg hx0, hLn2.same (off_R ch3 hRF), fun H4 FL4 p hLn4 ch4 hp hH4 =>
        q H4 FL4 p (hRd3.off ch4 hRF) (hRd3.keep ch4 hRF) hLn4 (((ch02.trans ch3).alsoR FL).trans (ch4.underR R)) ((ch02.trans ch3).free hp) hH4⟩
    | @sOld op c j t hop hk4 ht =>
      refine cut_no (pt_cmpR op_eq (pv 2) (pcn c0) (nomark _)) (fun H' => H2 = H') ⟨_, rfl, rfl, _, rfl, iteDF (int_ne (st_ne0 hop)) rfl⟩ ?_
      rintro _ rfl
      refine cut_no (pt_cmpR op_eq (pv 2) (pcn c4) (nomark _)) (fun H' => H2 = H') ⟨_, rfl, rfl, _, rfl, iteDF (int_ne (st_ne4 hop)) rfl⟩ ?_
      rintro _ rfl
      refine cut_yes (pt_cmpR op_in_seq (pv 2) (pe_tup (pa_cons (pcn c1) (pa_cons (pcn c2) (pa_cons (pcn c3) pa_nil)))) (by with_unfolding_all rfl)) (pss_one (ps_ret (pcall G1 hr (pa_cons (pv 2) (pa_cons (pe_ix ix_list (pe_fld (pv 1) rfl) (pv 3) (fun _ _ => rfl)) (pa_cons (pv 0) pa_nil))))))
        ⟨_, rfl, (by show 3 ≤ sizeLine; decide), fun tp htp => ⟨tp, _, rfl, .inr (SqT.of upd_same), rfl, rfl, _, rfl, iteY (st_mem hop) ?_⟩⟩
      have sT := same_new (o := .tup [.int 1, .int 2, .int 3]) htp
      generalize upd H2 tp (.tup [.int 1, .int 2, .int 3]) = H3 at sT
      have cT := ch02.trans (Ch.same sT _)
      obtain ⟨ls, ws, vc, Fs, hh, rfl⟩ := hLn2.same fun b o _ => sT b o
      obtain ⟨dxL, eL⟩ := hh.obj
      obtain ⟨a, ev, hS⟩ := hh.at_st hk4 ht
      have rF : R ∉ Fs k := fun z => hRF (mem_foot.mpr (.inr (.inr ⟨k, by omega, z⟩)))
      exact ⟨_, rfl, _, rfl, L, Z.L, dxL, _, _, rfl, eL, TL.cl, TL.n1, rfl, _, rfl, ls, _, _, _, rfl, rfl, SqL.of hh.lst, at_of (j := k) rfl ev, _, rfl,
        op, a, R, ad, i + 2, j, l, Fs k, t, c, rfl, hS, ⟨dxR2, sT _ _ hR2⟩, sT.seq hl2, rF, hop, fun H4 F4 p hRF4 hS4 hRd4 ch4 hp hH4 =>
          let ⟨y1, y2, y3⟩ := hh.turn_st hk4 hRF hRF4 ch4 ev hS4
          q H4 _ p y1 hRd4 y2 ((cT.alsoR _).trans y3) (cT.free hp) hH4⟩
    | @cOld op c j t hop hk0 ht =>
      refine cut_no (pt_cmpR op_eq (pv 2) (pcn c0) (nomark _)) (fun H' => H2 = H') ⟨_, rfl, rfl, _, rfl, iteDF (int_ne (ct_ne0 hop)) rfl⟩ ?_
      rintro _ rfl
      refine cut_no (pt_cmpR op_eq (pv 2) (pcn c4) (nomark _)) (fun H' => H2 = H') ⟨_, rfl, rfl, _, rfl, iteDF (int_ne (ct_ne4 hop)) rfl⟩ ?_
      rintro _ rfl
      refine cut_no (pt_cmpR op_in_seq (pv 2) (pe_tup (pa_cons (pcn c1) (pa_cons (pcn c2) (pa_cons (pcn c3) pa_nil)))) (by with_unfolding_all rfl)) (fun H' => Same H2 H')
        ⟨_, rfl, (by show 3 ≤ sizeLine; decide), fun tp htp => ⟨tp, _, rfl, .inr (SqT.of upd_same), rfl, rfl, _, rfl, iteN (ct_not hop) (same_new htp)⟩⟩ ?_
      intro H3 sT3
      refine cut_yes (pt_cmpR op_in_seq (pv 2) (pe_tup (pa_cons (pcn c5) (pa_cons (pcn c6) (pa_cons (pcn c7) (pa_cons (pcn c8) pa_nil))))) (by with_unfolding_all rfl)) (pss_one (ps_ret (pcall G2 hr (pa_cons (pv 2) (pa_cons (pe_fld (pv 1) rfl) (pa_cons (pv 0) pa_nil))))))
        ⟨_, rfl, (by show 4 ≤ sizeLine; decide), fun tq htq => ⟨tq, _, rfl, .inr (SqT.of upd_same), rfl, rfl, _, rfl, iteY (ct_mem hop) ?_⟩⟩
      have sT := sT3.trans (same_new (o := .tup [.int 5, .int 6, .int 7, .int 8]) htq)
      generalize upd H3 tq (.tup [.int 5, .int 6, .int 7, .int 8]) = H5 at sT
      have cT := ch02.trans (Ch.same sT _)
      obtain ⟨ls, ws, vc, Fs, hh, rfl⟩ := hLn2.same fun b o _ => sT b o
      obtain ⟨dxL, eL⟩ := hh.obj
      have hst := hh.ce
      rw [ht] at hst
      obtain ⟨a, rfl, hS⟩ := hst
      have rF : R ∉ Fs 4 := fun z => hRF (mem_foot.mpr (.inr (.inr ⟨4, by decide, z⟩)))
      exact ⟨_, rfl, _, rfl, L, Z.L, dxL, _, _, rfl, eL, TL.cl, TL.n2, rfl, _, rfl,
        op, a, R, ad, i + 2, j, l, Fs 4, t, c, rfl, hS, ⟨dxR2, sT _ _ hR2⟩, sT.seq hl2, rF, hop, fun H4 F4 p hRF4 hS4 hRd4 ch4 hp hH4 =>
          let ⟨y1, y2, y3⟩ := hh.turn_ce hRF hRF4 ch4 hS4
          q H4 _ p y1 hRd4 y2 ((cT.alsoR _).trans y3) (cT.free hp) hH4⟩
end
end My
end
section
set_option Elab.async false
set_option linter.all false
set_option maxRecDepth 100000
set_option maxHeartbeats 4000000
namespace My
open PySem PySem.Spec PyProof.Rows L2
open Km352Neutral (S)
abbrev sAns : Stmt := top 63
inductive spAns (K : PySem.W.Frag) (vs : List V) (H : Hp) (Q : VK) (E : XK) : Prop
  | mk (a : Addr) (ns : List Int) (h0 : vs = [.ref a]) (h1 : SqL K H a (ns.map V.int)) (h2 : PyKm352.answers_asked ns = true) (h3 : ∀ (H' : Hp) (p : Addr), H' p = some (.lst ((PyKm352.answers ns).map V.int)) → Q (.ref p) H') : spAns K vs H Q E
/-- before a turn of the walk -/
structure Turn0 (Z : Four) (H0 : Hp) (a R L g : Addr) (ns : List Int) (H : Hp) (cs : List (List (List Int))) (i : Nat) (FL : List Addr) (s : S) (out : List Int) : Prop where
  same : Same H0 H
  rd : RdAt Z.R H R a i
  ln : LnAt Z H L FL s
  giv : H g = some (.lst (zv out))
  rf : R ∉ FL
  gf : g ∉ FL
  gr : g ≠ R
  fr : H0 R = none
  fg : H0 g = none
  ff : ∀ b ∈ FL, H0 b = none
  rest : Mw.Rest ns i cs
  ask : ∀ c ∈ cs, Km352Neutral.asked1 c = true
  may : Km352Neutral.may s cs = true
  all : PyKm352.answers ns = out ++ Mw.toldAll s cs
  len : out.length + 22 * cs.length ≤ 110000
theorem zv_app (l m : List Int) : zv l ++ zv m = zv (l ++ m) := List.map_append.symm
section
variable {Z : Four} {H0 H H3 : Hp} {a R L g p : Addr} {ns out : List Int} {c : List (List Int)} {cs : List (List (List Int))} {i j : Nat} {FL FL3 : List Addr} {s : S}
theorem Turn0.gn (t : Turn0 Z H0 a R L g ns H cs i FL s out) : g ∉ R :: FL := fun z => by
  rcases List.mem_cons.mp z with z | z
  · exact t.gr z
  · exact t.gf z
theorem Turn0.room (t : Turn0 Z H0 a R L g ns H (c :: cs) i FL s out) (k : Nat) (hk : k ≤ 22) : out.length + k ≤ 110000 := by
  have h : out.length + 22 * (cs.length + 1) ≤ 110000 := t.len
  omega
theorem big_line : 110000 < sizeLine := by decide
/-- behind a turn -/
theorem Turn0.step (t : Turn0 Z H0 a R L g ns H (c :: cs) i FL s out) (hrest : Mw.Rest ns j cs) (hRF3 : R ∉ FL3) (hRd3 : RdAt Z.R H3 R a j) (hLn3 : LnAt Z H3 L FL3 (Km352Neutral.step s c).1) (ch3 : Ch H H3 (R :: FL) (R :: FL3)) {o1 o2 : HO}
    (e2 : o2 = .lst (zv (out ++ (((Km352Neutral.step s c).2.length : Int) :: (Km352Neutral.step s c).2)))) :
    Turn0 Z H0 a R L g ns (upd (upd H3 g o1) g o2) cs j FL3 (Km352Neutral.step s c).1 (out ++ (((Km352Neutral.step s c).2.length : Int) :: (Km352Neutral.step s c).2)) := by
  subst e2
  have gF3 : g ∉ FL3 := fun z => by
    rcases ch3.fp g (List.mem_cons_of_mem _ z) with y | y
    · exact t.gn y
    · cases Eq.trans (Eq.symm t.giv) y
  have other : ∀ b o o', b ≠ g → H3 b = some o → upd (upd H3 g o1) g o' b = some o := fun b o o' hb e => by
    rw [upd_ne hb, upd_ne hb]
    exact e
  refine ⟨fun b o e => other b o _ (fun z => ?_) (ch3.keep b o (t.same b o e) fun z => ?_), ?_, ?_, upd_same, hRF3, gF3, t.gr, t.fr, t.fg, fun b hb => ?_, hrest, fun c' hc => t.ask c' (List.mem_cons_of_mem _ hc), (Mw.asked_cons t.may).2, ?_, ?_⟩
  · rw [z, t.fg] at e
    cases e
  · rcases List.mem_cons.mp z with z | z
    · rw [z, t.fr] at e
      cases e
    · rw [t.ff b z] at e
      cases e
  · obtain ⟨d, e⟩ := hRd3
    exact ⟨d, other _ _ _ t.gr.symm e⟩
  · exact hLn3.same fun b o hb e => other b o _ (fun z => gF3 (by rw [← z]; exact hb)) e
  · rcases ch3.fp b (List.mem_cons_of_mem _ hb) with y | y
    · rcases List.mem_cons.mp y with y | y
      · rw [y]
        exact t.fr
      · exact t.ff b y
    · exact t.same.free y
  · have e := t.all
    rw [Mw.told_cons] at e
    rw [e, List.append_assoc]
    rfl
  · have hlen := Mw.step_len s c
    have h : out.length + 22 * (cs.length + 1) ≤ 110000 := t.len
    rw [List.length_append, List.length_cons]
    omega
end
/-- the walk's word, and behind a turn -/
def Walk (Z : Four) (H0 : Hp) (a R L g : Addr) (ns : List Int) (m : Nat) (σ : L2.St) (H : Hp) : Prop := ∃ cs i FL s out v4, m = cs.length ∧ σ = [some (.ref a), some (.ref R), some (.ref L), some (.ref g), v4] ∧ Turn0 Z H0 a R L g ns H cs i FL s out
section
variable {P : Program} {w : World} {K : PySem.W.Frag} {mg : Str → Option Value} {base : Heap} {Z : Four}
theorem scAns : FnScope ["calls", "reader", "line", "given", "answered"] ["calls"] (defScope sAns) := ⟨rfl, rfl, rfl, by decide +kernel, rfl, by decide +kernel, by decide +kernel⟩
theorem ok_ans {f : Addr} {fd : FuncData} (F : Fun K "answers" "answers" sAns f fd) (TR : TRd K Z.R) (MR : Mr P w K mg base 1 Z.R "CallReader" ["self", "calls"] (spRInit Z.R)) (ML : Mr P w K mg base 1 Z.L "Line" ["self"] (spLInit Z))
    (MM : Mt P w K mg base 1 Z.R "has_more" ["self"] (spRMore K Z.R)) (G : Fn P w K mg base 7 "answer_of_next" ["reader", "line"] (spNext Z K)) (hL : mg "len" = none) : FnOk P w K mg base CX0 8 f fd ["calls"] (spAns K) := by
  refine F.ok scAns (fun vs H Q E h => ?_) (fun cdv A outer s H vs Q E hr h => ?_)
  · obtain ⟨a, ns, rfl, _⟩ := h
    rfl
  · obtain ⟨a, ns, rfl, hl, hask, q⟩ := h
    have r1 : Room 1 _ := hr.mono (by decide)
    have r2 : Room 2 _ := hr.mono (by decide)
    obtain ⟨cs, q1, q2, q3, q4, q5⟩ := Mw.request hask
    refine cut (ps_set (i := 1) scAns.nd rfl (Or.inl rfl) (pmake MR r2 (pa_cons (pv 0) pa_nil))) (fun σ' H1 => ∃ R, σ' = [some (.ref a), some (.ref R), none, none, none] ∧ H R = none ∧ Same H H1 ∧ RdAt Z.R H1 R a 0)
      ⟨_, rfl, fun R dR nR ndR neR => ⟨R, dR, a, rfl, upd_same, fun H1 hRd1 ch1 => ⟨rfl, R, rfl, nR, (made_same nR ndR ch1).1, hRd1⟩⟩⟩ ?_
    rintro _ H1 ⟨R, rfl, nR, s1, d, e⟩
    refine cut (ps_set (i := 2) scAns.nd rfl (Or.inl rfl) (pmake0 ML r2)) (fun σ' H2 => ∃ L FL, σ' = [some (.ref a), some (.ref R), some (.ref L), none, none] ∧ Same H1 H2 ∧ (∀ b ∈ FL, H1 b = none) ∧ LnAt Z H2 L FL Km352Neutral.start)
      (fun L dL nL ndL neL => ⟨L, dL, rfl, upd_same, fun H2 FL hLn2 ch2 => ⟨rfl, L, FL, rfl, (made_same nL ndL ch2).1, (made_same nL ndL ch2).2, hLn2⟩⟩) ?_
    rintro _ H2 ⟨L, FL, rfl, s2, fr2, hLn2⟩
    refine cut (ps_set (i := 3) scAns.nd rfl (Or.inl rfl) (pe_lst pa_nil)) (fun σ' H3 => ∃ g, σ' = [some (.ref a), some (.ref R), some (.ref L), some (.ref g), none] ∧ H2 g = none ∧ H3 = upd H2 g (.lst []))
      ⟨Nat.zero_le _, fun g hg => ⟨g, rfl, hg, rfl⟩⟩ ?_
    rintro _ _ ⟨g, rfl, hg, rfl⟩
    have t0 : Turn0 Z H a R L g ns (upd H2 g (.lst [])) cs 0 FL Km352Neutral.start [] := by
      have s3 := same_new (o := .lst []) hg
      refine ⟨(s1.trans s2).trans s3, ⟨d, s3 _ _ (s2 _ _ e)⟩, hLn2.same fun b o _ => s3 b o, upd_same, fun z => ?_, fun z => ?_, fun z => ?_, nR, (s1.trans s2).free hg, fun b hb => s1.free (fr2 b hb), q1, q3, q4, q5, ?_⟩
      · cases Eq.trans (Eq.symm e) (fr2 R z)
      · obtain ⟨o, y⟩ := hLn2.live g z
        cases Eq.trans (Eq.symm y) hg
      · subst z
        cases Eq.trans (Eq.symm (s2 _ _ e)) hg
      · show 0 + 22 * cs.length ≤ 110000
        omega
    generalize upd H2 g (.lst []) = H3 at t0
    clear q1 q2 q3 q4 q5 s1 s2 fr2 hLn2 hg d e
    refine cut (ps_while PassesOwn.never (pt_val (pmeth0 (pv 1) TR.cl MM r1))
        (pss_cons (ps_set (i := 4) scAns.nd rfl (Or.inl rfl) (pcall G hr (pa_cons (pv 1) (pa_cons (pv 2) pa_nil))))
        (pss_cons (ps_expr (pe_bm PySem.F.plainAttrs_list PySem.F.slot_list_append PySem.F.type_list_append mt_append (pv 3) (pa_cons (pe_callB call_len_seq (by rfl) hL PySem.boot_len (pa_cons (pv 4) pa_nil)) pa_nil)))
        (pss_one (ps_expr (pe_bm PySem.F.plainAttrs_list PySem.F.slot_list_extend PySem.F.type_list_extend mt_extend (pv 3) (pa_cons (pv 4) pa_nil)))))))
      (fun σ' H' => ∃ v4, σ' = [some (.ref a), some (.ref R), some (.ref L), some (.ref g), v4] ∧ H' g = some (.lst (zv (PyKm352.answers ns)))) ?_ fun σ' H' ⟨v4, e, hH⟩ => cut_ret (pv 3) ⟨.ref g, by rw [e]; rfl, q H' g hH⟩
    refine ⟨Walk Z H a R L g ns, ⟨cs.length, cs, 0, FL, _, [], none, rfl, rfl, t0⟩, ?_⟩
    clear t0
    rintro m σ H' ⟨cs, i, FL, st, out, v4, rfl, rfl, t⟩
    obtain ⟨dR', eR'⟩ := t.rd
    have hl' := t.same.seq hl
    refine ⟨_, rfl, R, dR', _, rfl, eR', rfl, R, a, i, ns, rfl, t.rd, hl', _, rfl, ?_⟩
    cases cs with
    | nil =>
      have e := t.all
      rw [show Mw.toldAll st [] = [] from rfl, List.append_nil] at e
      exact iteDF t.rest.nil ⟨v4, rfl, by rw [e]; exact t.giv⟩
    | cons c cs =>
      obtain ⟨hi, j, hat, hrest⟩ := t.rest.cons
      have hlen := Mw.step_len st c
      refine iteDT hi ⟨Walk Z H a R L g ns cs.length, fun σ' H5 h => ⟨cs.length, Nat.lt_succ_self _, h⟩, ?_⟩
      refine ⟨_, rfl, _, rfl, R, L, a, i, j, ns, FL, st, c, rfl, t.rd, hl', t.ln, t.rf, hat, t.ask c (List.mem_cons_self ..), (Mw.asked_cons t.may).1, fun H3 FL3 p hRF3 hRd3 hLn3 ch3 hp hH3 => ?_⟩
      have hg3 := ch3.keep g _ t.giv t.gn
      have pg : p ≠ g := fun z => by
        rw [z, t.giv] at hp
        cases hp
      refine ⟨_, rfl, .inl ⟨rfl, _, SqL.of hg3⟩, _, rfl, p, _, rfl, .inl (SqL.of hH3), g, _, _, rfl, rfl, hg3, by rw [zv_len]; exact Nat.lt_of_le_of_lt (t.room 0 (by decide)) big_line,
        _, rfl, .inl ⟨rfl, _, SqL.of upd_same⟩, _, rfl, g, p, _, _, rfl, rfl, upd_same, Eq.trans (upd_ne pg) hH3, ?_, cs, j, FL3, _, _, _, rfl, rfl, t.step hrest hRF3 hRd3 hLn3 ch3 ?_⟩
      · rw [List.length_append, zv_len, zv_len, List.length_singleton, Nat.add_assoc]
        exact Nat.le_of_lt (Nat.lt_of_le_of_lt (t.room _ (by omega)) big_line)
      · rw [zv_len]
        show HO.lst ((zv out ++ zv [((Km352Neutral.step st c).2.length : Int)]) ++ zv (Km352Neutral.step st c).2) = _
        rw [zv_app, zv_app, List.append_assoc]
        rfl
end
end My
end
set_option Elab.async false
set_option linter.all false
set_option maxRecDepth 100000
set_option maxHeartbeats 4000000
namespace My
open PySem PySem.Spec PyProof.Rows L2
open PySem.W (Codec)
theorem us1 {C : List Value → Prop} {us : List Value} (h : us.length = 1) (k : ∀ a, C [a]) : C us := match us, h with | [a], _ => k a
theorem us2 {C : List Value → Prop} {us : List Value} (h : us.length = 2) (k : ∀ a b, C [a, b]) : C us := match us, h with | [a, b], _ => k a b
theorem us3 {C : List Value → Prop} {us : List Value} (h : us.length = 3) (k : ∀ a b c, C [a, b, c]) : C us := match us, h with | [a, b, c], _ => k a b c
theorem us4 {C : List Value → Prop} {us : List Value} (h : us.length = 4) (k : ∀ a b c d, C [a, b, c, d]) : C us := match us, h with | [a, b, c, d], _ => k a b c d
theorem bind1 {K : PySem.W.Frag} {x qual : Str} {st : Stmt} {f : Addr} {fd : FuncData} {p : Str} (F : Fun K x qual st f fd)
    (h : ∀ (kV doc pm : Value) (an : Option Addr) (cdv ct a : Value), bindArgs (PySem.W.fnOf x qual (defArgs st) (defBody st) (defScope st) .none kV doc pm an cdv ct) ⟨[a], []⟩ = pure (List.zip [p] [a])) : Binds K fd [p] [] :=
  F.binds fun kV doc pm an cdv ct us hl => us1 (C := fun us => bindArgs (PySem.W.fnOf x qual (defArgs st) (defBody st) (defScope st) .none kV doc pm an cdv ct) ⟨us, []⟩ = pure (List.zip [p] us)) hl (h kV doc pm an cdv ct)
theorem bind2 {K : PySem.W.Frag} {x qual : Str} {st : Stmt} {f : Addr} {fd : FuncData} {p q : Str} (F : Fun K x qual st f fd)
    (h : ∀ (kV doc pm : Value) (an : Option Addr) (cdv ct a b : Value), bindArgs (PySem.W.fnOf x qual (defArgs st) (defBody st) (defScope st) .none kV doc pm an cdv ct) ⟨[a, b], []⟩ = pure (List.zip [p, q] [a, b])) : Binds K fd [p, q] [] :=
  F.binds fun kV doc pm an cdv ct us hl => us2 (C := fun us => bindArgs (PySem.W.fnOf x qual (defArgs st) (defBody st) (defScope st) .none kV doc pm an cdv ct) ⟨us, []⟩ = pure (List.zip [p, q] us)) hl (h kV doc pm an cdv ct)
theorem bind3 {K : PySem.W.Frag} {x qual : Str} {st : Stmt} {f : Addr} {fd : FuncData} {p q r : Str} (F : Fun K x qual st f fd)
    (h : ∀ (kV doc pm : Value) (an : Option Addr) (cdv ct a b c : Value), bindArgs (PySem.W.fnOf x qual (defArgs st) (defBody st) (defScope st) .none kV doc pm an cdv ct) ⟨[a, b, c], []⟩ = pure (List.zip [p, q, r] [a, b, c])) : Binds K fd [p, q, r] [] :=
  F.binds fun kV doc pm an cdv ct us hl => us3 (C := fun us => bindArgs (PySem.W.fnOf x qual (defArgs st) (defBody st) (defScope st) .none kV doc pm an cdv ct) ⟨us, []⟩ = pure (List.zip [p, q, r] us)) hl (h kV doc pm an cdv ct)
theorem bind4 {K : PySem.W.Frag} {x qual : Str} {st : Stmt} {f : Addr} {fd : FuncData} {p q r s : Str} (F : Fun K x qual st f fd)
    (h : ∀ (kV doc pm : Value) (an : Option Addr) (cdv ct a b c d : Value), bindArgs (PySem.W.fnOf x qual (defArgs st) (defBody st) (defScope st) .none kV doc pm an cdv ct) ⟨[a, b, c, d], []⟩ = pure (List.zip [p, q, r, s] [a, b, c, d])) : Binds K fd [p, q, r, s] [] :=
  F.binds fun kV doc pm an cdv ct us hl => us4 (C := fun us => bindArgs (PySem.W.fnOf x qual (defArgs st) (defBody st) (defScope st) .none kV doc pm an cdv ct) ⟨us, []⟩ = pure (List.zip [p, q, r, s] us)) hl (h kV doc pm an cdv ct)
/-- a def of the text, as it stands behind the top -/
def IsDef (K : PySem.W.Frag) (x qual : Str) (st : Stmt) (f : Addr) : Prop := ∃ (oc : Value) (od : Option Addr) (sl : Array (Option Value)) (kV dc pm : Value) (an : Option Addr) (cd ct : Value),
  K.lookup f = some ⟨oc, od, .func (PySem.W.fnOf x qual (defArgs st) (defBody st) (defScope st) .none kV dc pm an cd ct), sl⟩ ∧ PySem.W.codeIn K cd qual = true ∧ PySem.W.keepIn K (.ref f) = true
theorem IsDef.by_ {K : PySem.W.Frag} {x qual : Str} {st : Stmt} {f : Addr} {oc : Value} {od : Option Addr} {sl : Array (Option Value)} {kV dc pm : Value} {an : Option Addr} {cd ct : Value}
    (l : K.lookup f = some ⟨oc, od, .func (PySem.W.fnOf x qual (defArgs st) (defBody st) (defScope st) .none kV dc pm an cd ct), sl⟩) (c : PySem.W.codeIn K cd qual = true) (k : PySem.W.keepIn K (.ref f) = true) : IsDef K x qual st f := ⟨oc, od, sl, kV, dc, pm, an, cd, ct, l, c, k⟩
theorem IsDef.fun_ {K : PySem.W.Frag} {x qual : Str} {st : Stmt} {f : Addr} (h : IsDef K x qual st f) : ∃ fd, Fun K x qual st f fd := by
  obtain ⟨oc, od, sl, kV, dc, pm, an, cd, ct, l, c, k⟩ := h
  exact ⟨_, fun_mk (st := st) l c k⟩
section
variable {P : Program} {w : World} {K : PySem.W.Frag} {mg : Str → Option Value} {h base : Heap} {k : Nat} {x qual : Str} {st : Stmt} {f C : Addr} {ps : List Str} {sp : Sp}
theorem fn_of_def (X : K.In h) (G : h.Ns mainGlobals mg) (a : PySem.W.nsIn K mainGlobals x = some (some (.ref f))) (d : IsDef K x qual st f) (b : ∀ fd, Fun K x qual st f fd → Binds K fd ps []) (ok : ∀ fd, Fun K x qual st f fd → FnOk P w K mg base CX0 k f fd ps sp) : Fn P w K mg base k x ps sp := by
  obtain ⟨fd, F⟩ := d.fun_
  exact ⟨f, fd, ok fd F, PySem.W.mg_of X G a, F.kp, b fd F⟩
theorem mt_of_def (a : PySem.W.findIn K (.ref C) x = some (some (.ref f))) (i : PySem.W.isFn K (.ref f) = true) (d : IsDef K x qual st f) (b : ∀ fd, Fun K x qual st f fd → Binds K fd ps []) (ok : ∀ fd, Fun K x qual st f fd → FnOk P w K mg base CX0 k f fd ps sp) : Mt P w K mg base k C x ps sp := by
  obtain ⟨fd, F⟩ := d.fun_
  exact ⟨f, fd, ok fd F, ⟨a, i, F.kp⟩, b fd F⟩
theorem mr_of_def {y : Str} (X : K.In h) (G : h.Ns mainGlobals mg) (aC : PySem.W.nsIn K mainGlobals y = some (some (.ref C))) (mk : PySem.W.makesIn K C = true) (kc : PySem.W.keepIn K (.ref C) = true) (a : PySem.W.findIn K (.ref C) "__init__" = some (some (.ref f))) (i : PySem.W.isFn K (.ref f) = true) (d : IsDef K "__init__" qual st f)
    (b : ∀ fd, Fun K "__init__" qual st f fd → Binds K fd ps []) (ok : ∀ fd, Fun K "__init__" qual st f fd → FnOk P w K mg base CX0 k f fd ps sp) : Mr P w K mg base k C y ps sp := by
  obtain ⟨fd, F⟩ := d.fun_
  exact ⟨f, fd, ok fd F, ⟨mk, a, i, kc⟩, b fd F, PySem.W.mg_of X G aC⟩
end
theorem all_mk {P : Program} {w : World} {K : PySem.W.Frag} {h : Heap} {mg : Str → Option Value} {fa : Addr} {CR CS CE CC CL f_ans f_byte f_crc f_four f_num f_stn f_srch f_rnd f_xof f_how f_chk f_sr f_isq f_isa f_wr f_wq f_wa f_rinit f_rmore f_rnum f_rrow f_sinit f_sadd f_smany f_shear f_show f_sheard f_einit f_ex f_ewait f_ehalve f_eend f_ekeep f_cinit f_cis f_cask f_csay f_cheard f_cfound f_linit f_lks f_lkc f_aos f_aoc f_next : Addr} {t_HIGHEST_STATION t_MOST_STATIONS t_MOST_NUMBERS t_LAST_ROUND t_GREATEST_NUMBER t_MOST_SEARCHES t_POLYNOMIAL t_ALL_ONES t_QUESTION t_ANSWER t_STATION_AT t_SEARCH_AT t_ROUND_AT t_LAST_FIELD_AT t_CHECK_AT t_NOT_SO_MANY t_NOT_NOW t_SEARCH_IS_OLD t_OUT_OF_BOUNDS t_NO_ROOM t_NOT_RIGHT t_KS_START t_KS_ADD t_KS_HEARD t_KS_MANY t_KC_START t_KC_ASK t_KC_SAY t_KC_HEARD t_KC_FOUND : Tok} (X : K.In h) (G : h.Ns mainGlobals mg) (hfa : mg "answers" = some (.ref fa))
    (a_CR : PySem.W.nsIn K mainGlobals "CallReader" = some (some (.ref CR)))
    (a_CS : PySem.W.nsIn K mainGlobals "Station" = some (some (.ref CS)))
    (a_CE : PySem.W.nsIn K mainGlobals "Search" = some (some (.ref CE)))
    (a_CC : PySem.W.nsIn K mainGlobals "Centre" = some (some (.ref CC)))
    (a_CL : PySem.W.nsIn K mainGlobals "Line" = some (some (.ref CL)))
    (pg_CR : PySem.W.plainGet K CR Str.empty = true)
    (hd_CR : PySem.W.hasDictIn K CR = true)
    (po_CR : PySem.W.plainOver K CR = true)
    (sa_CR : PySem.W.findIn K (.ref CR) "__setattr__" = some (some (.builtin "object.__setattr__")))
    (mk_CR : PySem.W.makesIn K CR = true)
    (kc_CR : PySem.W.keepIn K (.ref CR) = true)
    (n_CR_calls : PySem.W.findIn K (.ref CR) "calls" = some none)
    (n_CR_place : PySem.W.findIn K (.ref CR) "place" = some none)
    (pg_CS : PySem.W.plainGet K CS Str.empty = true)
    (hd_CS : PySem.W.hasDictIn K CS = true)
    (po_CS : PySem.W.plainOver K CS = true)
    (sa_CS : PySem.W.findIn K (.ref CS) "__setattr__" = some (some (.builtin "object.__setattr__")))
    (mk_CS : PySem.W.makesIn K CS = true)
    (kc_CS : PySem.W.keepIn K (.ref CS) = true)
    (n_CS_me : PySem.W.findIn K (.ref CS) "me" = some none)
    (n_CS_counting : PySem.W.findIn K (.ref CS) "counting" = some none)
    (n_CS_later : PySem.W.findIn K (.ref CS) "later" = some none)
    (n_CS_last_search : PySem.W.findIn K (.ref CS) "last_search" = some none)
    (pg_CE : PySem.W.plainGet K CE Str.empty = true)
    (hd_CE : PySem.W.hasDictIn K CE = true)
    (po_CE : PySem.W.plainOver K CE = true)
    (sa_CE : PySem.W.findIn K (.ref CE) "__setattr__" = some (some (.builtin "object.__setattr__")))
    (mk_CE : PySem.W.makesIn K CE = true)
    (kc_CE : PySem.W.keepIn K (.ref CE) = true)
    (n_CE_number : PySem.W.findIn K (.ref CE) "number" = some none)
    (n_CE_k : PySem.W.findIn K (.ref CE) "k" = some none)
    (n_CE_stations : PySem.W.findIn K (.ref CE) "stations" = some none)
    (n_CE_round_number : PySem.W.findIn K (.ref CE) "round_number" = some none)
    (n_CE_lo : PySem.W.findIn K (.ref CE) "lo" = some none)
    (n_CE_hi : PySem.W.findIn K (.ref CE) "hi" = some none)
    (n_CE_told : PySem.W.findIn K (.ref CE) "told" = some none)
    (n_CE_over : PySem.W.findIn K (.ref CE) "over" = some none)
    (n_CE_found : PySem.W.findIn K (.ref CE) "found" = some none)
    (pg_CC : PySem.W.plainGet K CC Str.empty = true)
    (hd_CC : PySem.W.hasDictIn K CC = true)
    (po_CC : PySem.W.plainOver K CC = true)
    (sa_CC : PySem.W.findIn K (.ref CC) "__setattr__" = some (some (.builtin "object.__setattr__")))
    (mk_CC : PySem.W.makesIn K CC = true)
    (kc_CC : PySem.W.keepIn K (.ref CC) = true)
    (n_CC_stations : PySem.W.findIn K (.ref CC) "stations" = some none)
    (n_CC_searches : PySem.W.findIn K (.ref CC) "searches" = some none)
    (n_CC_last_begun : PySem.W.findIn K (.ref CC) "last_begun" = some none)
    (pg_CL : PySem.W.plainGet K CL Str.empty = true)
    (hd_CL : PySem.W.hasDictIn K CL = true)
    (po_CL : PySem.W.plainOver K CL = true)
    (sa_CL : PySem.W.findIn K (.ref CL) "__setattr__" = some (some (.builtin "object.__setattr__")))
    (mk_CL : PySem.W.makesIn K CL = true)
    (kc_CL : PySem.W.keepIn K (.ref CL) = true)
    (n_CL_stations : PySem.W.findIn K (.ref CL) "stations" = some none)
    (n_CL_centre : PySem.W.findIn K (.ref CL) "centre" = some none)
    (c_HIGHEST_STATION : PySem.W.nsIn K mainGlobals "HIGHEST_STATION" = some (some (.int (15) t_HIGHEST_STATION)))
    (c_MOST_STATIONS : PySem.W.nsIn K mainGlobals "MOST_STATIONS" = some (some (.int (16) t_MOST_STATIONS)))
    (c_MOST_NUMBERS : PySem.W.nsIn K mainGlobals "MOST_NUMBERS" = some (some (.int (4096) t_MOST_NUMBERS)))
    (c_LAST_ROUND : PySem.W.nsIn K mainGlobals "LAST_ROUND" = some (some (.int (32) t_LAST_ROUND)))
    (c_GREATEST_NUMBER : PySem.W.nsIn K mainGlobals "GREATEST_NUMBER" = some (some (.int (4294967295) t_GREATEST_NUMBER)))
    (c_MOST_SEARCHES : PySem.W.nsIn K mainGlobals "MOST_SEARCHES" = some (some (.int (4294967295) t_MOST_SEARCHES)))
    (c_POLYNOMIAL : PySem.W.nsIn K mainGlobals "POLYNOMIAL" = some (some (.int (2197175160) t_POLYNOMIAL)))
    (c_ALL_ONES : PySem.W.nsIn K mainGlobals "ALL_ONES" = some (some (.int (4294967295) t_ALL_ONES)))
    (c_QUESTION : PySem.W.nsIn K mainGlobals "QUESTION" = some (some (.int (1) t_QUESTION)))
    (c_ANSWER : PySem.W.nsIn K mainGlobals "ANSWER" = some (some (.int (2) t_ANSWER)))
    (c_STATION_AT : PySem.W.nsIn K mainGlobals "STATION_AT" = some (some (.int (1) t_STATION_AT)))
    (c_SEARCH_AT : PySem.W.nsIn K mainGlobals "SEARCH_AT" = some (some (.int (4) t_SEARCH_AT)))
    (c_ROUND_AT : PySem.W.nsIn K mainGlobals "ROUND_AT" = some (some (.int (8) t_ROUND_AT)))
    (c_LAST_FIELD_AT : PySem.W.nsIn K mainGlobals "LAST_FIELD_AT" = some (some (.int (12) t_LAST_FIELD_AT)))
    (c_CHECK_AT : PySem.W.nsIn K mainGlobals "CHECK_AT" = some (some (.int (16) t_CHECK_AT)))
    (c_NOT_SO_MANY : PySem.W.nsIn K mainGlobals "NOT_SO_MANY" = some (some (.int (-2) t_NOT_SO_MANY)))
    (c_NOT_NOW : PySem.W.nsIn K mainGlobals "NOT_NOW" = some (some (.int (-11) t_NOT_NOW)))
    (c_SEARCH_IS_OLD : PySem.W.nsIn K mainGlobals "SEARCH_IS_OLD" = some (some (.int (-13) t_SEARCH_IS_OLD)))
    (c_OUT_OF_BOUNDS : PySem.W.nsIn K mainGlobals "OUT_OF_BOUNDS" = some (some (.int (-22) t_OUT_OF_BOUNDS)))
    (c_NO_ROOM : PySem.W.nsIn K mainGlobals "NO_ROOM" = some (some (.int (-28) t_NO_ROOM)))
    (c_NOT_RIGHT : PySem.W.nsIn K mainGlobals "NOT_RIGHT" = some (some (.int (-71) t_NOT_RIGHT)))
    (c_KS_START : PySem.W.nsIn K mainGlobals "KS_START" = some (some (.int (0) t_KS_START)))
    (c_KS_ADD : PySem.W.nsIn K mainGlobals "KS_ADD" = some (some (.int (1) t_KS_ADD)))
    (c_KS_HEARD : PySem.W.nsIn K mainGlobals "KS_HEARD" = some (some (.int (2) t_KS_HEARD)))
    (c_KS_MANY : PySem.W.nsIn K mainGlobals "KS_MANY" = some (some (.int (3) t_KS_MANY)))
    (c_KC_START : PySem.W.nsIn K mainGlobals "KC_START" = some (some (.int (4) t_KC_START)))
    (c_KC_ASK : PySem.W.nsIn K mainGlobals "KC_ASK" = some (some (.int (5) t_KC_ASK)))
    (c_KC_SAY : PySem.W.nsIn K mainGlobals "KC_SAY" = some (some (.int (6) t_KC_SAY)))
    (c_KC_HEARD : PySem.W.nsIn K mainGlobals "KC_HEARD" = some (some (.int (7) t_KC_HEARD)))
    (c_KC_FOUND : PySem.W.nsIn K mainGlobals "KC_FOUND" = some (some (.int (8) t_KC_FOUND)))
    (e_len : PySem.W.nsIn K mainGlobals "len" = some none)
    (e_range : PySem.W.nsIn K mainGlobals "range" = some none)
    (e_sum : PySem.W.nsIn K mainGlobals "sum" = some none)
    (a_byte : PySem.W.nsIn K mainGlobals "with_byte" = some (some (.ref f_byte)))
    (d_byte : IsDef K "with_byte" "with_byte" sByte f_byte)
    (a_crc : PySem.W.nsIn K mainGlobals "crc32c" = some (some (.ref f_crc)))
    (d_crc : IsDef K "crc32c" "crc32c" sCrc f_crc)
    (a_four : PySem.W.nsIn K mainGlobals "four_bytes" = some (some (.ref f_four)))
    (d_four : IsDef K "four_bytes" "four_bytes" sFour f_four)
    (a_num : PySem.W.nsIn K mainGlobals "number_at" = some (some (.ref f_num)))
    (d_num : IsDef K "number_at" "number_at" sNum f_num)
    (a_stn : PySem.W.nsIn K mainGlobals "station_of" = some (some (.ref f_stn)))
    (d_stn : IsDef K "station_of" "station_of" sStn f_stn)
    (a_srch : PySem.W.nsIn K mainGlobals "search_of" = some (some (.ref f_srch)))
    (d_srch : IsDef K "search_of" "search_of" sSearch f_srch)
    (a_rnd : PySem.W.nsIn K mainGlobals "round_of" = some (some (.ref f_rnd)))
    (d_rnd : IsDef K "round_of" "round_of" sRound f_rnd)
    (a_xof : PySem.W.nsIn K mainGlobals "x_of" = some (some (.ref f_xof)))
    (d_xof : IsDef K "x_of" "x_of" sX f_xof)
    (a_how : PySem.W.nsIn K mainGlobals "how_many_of" = some (some (.ref f_how)))
    (d_how : IsDef K "how_many_of" "how_many_of" sHow f_how)
    (a_chk : PySem.W.nsIn K mainGlobals "has_right_check" = some (some (.ref f_chk)))
    (d_chk : IsDef K "has_right_check" "has_right_check" sChk f_chk)
    (a_sr : PySem.W.nsIn K mainGlobals "has_right_search_and_round" = some (some (.ref f_sr)))
    (d_sr : IsDef K "has_right_search_and_round" "has_right_search_and_round" sSR f_sr)
    (a_isq : PySem.W.nsIn K mainGlobals "is_right_question" = some (some (.ref f_isq)))
    (d_isq : IsDef K "is_right_question" "is_right_question" sIsQ f_isq)
    (a_isa : PySem.W.nsIn K mainGlobals "is_right_answer" = some (some (.ref f_isa)))
    (d_isa : IsDef K "is_right_answer" "is_right_answer" sIsA f_isa)
    (a_wr : PySem.W.nsIn K mainGlobals "written" = some (some (.ref f_wr)))
    (d_wr : IsDef K "written" "written" sWr f_wr)
    (a_wq : PySem.W.nsIn K mainGlobals "written_question" = some (some (.ref f_wq)))
    (d_wq : IsDef K "written_question" "written_question" sWQ f_wq)
    (a_wa : PySem.W.nsIn K mainGlobals "written_answer" = some (some (.ref f_wa)))
    (d_wa : IsDef K "written_answer" "written_answer" sWA f_wa)
    (a_rinit : PySem.W.findIn K (.ref CR) "__init__" = some (some (.ref f_rinit)))
    (i_rinit : PySem.W.isFn K (.ref f_rinit) = true)
    (d_rinit : IsDef K "__init__" "CallReader.__init__" sRInit f_rinit)
    (a_rmore : PySem.W.findIn K (.ref CR) "has_more" = some (some (.ref f_rmore)))
    (i_rmore : PySem.W.isFn K (.ref f_rmore) = true)
    (d_rmore : IsDef K "has_more" "CallReader.has_more" sRMore f_rmore)
    (a_rnum : PySem.W.findIn K (.ref CR) "take_number" = some (some (.ref f_rnum)))
    (i_rnum : PySem.W.isFn K (.ref f_rnum) = true)
    (d_rnum : IsDef K "take_number" "CallReader.take_number" sRNum f_rnum)
    (a_rrow : PySem.W.findIn K (.ref CR) "take_row" = some (some (.ref f_rrow)))
    (i_rrow : PySem.W.isFn K (.ref f_rrow) = true)
    (d_rrow : IsDef K "take_row" "CallReader.take_row" sRRow f_rrow)
    (a_sinit : PySem.W.findIn K (.ref CS) "__init__" = some (some (.ref f_sinit)))
    (i_sinit : PySem.W.isFn K (.ref f_sinit) = true)
    (d_sinit : IsDef K "__init__" "Station.__init__" sSInit f_sinit)
    (a_sadd : PySem.W.findIn K (.ref CS) "ks_add" = some (some (.ref f_sadd)))
    (i_sadd : PySem.W.isFn K (.ref f_sadd) = true)
    (d_sadd : IsDef K "ks_add" "Station.ks_add" sSAdd f_sadd)
    (a_smany : PySem.W.findIn K (.ref CS) "ks_many" = some (some (.ref f_smany)))
    (i_smany : PySem.W.isFn K (.ref f_smany) = true)
    (d_smany : IsDef K "ks_many" "Station.ks_many" sSMany f_smany)
    (a_shear : PySem.W.findIn K (.ref CS) "hear_of" = some (some (.ref f_shear)))
    (i_shear : PySem.W.isFn K (.ref f_shear) = true)
    (d_shear : IsDef K "hear_of" "Station.hear_of" sSHear f_shear)
    (a_show : PySem.W.findIn K (.ref CS) "how_many_at_most" = some (some (.ref f_show)))
    (i_show : PySem.W.isFn K (.ref f_show) = true)
    (d_show : IsDef K "how_many_at_most" "Station.how_many_at_most" sSHow f_show)
    (a_sheard : PySem.W.findIn K (.ref CS) "ks_heard" = some (some (.ref f_sheard)))
    (i_sheard : PySem.W.isFn K (.ref f_sheard) = true)
    (d_sheard : IsDef K "ks_heard" "Station.ks_heard" sSHeard f_sheard)
    (a_einit : PySem.W.findIn K (.ref CE) "__init__" = some (some (.ref f_einit)))
    (i_einit : PySem.W.isFn K (.ref f_einit) = true)
    (d_einit : IsDef K "__init__" "Search.__init__" sEInit f_einit)
    (a_ex : PySem.W.findIn K (.ref CE) "asked_x" = some (some (.ref f_ex)))
    (i_ex : PySem.W.isFn K (.ref f_ex) = true)
    (d_ex : IsDef K "asked_x" "Search.asked_x" sEX f_ex)
    (a_ewait : PySem.W.findIn K (.ref CE) "waits_for" = some (some (.ref f_ewait)))
    (i_ewait : PySem.W.isFn K (.ref f_ewait) = true)
    (d_ewait : IsDef K "waits_for" "Search.waits_for" sEWait f_ewait)
    (a_ehalve : PySem.W.findIn K (.ref CE) "halve" = some (some (.ref f_ehalve)))
    (i_ehalve : PySem.W.isFn K (.ref f_ehalve) = true)
    (d_ehalve : IsDef K "halve" "Search.halve" sEHalve f_ehalve)
    (a_eend : PySem.W.findIn K (.ref CE) "end_round" = some (some (.ref f_eend)))
    (i_eend : PySem.W.isFn K (.ref f_eend) = true)
    (d_eend : IsDef K "end_round" "Search.end_round" sEEnd f_eend)
    (a_ekeep : PySem.W.findIn K (.ref CE) "keep" = some (some (.ref f_ekeep)))
    (i_ekeep : PySem.W.isFn K (.ref f_ekeep) = true)
    (d_ekeep : IsDef K "keep" "Search.keep" sEKeep f_ekeep)
    (a_cinit : PySem.W.findIn K (.ref CC) "__init__" = some (some (.ref f_cinit)))
    (i_cinit : PySem.W.isFn K (.ref f_cinit) = true)
    (d_cinit : IsDef K "__init__" "Centre.__init__" sCInit f_cinit)
    (a_cis : PySem.W.findIn K (.ref CC) "is_searching" = some (some (.ref f_cis)))
    (i_cis : PySem.W.isFn K (.ref f_cis) = true)
    (d_cis : IsDef K "is_searching" "Centre.is_searching" sCIs f_cis)
    (a_cask : PySem.W.findIn K (.ref CC) "kc_ask" = some (some (.ref f_cask)))
    (i_cask : PySem.W.isFn K (.ref f_cask) = true)
    (d_cask : IsDef K "kc_ask" "Centre.kc_ask" sCAsk f_cask)
    (a_csay : PySem.W.findIn K (.ref CC) "kc_say" = some (some (.ref f_csay)))
    (i_csay : PySem.W.isFn K (.ref f_csay) = true)
    (d_csay : IsDef K "kc_say" "Centre.kc_say" sCSay f_csay)
    (a_cheard : PySem.W.findIn K (.ref CC) "kc_heard" = some (some (.ref f_cheard)))
    (i_cheard : PySem.W.isFn K (.ref f_cheard) = true)
    (d_cheard : IsDef K "kc_heard" "Centre.kc_heard" sCHeard f_cheard)
    (a_cfound : PySem.W.findIn K (.ref CC) "kc_found" = some (some (.ref f_cfound)))
    (i_cfound : PySem.W.isFn K (.ref f_cfound) = true)
    (d_cfound : IsDef K "kc_found" "Centre.kc_found" sCFound f_cfound)
    (a_linit : PySem.W.findIn K (.ref CL) "__init__" = some (some (.ref f_linit)))
    (i_linit : PySem.W.isFn K (.ref f_linit) = true)
    (d_linit : IsDef K "__init__" "Line.__init__" sLInit f_linit)
    (a_lks : PySem.W.findIn K (.ref CL) "ks_start" = some (some (.ref f_lks)))
    (i_lks : PySem.W.isFn K (.ref f_lks) = true)
    (d_lks : IsDef K "ks_start" "Line.ks_start" sLKs f_lks)
    (a_lkc : PySem.W.findIn K (.ref CL) "kc_start" = some (some (.ref f_lkc)))
    (i_lkc : PySem.W.isFn K (.ref f_lkc) = true)
    (d_lkc : IsDef K "kc_start" "Line.kc_start" sLKc f_lkc)
    (a_aos : PySem.W.nsIn K mainGlobals "answer_of_station" = some (some (.ref f_aos)))
    (d_aos : IsDef K "answer_of_station" "answer_of_station" sAoS f_aos)
    (a_aoc : PySem.W.nsIn K mainGlobals "answer_of_centre" = some (some (.ref f_aoc)))
    (d_aoc : IsDef K "answer_of_centre" "answer_of_centre" sAoC f_aoc)
    (a_next : PySem.W.nsIn K mainGlobals "answer_of_next" = some (some (.ref f_next)))
    (d_next : IsDef K "answer_of_next" "answer_of_next" sNext f_next)
    (a_ans : PySem.W.nsIn K mainGlobals "answers" = some (some (.ref f_ans)))
    (d_ans : IsDef K "answers" "answers" sAns f_ans)
    : ∃ fd : FuncData, (∀ (s : Shared) (us : List Value), us.length = (["calls"] : List Str).length → BindsTo s fd ⟨us, []⟩ ((["calls"] : List Str).zip us)) ∧ ∀ base : Heap, K.In base → base.Ns mainGlobals mg → FnOk P w K mg base CX0 8 fa fd ["calls"] (spAns K) := by
  have e := hfa.symm.trans (PySem.W.mg_of X G a_ans)
  cases e
  have TR : TRd K CR := ⟨⟨pg_CR, hd_CR, po_CR, sa_CR⟩, n_CR_calls, n_CR_place⟩
  have TS : TSt K CS := ⟨⟨pg_CS, hd_CS, po_CS, sa_CS⟩, n_CS_me, n_CS_counting, n_CS_later, n_CS_last_search⟩
  have TE : TSe K CE := ⟨⟨pg_CE, hd_CE, po_CE, sa_CE⟩, n_CE_number, n_CE_k, n_CE_stations, n_CE_round_number, n_CE_lo, n_CE_hi, n_CE_told, n_CE_over, n_CE_found⟩
  have TC : TCe K CC := ⟨⟨pg_CC, hd_CC, po_CC, sa_CC⟩, n_CC_stations, n_CC_searches, n_CC_last_begun⟩
  have TL : TLn K CL := ⟨⟨pg_CL, hd_CL, po_CL, sa_CL⟩, n_CL_stations, n_CL_centre⟩
  have k_HIGHEST_STATION : Cn mg "HIGHEST_STATION" (15) := ⟨_, PySem.W.mg_of X G c_HIGHEST_STATION⟩
  have k_MOST_STATIONS : Cn mg "MOST_STATIONS" (16) := ⟨_, PySem.W.mg_of X G c_MOST_STATIONS⟩
  have k_MOST_NUMBERS : Cn mg "MOST_NUMBERS" (4096) := ⟨_, PySem.W.mg_of X G c_MOST_NUMBERS⟩
  have k_LAST_ROUND : Cn mg "LAST_ROUND" (32) := ⟨_, PySem.W.mg_of X G c_LAST_ROUND⟩
  have k_GREATEST_NUMBER : Cn mg "GREATEST_NUMBER" (4294967295) := ⟨_, PySem.W.mg_of X G c_GREATEST_NUMBER⟩
  have k_MOST_SEARCHES : Cn mg "MOST_SEARCHES" (4294967295) := ⟨_, PySem.W.mg_of X G c_MOST_SEARCHES⟩
  have k_POLYNOMIAL : Cn mg "POLYNOMIAL" (2197175160) := ⟨_, PySem.W.mg_of X G c_POLYNOMIAL⟩
  have k_ALL_ONES : Cn mg "ALL_ONES" (4294967295) := ⟨_, PySem.W.mg_of X G c_ALL_ONES⟩
  have k_QUESTION : Cn mg "QUESTION" (1) := ⟨_, PySem.W.mg_of X G c_QUESTION⟩
  have k_ANSWER : Cn mg "ANSWER" (2) := ⟨_, PySem.W.mg_of X G c_ANSWER⟩
  have k_STATION_AT : Cn mg "STATION_AT" (1) := ⟨_, PySem.W.mg_of X G c_STATION_AT⟩
  have k_SEARCH_AT : Cn mg "SEARCH_AT" (4) := ⟨_, PySem.W.mg_of X G c_SEARCH_AT⟩
  have k_ROUND_AT : Cn mg "ROUND_AT" (8) := ⟨_, PySem.W.mg_of X G c_ROUND_AT⟩
  have k_LAST_FIELD_AT : Cn mg "LAST_FIELD_AT" (12) := ⟨_, PySem.W.mg_of X G c_LAST_FIELD_AT⟩
  have k_CHECK_AT : Cn mg "CHECK_AT" (16) := ⟨_, PySem.W.mg_of X G c_CHECK_AT⟩
  have k_NOT_SO_MANY : Cn mg "NOT_SO_MANY" (-2) := ⟨_, PySem.W.mg_of X G c_NOT_SO_MANY⟩
  have k_NOT_NOW : Cn mg "NOT_NOW" (-11) := ⟨_, PySem.W.mg_of X G c_NOT_NOW⟩
  have k_SEARCH_IS_OLD : Cn mg "SEARCH_IS_OLD" (-13) := ⟨_, PySem.W.mg_of X G c_SEARCH_IS_OLD⟩
  have k_OUT_OF_BOUNDS : Cn mg "OUT_OF_BOUNDS" (-22) := ⟨_, PySem.W.mg_of X G c_OUT_OF_BOUNDS⟩
  have k_NO_ROOM : Cn mg "NO_ROOM" (-28) := ⟨_, PySem.W.mg_of X G c_NO_ROOM⟩
  have k_NOT_RIGHT : Cn mg "NOT_RIGHT" (-71) := ⟨_, PySem.W.mg_of X G c_NOT_RIGHT⟩
  have k_KS_START : Cn mg "KS_START" (0) := ⟨_, PySem.W.mg_of X G c_KS_START⟩
  have k_KS_ADD : Cn mg "KS_ADD" (1) := ⟨_, PySem.W.mg_of X G c_KS_ADD⟩
  have k_KS_HEARD : Cn mg "KS_HEARD" (2) := ⟨_, PySem.W.mg_of X G c_KS_HEARD⟩
  have k_KS_MANY : Cn mg "KS_MANY" (3) := ⟨_, PySem.W.mg_of X G c_KS_MANY⟩
  have k_KC_START : Cn mg "KC_START" (4) := ⟨_, PySem.W.mg_of X G c_KC_START⟩
  have k_KC_ASK : Cn mg "KC_ASK" (5) := ⟨_, PySem.W.mg_of X G c_KC_ASK⟩
  have k_KC_SAY : Cn mg "KC_SAY" (6) := ⟨_, PySem.W.mg_of X G c_KC_SAY⟩
  have k_KC_HEARD : Cn mg "KC_HEARD" (7) := ⟨_, PySem.W.mg_of X G c_KC_HEARD⟩
  have k_KC_FOUND : Cn mg "KC_FOUND" (8) := ⟨_, PySem.W.mg_of X G c_KC_FOUND⟩
  have b_len : mg "len" = none := PySem.W.mg_none_of X G e_len
  have b_range : mg "range" = none := PySem.W.mg_none_of X G e_range
  have b_sum : mg "sum" = none := PySem.W.mg_none_of X G e_sum
  obtain ⟨oc, od, sl, kV, dc, pm, an, cd, ct, l, c, k⟩ := d_ans
  refine ⟨PySem.W.fnOf "answers" "answers" (defArgs sAns) (defBody sAns) (defScope sAns) .none kV dc pm an cd ct, fun s us hu => us1 (C := fun us => BindsTo s _ ⟨us, []⟩ ((["calls"] : List Str).zip us)) hu fun _ => .of_eq rfl, fun base _ _ => ?_⟩
  have g_byte : Fn P w K mg base 1 "with_byte" ["check", "byte"] spByte := fn_of_def X G a_byte d_byte (fun fd F => bind2 F fun _ _ _ _ _ _ _ _ => rfl) (fun fd F => ok_byte F b_range k_POLYNOMIAL)
  have g_crc : Fn P w K mg base 2 "crc32c" ["numbers"] (spCrc K) := fn_of_def X G a_crc d_crc (fun fd F => bind1 F fun _ _ _ _ _ _ _ => rfl) (fun fd F => ok_crc F g_byte k_ALL_ONES)
  have g_four : Fn P w K mg base 1 "four_bytes" ["number"] spFour := fn_of_def X G a_four d_four (fun fd F => bind1 F fun _ _ _ _ _ _ _ => rfl) (fun fd F => ok_four F)
  have g_num : Fn P w K mg base 1 "number_at" ["message", "place"] (spNum K) := fn_of_def X G a_num d_num (fun fd F => bind2 F fun _ _ _ _ _ _ _ _ => rfl) (fun fd F => ok_num F)
  have g_stn : Fn P w K mg base 1 "station_of" ["answer"] (spStn K) := fn_of_def X G a_stn d_stn (fun fd F => bind1 F fun _ _ _ _ _ _ _ => rfl) (fun fd F => ok_stn F k_STATION_AT)
  have g_srch : Fn P w K mg base 2 "search_of" ["message"] (spAt K 4) := fn_of_def X G a_srch d_srch (fun fd F => bind1 F fun _ _ _ _ _ _ _ => rfl) (fun fd F => ok_search F g_num k_SEARCH_AT)
  have g_rnd : Fn P w K mg base 2 "round_of" ["message"] (spAt K 8) := fn_of_def X G a_rnd d_rnd (fun fd F => bind1 F fun _ _ _ _ _ _ _ => rfl) (fun fd F => ok_round F g_num k_ROUND_AT)
  have g_xof : Fn P w K mg base 2 "x_of" ["question"] (spAt K 12) := fn_of_def X G a_xof d_xof (fun fd F => bind1 F fun _ _ _ _ _ _ _ => rfl) (fun fd F => ok_x F g_num k_LAST_FIELD_AT)
  have g_how : Fn P w K mg base 2 "how_many_of" ["answer"] (spAt K 12) := fn_of_def X G a_how d_how (fun fd F => bind1 F fun _ _ _ _ _ _ _ => rfl) (fun fd F => ok_how F g_num k_LAST_FIELD_AT)
  have g_chk : Fn P w K mg base 3 "has_right_check" ["message"] (spChk K) := fn_of_def X G a_chk d_chk (fun fd F => bind1 F fun _ _ _ _ _ _ _ => rfl) (fun fd F => ok_chk F g_num g_crc k_CHECK_AT)
  have g_sr : Fn P w K mg base 3 "has_right_search_and_round" ["message"] (spSR K) := fn_of_def X G a_sr d_sr (fun fd F => bind1 F fun _ _ _ _ _ _ _ => rfl) (fun fd F => ok_sr F g_srch g_rnd k_LAST_ROUND)
  have g_isq : Fn P w K mg base 4 "is_right_question" ["message"] (spIsQ K) := fn_of_def X G a_isq d_isq (fun fd F => bind1 F fun _ _ _ _ _ _ _ => rfl) (fun fd F => ok_isq F g_sr g_chk k_SEARCH_AT k_QUESTION)
  have g_isa : Fn P w K mg base 4 "is_right_answer" ["message"] (spIsA K) := fn_of_def X G a_isa d_isa (fun fd F => bind1 F fun _ _ _ _ _ _ _ => rfl) (fun fd F => ok_isa F g_stn g_how g_sr g_chk k_SEARCH_AT k_ANSWER k_HIGHEST_STATION k_MOST_NUMBERS)
  have g_wr : Fn P w K mg base 3 "written" ["head", "search", "round_number", "last_field"] spWr := fn_of_def X G a_wr d_wr (fun fd F => bind4 F fun _ _ _ _ _ _ _ _ _ _ => rfl) (fun fd F => ok_wr F g_four g_crc)
  have g_wq : Fn P w K mg base 4 "written_question" ["search", "round_number", "x"] spWQ := fn_of_def X G a_wq d_wq (fun fd F => bind3 F fun _ _ _ _ _ _ _ _ _ => rfl) (fun fd F => ok_wq F g_wr k_QUESTION)
  have g_wa : Fn P w K mg base 4 "written_answer" ["station", "search", "round_number", "how_many"] spWA := fn_of_def X G a_wa d_wa (fun fd F => bind4 F fun _ _ _ _ _ _ _ _ _ _ => rfl) (fun fd F => ok_wa F g_wr k_ANSWER)
  have g_rinit : Mr P w K mg base 1 CR "CallReader" ["self", "calls"] (spRInit CR) := mr_of_def X G a_CR mk_CR kc_CR a_rinit i_rinit d_rinit (fun fd F => bind2 F fun _ _ _ _ _ _ _ _ => rfl) (fun fd F => ok_rinit F TR)
  have g_rmore : Mt P w K mg base 1 CR "has_more" ["self"] (spRMore K CR) := mt_of_def a_rmore i_rmore d_rmore (fun fd F => bind1 F fun _ _ _ _ _ _ _ => rfl) (fun fd F => ok_rmore F TR b_len)
  have g_rnum : Mt P w K mg base 1 CR "take_number" ["self"] (spRNum K CR) := mt_of_def a_rnum i_rnum d_rnum (fun fd F => bind1 F fun _ _ _ _ _ _ _ => rfl) (fun fd F => ok_rnum F TR)
  have g_rrow : Mt P w K mg base 2 CR "take_row" ["self"] (spRRow K CR) := mt_of_def a_rrow i_rrow d_rrow (fun fd F => bind1 F fun _ _ _ _ _ _ _ => rfl) (fun fd F => ok_rrow F TR g_rnum)
  have g_sinit : Mr P w K mg base 1 CS "Station" ["self", "me"] (spSInit CS) := mr_of_def X G a_CS mk_CS kc_CS a_sinit i_sinit d_sinit (fun fd F => bind2 F fun _ _ _ _ _ _ _ _ => rfl) (fun fd F => ok_sinit F TS)
  have g_sadd : Mt P w K mg base 1 CS "ks_add" ["self", "x"] (spSAdd CS) := mt_of_def a_sadd i_sadd d_sadd (fun fd F => bind2 F fun _ _ _ _ _ _ _ _ => rfl) (fun fd F => ok_sadd F TS b_len k_MOST_NUMBERS k_NO_ROOM)
  have g_smany : Mt P w K mg base 1 CS "ks_many" ["self"] (spSMany CS) := mt_of_def a_smany i_smany d_smany (fun fd F => bind1 F fun _ _ _ _ _ _ _ => rfl) (fun fd F => ok_smany F TS b_len)
  have g_shear : Mt P w K mg base 1 CS "hear_of" ["self", "search"] (spSHear CS) := mt_of_def a_shear i_shear d_shear (fun fd F => bind2 F fun _ _ _ _ _ _ _ _ => rfl) (fun fd F => ok_shear F TS)
  have g_show : Mt P w K mg base 1 CS "how_many_at_most" ["self", "x"] (spSHow CS) := mt_of_def a_show i_show d_show (fun fd F => bind2 F fun _ _ _ _ _ _ _ _ => rfl) (fun fd F => ok_show F TS b_len)
  have g_sheard : Mt P w K mg base 5 CS "ks_heard" ["self", "question"] (spSHeard K CS) := mt_of_def a_sheard i_sheard d_sheard (fun fd F => bind2 F fun _ _ _ _ _ _ _ _ => rfl) (fun fd F => ok_sheard F TS g_isq g_srch g_rnd g_xof g_wa g_shear g_show k_NOT_RIGHT k_SEARCH_IS_OLD)
  have g_einit : Mr P w K mg base 1 CE "Search" ["self", "number", "k", "stations"] (spEInit CE) := mr_of_def X G a_CE mk_CE kc_CE a_einit i_einit d_einit (fun fd F => bind4 F fun _ _ _ _ _ _ _ _ _ _ => rfl) (fun fd F => ok_einit F TE k_GREATEST_NUMBER)
  have g_ex : Mt P w K mg base 1 CE "asked_x" ["self"] (spEX CE) := mt_of_def a_ex i_ex d_ex (fun fd F => bind1 F fun _ _ _ _ _ _ _ => rfl) (fun fd F => ok_ex F TE k_GREATEST_NUMBER)
  have g_ewait : Mt P w K mg base 1 CE "waits_for" ["self", "search", "round_number", "station"] (spEWait CE) := mt_of_def a_ewait i_ewait d_ewait (fun fd F => bind4 F fun _ _ _ _ _ _ _ _ _ _ => rfl) (fun fd F => ok_ewait F TE)
  have g_ehalve : Mt P w K mg base 2 CE "halve" ["self", "more_than_k"] (spEHalve CE) := mt_of_def a_ehalve i_ehalve d_ehalve (fun fd F => bind2 F fun _ _ _ _ _ _ _ _ => rfl) (fun fd F => ok_ehalve F TE g_ex)
  have g_eend : Mt P w K mg base 3 CE "end_round" ["self", "more_than_k"] (spEEnd CE) := mt_of_def a_eend i_eend d_eend (fun fd F => bind2 F fun _ _ _ _ _ _ _ _ => rfl) (fun fd F => ok_eend F TE g_ehalve)
  have g_ekeep : Mt P w K mg base 4 CE "keep" ["self", "station", "how_many"] (spEKeep CE) := mt_of_def a_ekeep i_ekeep d_ekeep (fun fd F => bind3 F fun _ _ _ _ _ _ _ _ _ => rfl) (fun fd F => ok_ekeep F TE g_eend b_len b_sum)
  have g_cinit : Mr P w K mg base 1 CC "Centre" ["self", "stations"] (spCInit CC CE) := mr_of_def X G a_CC mk_CC kc_CC a_cinit i_cinit d_cinit (fun fd F => bind2 F fun _ _ _ _ _ _ _ _ => rfl) (fun fd F => ok_cinit F TC)
  have g_cis : Mt P w K mg base 1 CC "is_searching" ["self"] (spCIs CC CE) := mt_of_def a_cis i_cis d_cis (fun fd F => bind1 F fun _ _ _ _ _ _ _ => rfl) (fun fd F => ok_cis F TC TE)
  have g_cask : Mt P w K mg base 3 CC "kc_ask" ["self", "k"] (spCAsk CC CE) := mt_of_def a_cask i_cask d_cask (fun fd F => bind2 F fun _ _ _ _ _ _ _ _ => rfl) (fun fd F => ok_cask F TC g_einit k_MOST_SEARCHES k_NO_ROOM)
  have g_csay : Mt P w K mg base 5 CC "kc_say" ["self"] (spCSay CC CE) := mt_of_def a_csay i_csay d_csay (fun fd F => bind1 F fun _ _ _ _ _ _ _ => rfl) (fun fd F => ok_csay F TC TE g_cis g_ex g_wq k_NOT_NOW)
  have g_cheard : Mt P w K mg base 5 CC "kc_heard" ["self", "answer"] (spCHeard K CC CE) := mt_of_def a_cheard i_cheard d_cheard (fun fd F => bind2 F fun _ _ _ _ _ _ _ _ => rfl) (fun fd F => ok_cheard F TC TE g_cis g_ewait g_ekeep g_isa g_srch g_rnd g_stn g_how k_NOT_RIGHT)
  have g_cfound : Mt P w K mg base 2 CC "kc_found" ["self"] (spCFound CC CE) := mt_of_def a_cfound i_cfound d_cfound (fun fd F => bind1 F fun _ _ _ _ _ _ _ => rfl) (fun fd F => ok_cfound F TC TE g_cis k_NOT_NOW k_NOT_SO_MANY)
  have g_linit : Mr P w K mg base 1 CL "Line" ["self"] (spLInit (⟨CL, CS, CC, CE, CR⟩ : Four)) := mr_of_def X G a_CL mk_CL kc_CL a_linit i_linit d_linit (fun fd F => bind1 F fun _ _ _ _ _ _ _ => rfl) (fun fd F => ok_linit F TL)
  have g_lks : Mt P w K mg base 3 CL "ks_start" ["self", "place", "me"] (spLKs (⟨CL, CS, CC, CE, CR⟩ : Four)) := mt_of_def a_lks i_lks d_lks (fun fd F => bind3 F fun _ _ _ _ _ _ _ _ _ => rfl) (fun fd F => ok_lks F TL g_sinit k_HIGHEST_STATION k_OUT_OF_BOUNDS)
  have g_lkc : Mt P w K mg base 3 CL "kc_start" ["self", "stations"] (spLKc (⟨CL, CS, CC, CE, CR⟩ : Four)) := mt_of_def a_lkc i_lkc d_lkc (fun fd F => bind2 F fun _ _ _ _ _ _ _ _ => rfl) (fun fd F => ok_lkc F TL g_cinit k_MOST_STATIONS k_OUT_OF_BOUNDS)
  have g_aos : Fn P w K mg base 6 "answer_of_station" ["call", "station", "reader"] (spAoS (⟨CL, CS, CC, CE, CR⟩ : Four) K) := fn_of_def X G a_aos d_aos (fun fd F => bind3 F fun _ _ _ _ _ _ _ _ _ => rfl) (fun fd F => ok_aos F TS TR g_rnum g_rrow g_sadd g_sheard g_smany k_KS_ADD k_KS_HEARD)
  have g_aoc : Fn P w K mg base 6 "answer_of_centre" ["call", "centre", "reader"] (spAoC (⟨CL, CS, CC, CE, CR⟩ : Four) K) := fn_of_def X G a_aoc d_aoc (fun fd F => bind3 F fun _ _ _ _ _ _ _ _ _ => rfl) (fun fd F => ok_aoc F TC TR g_rnum g_rrow g_cask g_csay g_cheard g_cfound k_KC_ASK k_KC_SAY k_KC_HEARD)
  have g_next : Fn P w K mg base 7 "answer_of_next" ["reader", "line"] (spNext (⟨CL, CS, CC, CE, CR⟩ : Four) K) := fn_of_def X G a_next d_next (fun fd F => bind2 F fun _ _ _ _ _ _ _ _ => rfl) (fun fd F => ok_next F TL TR g_rnum g_lks g_lkc g_aos g_aoc k_KS_START k_KS_ADD k_KS_HEARD k_KS_MANY k_KC_START k_KC_ASK k_KC_SAY k_KC_HEARD k_KC_FOUND)
  exact ok_ans (Z := (⟨CL, CS, CC, CE, CR⟩ : Four)) (fun_mk (st := sAns) l c k) TR g_rinit g_linit g_rmore g_next b_len
end My
theorem PySem.W.Fast.te12462083570057807847 : True := trivial
def PySem.W.Fast.tw11669261107473629334 : PySem.Program := PySem.Challenge.pw_middleone_s01_answers
theorem PySem.W.Fast.te11669261107473629334 : PySem.Challenge.pw_middleone_s01_answers = PySem.W.Fast.tw11669261107473629334 := rfl
open PySem PySem.W PyProof.Rows
set_option maxRecDepth 100000 in
set_option maxHeartbeats 0 in
theorem PySem.Challenge.cw_middleone_s01_answers_holds : PySem.Challenge.rw_middleone_s01_answers.Holds := by
  w_on; k_headS; (case hw => exact ⟨[.list [.int 4, .int 0, .int 1]], by decide +kernel, by decide +kernel⟩)
  k_fillS
  refine L2.walk_specK (r := PySem.Challenge.rw_middleone_s01_answers) (k := 8) (CX := L2.CX0) (ps := ["calls"]) (sp := My.spAns) (by decide +kernel) rfl rfl ⟨rfl, by decide, by decide⟩ (fun w h Y => PySem.W.kIn_of Y) ?F ?S (fun _ _ _ _ z => z)
  case F =>
    intro w mg fa h Y KX G hmg
    refine' My.all_mk KX G hmg ?a_CR ?a_CS ?a_CE ?a_CC ?a_CL ?pg_CR ?hd_CR ?po_CR ?sa_CR ?mk_CR ?kc_CR ?n_CR_calls ?n_CR_place ?pg_CS ?hd_CS ?po_CS ?sa_CS ?mk_CS ?kc_CS ?n_CS_me ?n_CS_counting ?n_CS_later ?n_CS_last_search ?pg_CE ?hd_CE ?po_CE ?sa_CE ?mk_CE ?kc_CE ?n_CE_number ?n_CE_k ?n_CE_stations ?n_CE_round_number ?n_CE_lo ?n_CE_hi ?n_CE_told ?n_CE_over ?n_CE_found ?pg_CC ?hd_CC ?po_CC ?sa_CC ?mk_CC ?kc_CC ?n_CC_stations ?n_CC_searches ?n_CC_last_begun ?pg_CL ?hd_CL ?po_CL ?sa_CL ?mk_CL ?kc_CL ?n_CL_stations ?n_CL_centre ?c_HIGHEST_STATION ?c_MOST_STATIONS ?c_MOST_NUMBERS ?c_LAST_ROUND ?c_GREATEST_NUMBER ?c_MOST_SEARCHES ?c_POLYNOMIAL ?c_ALL_ONES ?c_QUESTION ?c_ANSWER ?c_STATION_AT ?c_SEARCH_AT ?c_ROUND_AT ?c_LAST_FIELD_AT ?c_CHECK_AT ?c_NOT_SO_MANY ?c_NOT_NOW ?c_SEARCH_IS_OLD ?c_OUT_OF_BOUNDS ?c_NO_ROOM ?c_NOT_RIGHT ?c_KS_START ?c_KS_ADD ?c_KS_HEARD ?c_KS_MANY ?c_KC_START ?c_KC_ASK ?c_KC_SAY ?c_KC_HEARD ?c_KC_FOUND ?e_len ?e_range ?e_sum ?a_byte ?d_byte ?a_crc ?d_crc ?a_four ?d_four ?a_num ?d_num ?a_stn ?d_stn ?a_srch ?d_srch ?a_rnd ?d_rnd ?a_xof ?d_xof ?a_how ?d_how ?a_chk ?d_chk ?a_sr ?d_sr ?a_isq ?d_isq ?a_isa ?d_isa ?a_wr ?d_wr ?a_wq ?d_wq ?a_wa ?d_wa ?a_rinit ?i_rinit ?d_rinit ?a_rmore ?i_rmore ?d_rmore ?a_rnum ?i_rnum ?d_rnum ?a_rrow ?i_rrow ?d_rrow ?a_sinit ?i_sinit ?d_sinit ?a_sadd ?i_sadd ?d_sadd ?a_smany ?i_smany ?d_smany ?a_shear ?i_shear ?d_shear ?a_show ?i_show ?d_show ?a_sheard ?i_sheard ?d_sheard ?a_einit ?i_einit ?d_einit ?a_ex ?i_ex ?d_ex ?a_ewait ?i_ewait ?d_ewait ?a_ehalve ?i_ehalve ?d_ehalve ?a_eend ?i_eend ?d_eend ?a_ekeep ?i_ekeep ?d_ekeep ?a_cinit ?i_cinit ?d_cinit ?a_cis ?i_cis ?d_cis ?a_cask ?i_cask ?d_cask ?a_csay ?i_csay ?d_csay ?a_cheard ?i_cheard ?d_cheard ?a_cfound ?i_cfound ?d_cfound ?a_linit ?i_linit ?d_linit ?a_lks ?i_lks ?d_lks ?a_lkc ?i_lkc ?d_lkc ?a_aos ?d_aos ?a_aoc ?d_aoc ?a_next ?d_next ?a_ans ?d_ans
    case a_CR => k_is
    case a_CS => k_is
    case a_CE => k_is
    case a_CC => k_is
    case a_CL => k_is
    case pg_CR => k_is
    case hd_CR => k_is
    case po_CR => k_is
    case sa_CR => k_is
    case mk_CR => k_is
    case kc_CR => k_is
    case n_CR_calls => k_is
    case n_CR_place => k_is
    case pg_CS => k_is
    case hd_CS => k_is
    case po_CS => k_is
    case sa_CS => k_is
    case mk_CS => k_is
    case kc_CS => k_is
    case n_CS_me => k_is
    case n_CS_counting => k_is
    case n_CS_later => k_is
    case n_CS_last_search => k_is
    case pg_CE => k_is
    case hd_CE => k_is
    case po_CE => k_is
    case sa_CE => k_is
    case mk_CE => k_is
    case kc_CE => k_is
    case n_CE_number => k_is
    case n_CE_k => k_is
    case n_CE_stations => k_is
    case n_CE_round_number => k_is
    case n_CE_lo => k_is
    case n_CE_hi => k_is
    case n_CE_told => k_is
    case n_CE_over => k_is
    case n_CE_found => k_is
    case pg_CC => k_is
    case hd_CC => k_is
    case po_CC => k_is
    case sa_CC => k_is
    case mk_CC => k_is
    case kc_CC => k_is
    case n_CC_stations => k_is
    case n_CC_searches => k_is
    case n_CC_last_begun => k_is
    case pg_CL => k_is
    case hd_CL => k_is
    case po_CL => k_is
    case sa_CL => k_is
    case mk_CL => k_is
    case kc_CL => k_is
    case n_CL_stations => k_is
    case n_CL_centre => k_is
    case c_HIGHEST_STATION => k_is
    case c_MOST_STATIONS => k_is
    case c_MOST_NUMBERS => k_is
    case c_LAST_ROUND => k_is
    case c_GREATEST_NUMBER => k_is
    case c_MOST_SEARCHES => k_is
    case c_POLYNOMIAL => k_is
    case c_ALL_ONES => k_is
    case c_QUESTION => k_is
    case c_ANSWER => k_is
    case c_STATION_AT => k_is
    case c_SEARCH_AT => k_is
    case c_ROUND_AT => k_is
    case c_LAST_FIELD_AT => k_is
    case c_CHECK_AT => k_is
    case c_NOT_SO_MANY => k_is
    case c_NOT_NOW => k_is
    case c_SEARCH_IS_OLD => k_is
    case c_OUT_OF_BOUNDS => k_is
    case c_NO_ROOM => k_is
    case c_NOT_RIGHT => k_is
    case c_KS_START => k_is
    case c_KS_ADD => k_is
    case c_KS_HEARD => k_is
    case c_KS_MANY => k_is
    case c_KC_START => k_is
    case c_KC_ASK => k_is
    case c_KC_SAY => k_is
    case c_KC_HEARD => k_is
    case c_KC_FOUND => k_is
    case e_len => k_is
    case e_range => k_is
    case e_sum => k_is
    case a_byte => k_is
    case d_byte => refine' My.IsDef.by_ ?l ?c ?k; (case l => k_is); (case c => k_is); (case k => k_is)
    case a_crc => k_is
    case d_crc => refine' My.IsDef.by_ ?l ?c ?k; (case l => k_is); (case c => k_is); (case k => k_is)
    case a_four => k_is
    case d_four => refine' My.IsDef.by_ ?l ?c ?k; (case l => k_is); (case c => k_is); (case k => k_is)
    case a_num => k_is
    case d_num => refine' My.IsDef.by_ ?l ?c ?k; (case l => k_is); (case c => k_is); (case k => k_is)
    case a_stn => k_is
    case d_stn => refine' My.IsDef.by_ ?l ?c ?k; (case l => k_is); (case c => k_is); (case k => k_is)
    case a_srch => k_is
    case d_srch => refine' My.IsDef.by_ ?l ?c ?k; (case l => k_is); (case c => k_is); (case k => k_is)
    case a_rnd => k_is
    case d_rnd => refine' My.IsDef.by_ ?l ?c ?k; (case l => k_is); (case c => k_is); (case k => k_is)
    case a_xof => k_is
    case d_xof => refine' My.IsDef.by_ ?l ?c ?k; (case l => k_is); (case c => k_is); (case k => k_is)
    case a_how => k_is
    case d_how => refine' My.IsDef.by_ ?l ?c ?k; (case l => k_is); (case c => k_is); (case k => k_is)
    case a_chk => k_is
    case d_chk => refine' My.IsDef.by_ ?l ?c ?k; (case l => k_is); (case c => k_is); (case k => k_is)
    case a_sr => k_is
    case d_sr => refine' My.IsDef.by_ ?l ?c ?k; (case l => k_is); (case c => k_is); (case k => k_is)
    case a_isq => k_is
    case d_isq => refine' My.IsDef.by_ ?l ?c ?k; (case l => k_is); (case c => k_is); (case k => k_is)
    case a_isa => k_is
    case d_isa => refine' My.IsDef.by_ ?l ?c ?k; (case l => k_is); (case c => k_is); (case k => k_is)
    case a_wr => k_is
    case d_wr => refine' My.IsDef.by_ ?l ?c ?k; (case l => k_is); (case c => k_is); (case k => k_is)
    case a_wq => k_is
    case d_wq => refine' My.IsDef.by_ ?l ?c ?k; (case l => k_is); (case c => k_is); (case k => k_is)
    case a_wa => k_is
    case d_wa => refine' My.IsDef.by_ ?l ?c ?k; (case l => k_is); (case c => k_is); (case k => k_is)
    case a_rinit => k_is
    case i_rinit => k_is
    case d_rinit => refine' My.IsDef.by_ ?l ?c ?k; (case l => k_is); (case c => k_is); (case k => k_is)
    case a_rmore => k_is
    case i_rmore => k_is
    case d_rmore => refine' My.IsDef.by_ ?l ?c ?k; (case l => k_is); (case c => k_is); (case k => k_is)
    case a_rnum => k_is
    case i_rnum => k_is
    case d_rnum => refine' My.IsDef.by_ ?l ?c ?k; (case l => k_is); (case c => k_is); (case k => k_is)
    case a_rrow => k_is
    case i_rrow => k_is
    case d_rrow => refine' My.IsDef.by_ ?l ?c ?k; (case l => k_is); (case c => k_is); (case k => k_is)
    case a_sinit => k_is
    case i_sinit => k_is
    case d_sinit => refine' My.IsDef.by_ ?l ?c ?k; (case l => k_is); (case c => k_is); (case k => k_is)
    case a_sadd => k_is
    case i_sadd => k_is
    case d_sadd => refine' My.IsDef.by_ ?l ?c ?k; (case l => k_is); (case c => k_is); (case k => k_is)
    case a_smany => k_is
    case i_smany => k_is
    case d_smany => refine' My.IsDef.by_ ?l ?c ?k; (case l => k_is); (case c => k_is); (case k => k_is)
    case a_shear => k_is
    case i_shear => k_is
    case d_shear => refine' My.IsDef.by_ ?l ?c ?k; (case l => k_is); (case c => k_is); (case k => k_is)
    case a_show => k_is
    case i_show => k_is
    case d_show => refine' My.IsDef.by_ ?l ?c ?k; (case l => k_is); (case c => k_is); (case k => k_is)
    case a_sheard => k_is
    case i_sheard => k_is
    case d_sheard => refine' My.IsDef.by_ ?l ?c ?k; (case l => k_is); (case c => k_is); (case k => k_is)
    case a_einit => k_is
    case i_einit => k_is
    case d_einit => refine' My.IsDef.by_ ?l ?c ?k; (case l => k_is); (case c => k_is); (case k => k_is)
    case a_ex => k_is
    case i_ex => k_is
    case d_ex => refine' My.IsDef.by_ ?l ?c ?k; (case l => k_is); (case c => k_is); (case k => k_is)
    case a_ewait => k_is
    case i_ewait => k_is
    case d_ewait => refine' My.IsDef.by_ ?l ?c ?k; (case l => k_is); (case c => k_is); (case k => k_is)
    case a_ehalve => k_is
    case i_ehalve => k_is
    case d_ehalve => refine' My.IsDef.by_ ?l ?c ?k; (case l => k_is); (case c => k_is); (case k => k_is)
    case a_eend => k_is
    case i_eend => k_is
    case d_eend => refine' My.IsDef.by_ ?l ?c ?k; (case l => k_is); (case c => k_is); (case k => k_is)
    case a_ekeep => k_is
    case i_ekeep => k_is
    case d_ekeep => refine' My.IsDef.by_ ?l ?c ?k; (case l => k_is); (case c => k_is); (case k => k_is)
    case a_cinit => k_is
    case i_cinit => k_is
    case d_cinit => refine' My.IsDef.by_ ?l ?c ?k; (case l => k_is); (case c => k_is); (case k => k_is)
    case a_cis => k_is
    case i_cis => k_is
    case d_cis => refine' My.IsDef.by_ ?l ?c ?k; (case l => k_is); (case c => k_is); (case k => k_is)
    case a_cask => k_is
    case i_cask => k_is
    case d_cask => refine' My.IsDef.by_ ?l ?c ?k; (case l => k_is); (case c => k_is); (case k => k_is)
    case a_csay => k_is
    case i_csay => k_is
    case d_csay => refine' My.IsDef.by_ ?l ?c ?k; (case l => k_is); (case c => k_is); (case k => k_is)
    case a_cheard => k_is
    case i_cheard => k_is
    case d_cheard => refine' My.IsDef.by_ ?l ?c ?k; (case l => k_is); (case c => k_is); (case k => k_is)
    case a_cfound => k_is
    case i_cfound => k_is
    case d_cfound => refine' My.IsDef.by_ ?l ?c ?k; (case l => k_is); (case c => k_is); (case k => k_is)
    case a_linit => k_is
    case i_linit => k_is
    case d_linit => refine' My.IsDef.by_ ?l ?c ?k; (case l => k_is); (case c => k_is); (case k => k_is)
    case a_lks => k_is
    case i_lks => k_is
    case d_lks => refine' My.IsDef.by_ ?l ?c ?k; (case l => k_is); (case c => k_is); (case k => k_is)
    case a_lkc => k_is
    case i_lkc => k_is
    case d_lkc => refine' My.IsDef.by_ ?l ?c ?k; (case l => k_is); (case c => k_is); (case k => k_is)
    case a_aos => k_is
    case d_aos => refine' My.IsDef.by_ ?l ?c ?k; (case l => k_is); (case c => k_is); (case k => k_is)
    case a_aoc => k_is
    case d_aoc => refine' My.IsDef.by_ ?l ?c ?k; (case l => k_is); (case c => k_is); (case k => k_is)
    case a_next => k_is
    case d_next => refine' My.IsDef.by_ ?l ?c ?k; (case l => k_is); (case c => k_is); (case k => k_is)
    case a_ans => k_is
    case d_ans => refine' My.IsDef.by_ ?l ?c ?k; (case l => k_is); (case c => k_is); (case k => k_is)
  case S =>
    intro K H xs a hO hwi hask hx
    cases hx with
    | cons h1 h2 =>
      cases h2
      cases h1 with
      | lst hs ha =>
        have e := L2.ints_dw a.1 _ ha
        subst e
        exact ⟨_, a.1, rfl, hs, hask, fun H' p hp => .lst (L2.SqL.of hp) (L2.dw_ints _)⟩
#print axioms PySem.Challenge.cw_middleone_s01_answers_holds
