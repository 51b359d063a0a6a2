import PyProof.Rows.All
import Wide.All
import OpenK.AllK
import Wide.FinOn
import HandS.ForMost
import HandS.Wide
import HandS.Walk
import HandS.IsInst
import HandS.TupAny
import HandS.StrMore
import HandS.Replace
import HandS.Style
import HandS.Evl
import HandS.ForExc
import HandS.ExcInit
import HandS.ExcField
import HandS.ExcIs
import KE.KExcIs
import HandS.HotCalls
import HandS.ExcInitHot
import KE.KxField
import HandS.FStr
import HandS.Iter
import PyProof.Rows.ChunkEnd
import HandS.Star
import HandS.Strs
import HandS.WideBits
import PyProof.StrLawsFirst
import HandS.OwnEq
import HandS.OwnIter
import HandS.IterVal
import OpenK.KMeth
import OpenK.KOps
import HandS.SetFor
import KE.KOpsOwn
import HandS.TupMul
import PySem.Challenge.RW_romwright_k65_flash_and_power
set_option Elab.async false
set_option linter.all false
set_option maxRecDepth 100000
set_option maxHeartbeats 4000000
namespace RK
open PySem PySem.Spec PyProof.Rows L2
/-! ### heaps -/
/-- all but what stands at p is as it was -/
def But (p : Addr) (H H' : Hp) : Prop := ∀ b o, b ≠ p → H b = some o → H' b = some o
theorem But.refl (p : Addr) (H : Hp) : But p H H := fun _ _ _ h => h
theorem But.upd {p : Addr} {H H' : Hp} {o : HO} (h : But p H H') : But p H (upd H' p o) := fun b u n e => by
  rw [upd_ne n]
  exact h b u n e
theorem But.trans {p : Addr} {H H1 H2 : Hp} (a : But p H H1) (b : But p H1 H2) : But p H H2 := fun c o n h => b c o n (a c o n h)
theorem but_new {p D : Addr} {H H' : Hp} {o : HO} (h : But p H H') (n : H D = none) : But p H (upd H' D o) := fun b u nb e => by
  rw [upd_ne (ne_of_none e n)]
  exact h b u nb e
theorem But.of {p : Addr} {H H' : Hp} (h : Same H H') : But p H H' := fun b o _ e => h b o e
theorem same_new {H : Hp} {p : Addr} {o : HO} (h : H p = none) : Same H (upd H p o) := fun b x e => by
  rw [upd_ne (ne_of_none e h)]
  exact e
theorem sqT_up {K : PySem.W.Frag} {H H' : Hp} {a : Addr} {xs : List V} (h : SqT K H a xs) (e : Same H H') : SqT K H' a xs := by
  rcases h with (h | ⟨o, h⟩) | h
  · exact .inl (.inl (e _ _ h))
  · exact .inl (.inr ⟨o, e _ _ h⟩)
  · exact .inr h
theorem sqL_up {K : PySem.W.Frag} {H H' : Hp} {a : Addr} {xs : List V} (h : SqL K H a xs) (e : Same H H') : SqL K H' a xs := e.seq h
/-- a new object that H did not know changes -/
theorem same_mut {H H' : Hp} {p : Addr} {o : HO} (e : Same H H') (h : H p = none) : Same H (upd H' p o) := fun a u ha => by
  rw [upd_ne (ne_of_none ha h)]
  exact e a u ha
/-- the heap without p -/
def hid (H : Hp) (p : Addr) : Hp := fun b => if b = p then none else H b
theorem hid_same {H : Hp} {p : Addr} : Same (hid H p) H := fun b o e => by
  unfold hid at e
  split at e
  · cases e
  · exact e
theorem hid_at {H : Hp} {p b : Addr} {o : HO} (h : H b = some o) (n : b ≠ p) : hid H p b = some o := by
  unfold hid
  rw [if_neg n]
  exact h
theorem hid_but {H H' : Hp} {p : Addr} (h : But p H H') : Same (hid H p) (hid H' p) := fun b o e => by
  unfold hid at e ⊢
  split at e
  · cases e
  · rename_i n
    rw [if_neg n]
    exact h b o n e
mutual
theorem dpUp {K : PySem.W.Frag} {H H' : Hp} (e : Same H H') : ∀ {v : V} {d : PyData}, Dp K H v d → Dp K H' v d
  | _, _, .non => .non
  | _, _, .bl b => .bl b
  | _, _, .int i => .int i
  | _, _, .str x => .str x
  | _, _, .lst h t => .lst (sqL_up h e) (dpAllUp e t)
  | _, _, .tup h t => .tup (sqT_up h e) (dpAllUp e t)
theorem dpAllUp {K : PySem.W.Frag} {H H' : Hp} (e : Same H H') : ∀ {vs : List V} {ds : List PyData}, DpAll K H vs ds → DpAll K H' vs ds
  | _, _, .nil => .nil
  | _, _, .cons h t => .cons (dpUp e h) (dpAllUp e t)
end
/-! ### data of any depth, none of whose changeable objects lies in S -/
abbrev ASet := Addr → Prop
def noS : ASet := fun _ => False
def inS (S : ASet) (a : Addr) : ASet := fun b => S b ∨ b = a
/-- at a: a list | a tuple that is not in S -/
def XL (K : PySem.W.Frag) (H : Hp) (S : ASet) (a : Addr) (xs : List V) : Prop := (¬ S a ∧ Rd H a (.lst xs)) ∨ SqL K (fun _ => none) a xs
def XT (K : PySem.W.Frag) (H : Hp) (S : ASet) (a : Addr) (xs : List V) : Prop := (¬ S a ∧ Rd H a (.tup xs)) ∨ SqT K (fun _ => none) a xs
/-- what stood outside of S stands -/
def Out (S : ASet) (H H' : Hp) : Prop := ∀ b o, ¬ S b → H b = some o → H' b = some o
theorem Out.of {S : ASet} {H H' : Hp} (h : Same H H') : Out S H H' := fun b o _ e => h b o e
theorem Out.refl (S : ASet) (H : Hp) : Out S H H := fun _ _ _ h => h
theorem Out.trans {S : ASet} {H H1 H2 : Hp} (a : Out S H H1) (b : Out S H1 H2) : Out S H H2 := fun c o n h => b c o n (a c o n h)
theorem Out.mono {S S' : ASet} {H H' : Hp} (h : Out S H H') (k : ∀ a, S a → S' a) : Out S' H H' := fun b o n e => h b o (fun z => n (k b z)) e
theorem Out.put {S : ASet} {H H' : Hp} {a : Addr} {o : HO} (h : Out S H H') (ha : S a) : Out S H (upd H' a o) := fun b u n e => by
  rw [upd_ne fun z => n (by rw [z]; exact ha)]
  exact h b u n e
section
variable {K : PySem.W.Frag} {H H' : Hp} {S S' : ASet} {v x : V} {a p : Addr} {xs : List V} {d : PyData} {ds : List PyData}
theorem XL.sq (h : XL K H S a xs) : SqL K H a xs := by
  rcases h with ⟨_, h⟩ | (h | ⟨_, h⟩) | h
  · exact .inl h
  · cases h
  · cases h
  · exact .inr h
theorem XT.sq (h : XT K H S a xs) : SqT K H a xs := by
  rcases h with ⟨_, h⟩ | (h | ⟨_, h⟩) | h
  · exact .inl h
  · cases h
  · cases h
  · exact .inr h
theorem XL.of (h : H a = some (.lst xs)) (n : ¬ S a) : XL K H S a xs := .inl ⟨n, .inl h⟩
theorem XT.of (h : H a = some (.tup xs)) (n : ¬ S a) : XT K H S a xs := .inl ⟨n, .inl h⟩
theorem XL.up (h : XL K H S a xs) (e : Out S H H') : XL K H' S a xs := by
  rcases h with ⟨n, h | ⟨o, h⟩⟩ | h
  · exact .inl ⟨n, .inl (e _ _ n h)⟩
  · exact .inl ⟨n, .inr ⟨o, e _ _ n h⟩⟩
  · exact .inr h
theorem XT.up (h : XT K H S a xs) (e : Out S H H') : XT K H' S a xs := by
  rcases h with ⟨n, h | ⟨o, h⟩⟩ | h
  · exact .inl ⟨n, .inl (e _ _ n h)⟩
  · exact .inl ⟨n, .inr ⟨o, e _ _ n h⟩⟩
  · exact .inr h
/-- a further address that is not in the heap is kept out -/
theorem XL.add (h : XL K H S a xs) (hp : H p = none) : XL K H (inS S p) a xs := by
  rcases h with ⟨n, h⟩ | h
  · refine .inl ⟨fun z => ?_, h⟩
    rcases z with z | z
    · exact n z
    · subst z
      rcases h with h | ⟨o, h⟩ <;> rw [hp] at h <;> cases h
  · exact .inr h
theorem XT.add (h : XT K H S a xs) (hp : H p = none) : XT K H (inS S p) a xs := by
  rcases h with ⟨n, h⟩ | h
  · refine .inl ⟨fun z => ?_, h⟩
    rcases z with z | z
    · exact n z
    · subst z
      rcases h with h | ⟨o, h⟩ <;> rw [hp] at h <;> cases h
  · exact .inr h
theorem XL.less (h : XL K H S a xs) (k : ∀ a, S' a → S a) : XL K H S' a xs := by
  rcases h with ⟨n, h⟩ | h
  · exact .inl ⟨fun z => n (k _ z), h⟩
  · exact .inr h
theorem XT.less (h : XT K H S a xs) (k : ∀ a, S' a → S a) : XT K H S' a xs := by
  rcases h with ⟨n, h⟩ | h
  · exact .inl ⟨fun z => n (k _ z), h⟩
  · exact .inr h
mutual
inductive Dx (K : PySem.W.Frag) (H : Hp) (S : ASet) : V → PyData → Prop
  | non : Dx K H S .non .none
  | bl (b : Bool) : Dx K H S (.bl b) (.bool b)
  | int (i : Int) : Dx K H S (.int i) (.int i)
  | str (x : Str) : Dx K H S (.str x) (.str x)
  | lst {a : Addr} {xs : List V} {ds : List PyData} : XL K H S a xs → DxAll K H S xs ds → Dx K H S (.ref a) (.list ds)
  | tup {a : Addr} {xs : List V} {ds : List PyData} : XT K H S a xs → DxAll K H S xs ds → Dx K H S (.ref a) (.tuple ds)
inductive DxAll (K : PySem.W.Frag) (H : Hp) (S : ASet) : List V → List PyData → Prop
  | nil : DxAll K H S [] []
  | cons {v : V} {vs : List V} {d : PyData} {ds : List PyData} : Dx K H S v d → DxAll K H S vs ds → DxAll K H S (v :: vs) (d :: ds)
end
mutual
theorem Dx.up (e : Out S H H') : ∀ {v : V} {d : PyData}, Dx K H S v d → Dx K H' S v d
  | _, _, .non => .non
  | _, _, .bl b => .bl b
  | _, _, .int i => .int i
  | _, _, .str x => .str x
  | _, _, .lst h t => .lst (h.up e) (DxAll.up e t)
  | _, _, .tup h t => .tup (h.up e) (DxAll.up e t)
theorem DxAll.up (e : Out S H H') : ∀ {vs : List V} {ds : List PyData}, DxAll K H S vs ds → DxAll K H' S vs ds
  | _, _, .nil => .nil
  | _, _, .cons h t => .cons (Dx.up e h) (DxAll.up e t)
end
mutual
theorem Dx.add (hp : H p = none) : ∀ {v : V} {d : PyData}, Dx K H S v d → Dx K H (inS S p) v d
  | _, _, .non => .non
  | _, _, .bl b => .bl b
  | _, _, .int i => .int i
  | _, _, .str x => .str x
  | _, _, .lst h t => .lst (h.add hp) (DxAll.add hp t)
  | _, _, .tup h t => .tup (h.add hp) (DxAll.add hp t)
theorem DxAll.add (hp : H p = none) : ∀ {vs : List V} {ds : List PyData}, DxAll K H S vs ds → DxAll K H (inS S p) vs ds
  | _, _, .nil => .nil
  | _, _, .cons h t => .cons (Dx.add hp h) (DxAll.add hp t)
end
mutual
theorem Dx.less (k : ∀ a, S' a → S a) : ∀ {v : V} {d : PyData}, Dx K H S v d → Dx K H S' v d
  | _, _, .non => .non
  | _, _, .bl b => .bl b
  | _, _, .int i => .int i
  | _, _, .str x => .str x
  | _, _, .lst h t => .lst (h.less k) (DxAll.less k t)
  | _, _, .tup h t => .tup (h.less k) (DxAll.less k t)
theorem DxAll.less (k : ∀ a, S' a → S a) : ∀ {vs : List V} {ds : List PyData}, DxAll K H S vs ds → DxAll K H S' vs ds
  | _, _, .nil => .nil
  | _, _, .cons h t => .cons (Dx.less k h) (DxAll.less k t)
end
mutual
theorem Dx.dp : ∀ {v : V} {d : PyData}, Dx K H S v d → Dp K H v d
  | _, _, .non => .non
  | _, _, .bl b => .bl b
  | _, _, .int i => .int i
  | _, _, .str x => .str x
  | _, _, .lst h t => .lst h.sq (DxAll.dp t)
  | _, _, .tup h t => .tup h.sq (DxAll.dp t)
theorem DxAll.dp : ∀ {vs : List V} {ds : List PyData}, DxAll K H S vs ds → DpAll K H vs ds
  | _, _, .nil => .nil
  | _, _, .cons h t => .cons (Dx.dp h) (DxAll.dp t)
end
theorem dxAll_get : ∀ {vs : List V} {ds : List PyData} {i : Nat} {x : V}, DxAll K H S vs ds → vs[i]? = some x → ∃ d, ds[i]? = some d ∧ Dx K H S x d
  | _, _, _, _, .nil, e => by simp at e
  | _, _, 0, _, .cons h _, e => by
    simp at e
    subst e
    exact ⟨_, rfl, h⟩
  | _, _, i + 1, x, .cons _ t, e => by
    obtain ⟨d, h1, h2⟩ := dxAll_get (i := i) (x := x) t (by simpa using e)
    exact ⟨d, by simpa using h1, h2⟩
theorem Dx.of_get {vs : List V} {ds : List PyData} {i : Nat} (h : DxAll K H S vs ds) (e : vs[i]? = some x) (e2 : ds[i]? = some d) : Dx K H S x d := by
  obtain ⟨d', h1, h2⟩ := dxAll_get h e
  rw [e2] at h1
  rw [Option.some.inj h1]
  exact h2
theorem dxAll_len : ∀ {vs : List V} {ds : List PyData}, DxAll K H S vs ds → vs.length = ds.length
  | _, _, .nil => rfl
  | _, _, .cons _ t => by
    rw [List.length_cons, List.length_cons, dxAll_len t]
theorem dxAll_app : ∀ {vs ws : List V} {ds es : List PyData}, DxAll K H S vs ds → DxAll K H S ws es → DxAll K H S (vs ++ ws) (ds ++ es)
  | _, _, _, _, .nil, h => h
  | _, _, _, _, .cons a t, h => .cons a (dxAll_app t h)
theorem dxAll_ints : ∀ ns : List Int, DxAll K H S (ns.map V.int) (ns.map PyData.int)
  | [] => .nil
  | n :: r => .cons (.int n) (dxAll_ints r)
theorem dxAll_strs : ∀ ns : List Str, DxAll K H S (ns.map V.str) (ns.map PyData.str)
  | [] => .nil
  | n :: r => .cons (.str n) (dxAll_strs r)
theorem dxAll_ints_inv : ∀ {vs : List V} {ns : List Int}, DxAll K H S vs (ns.map PyData.int) → vs = ns.map V.int
  | _, [], .nil => rfl
  | _, n :: r, .cons h t => by
    cases h
    rw [dxAll_ints_inv t]
    rfl
end
section
variable {K : PySem.W.Frag} {H H' : Hp} {v x : V} {a p : Addr} {xs : List V} {d : PyData} {ds : List PyData}
/-! ### isinstance -/
def tn : PyData → String
  | .none => "NoneType"
  | .bool _ => "bool"
  | .int _ => "int"
  | .str _ => "str"
  | .list _ => "list"
  | .tuple _ => "tuple"
  | .dict _ => "dict"
def isB (a c : String) : Bool := a == c || (a == "bool" && c == "int")
theorem kitT : ∀ a ∈ (["NoneType", "bool", "int", "str", "list", "tuple"] : List String), ∀ c ∈ (["int", "bool", "str", "list", "tuple"] : List String), kitB a c = some (isB a c) := by decide +kernel
theorem dp_tn (h : Dp K H v d) : tn d ∈ (["NoneType", "bool", "int", "str", "list", "tuple"] : List String) := by
  cases h <;> simp [tn]
theorem dp_ty (h : Dp K H v d) : TyX K H v (.type (tn d)) := by
  cases h with
  | non => exact .base .non
  | bl b => exact .base (.bl b)
  | int i => exact .base (.int i)
  | str x => exact .base (.str x)
  | lst h _ =>
    rcases h with (h | ⟨o, h⟩) | ⟨o, its, n, hk, hc, _⟩
    · exact .base (.lst h)
    · exact .base (.frz h)
    · exact .kList hk hc
  | tup h _ =>
    rcases h with (h | ⟨o, h⟩) | ⟨o, its, n, hk, hc, _⟩
    · exact .base (.tup h)
    · exact .fTuple h
    · exact .kTuple hk hc
theorem r_isi {c : String} {Q : VK} (h : Dp K H v d) (hc : c ∈ (["int", "bool", "str", "list", "tuple"] : List String)) (q : Q (.bl (isB (tn d) c)) H) : rIsi K [v, .ty c] H Q :=
  ⟨v, .ty c, _, _, _, rfl, .ty c, dp_ty h, kit_ty (kitT _ (dp_tn h) c hc), q⟩
theorem kit_any {t : String} (ht : t ∈ (["NoneType", "bool", "int", "str", "list", "tuple"] : List String)) : ∀ cs : List String, (∀ c ∈ cs, c ∈ (["int", "bool", "str", "list", "tuple"] : List String)) →
    PySem.W.kitAny K (.type t) (cs.map Value.type) = some (cs.any (isB t))
  | [], _ => rfl
  | c :: r, h => by
    have h1 : PySem.W.kitOne K (.type t) (.type c) = some (isB t c) := kit_ty (kitT t ht c (h c List.mem_cons_self))
    have h2 := kit_any ht r fun x hx => h x (List.mem_cons_of_mem _ hx)
    show PySem.W.kitAny K (.type t) (.type c :: r.map Value.type) = some (isB t c || r.any (isB t))
    refine kitAny_cons h1 (fun e => ?_) (fun e => ?_)
    · rw [e, Bool.false_or]
      exact h2
    · rw [e, Bool.true_or]
theorem paired_ty : ∀ cs : List String, Paired ClsV (cs.map V.ty) (cs.map Value.type)
  | [] => .nil
  | c :: r => .cons (.ty c) (paired_ty r)
theorem r_isiT {cs : List String} {Q : VK} (h : Dp K H v d) (hp : H p = some (.tup (cs.map V.ty))) (hc : ∀ c ∈ cs, c ∈ (["int", "bool", "str", "list", "tuple"] : List String)) (q : Q (.bl (cs.any (isB (tn d)))) H) : rIsiT K [v, .ref p] H Q :=
  ⟨v, p, _, _, _, _, rfl, hp, paired_ty cs, dp_ty h, kit_any (dp_tn h) cs hc, q⟩
end
theorem ifT {c : Bool} {A B : Prop} (h : c = true) (a : A) : if c = true then A else B := by
  rw [if_pos h]
  exact a
theorem ifF {c : Bool} {A B : Prop} (h : c = false) (b : B) : if c = true then A else B := by
  rw [h, if_neg Bool.false_ne_true]
  exact b
theorem ifB {c : Bool} {A B : Prop} (ht : c = true → A) (hf : c = false → B) : if c = true then A else B := by
  cases c with
  | true => exact ifT rfl (ht rfl)
  | false => exact ifF rfl (hf rfl)
theorem lenOk {α : Type} {xs : List α} {n : Nat} (h : xs.length = n) (hn : n ≤ 100000) : xs.length ≤ sizeLine := by
  rw [h]
  exact Nat.le_trans hn (by decide)
theorem range_getD {α β : Type} (g : α → β) (z : α) : ∀ l : List α, (List.range l.length).map (fun i => g (l.getD i z)) = l.map g := fun l => by
  apply List.ext_getElem?
  intro i
  by_cases h : i < l.length
  · rw [List.getElem?_map, List.getElem?_range h, List.getElem?_map, List.getElem?_eq_getElem h]
    simp [List.getD_eq_getElem?_getD, List.getElem?_eq_getElem h]
  · rw [List.getElem?_eq_none (by simp; omega), List.getElem?_eq_none (by simp; omega)]
theorem depth_get : ∀ {ds : List PyData} {i : Nat} {d : PyData}, ds[i]? = some d → d.depth ≤ PyData.depthAll ds
  | [], _, _, h => by simp at h
  | x :: r, 0, d, h => by
    simp at h
    subst h
    exact Nat.le_max_left _ _
  | x :: r, i + 1, d, h => Nat.le_trans (depth_get (ds := r) (i := i) (by simpa using h)) (Nat.le_max_right _ _)
/-! no list or tuple in it is very long -/
mutual
def wdB : PyData → Bool
  | .list xs => decide (xs.length ≤ 100000) && wdA xs
  | .tuple xs => decide (xs.length ≤ 100000) && wdA xs
  | .none => true
  | .bool _ => true
  | .int _ => true
  | .str _ => true
  | .dict _ => true
def wdA : List PyData → Bool
  | [] => true
  | x :: r => wdB x && wdA r
end
theorem wdA_get : ∀ {ds : List PyData} {i : Nat} {d : PyData}, wdA ds = true → ds[i]? = some d → wdB d = true
  | [], _, _, _, h => by simp at h
  | x :: r, 0, d, w, h => by
    simp at h
    subst h
    exact (Bool.and_eq_true_iff.mp w).1
  | x :: r, i + 1, d, w, h => wdA_get (ds := r) (i := i) (Bool.and_eq_true_iff.mp w).2 (by simpa using h)
theorem wdA_all : ∀ {ds : List PyData}, (∀ d ∈ ds, wdB d = true) → wdA ds = true
  | [], _ => rfl
  | x :: r, h => Bool.and_eq_true_iff.mpr ⟨h x List.mem_cons_self, wdA_all fun d hd => h d (List.mem_cons_of_mem _ hd)⟩
/-! ### rules whose reading has a name -/
def rTupOf (K : PySem.W.Frag) : List V → Hp → VK → Prop := fun xs H Q => ∃ p ys, xs = [.ref p] ∧ ((SqL K H p ys ∧ ∀ l, H l = none → Q (.ref l) (upd H l (.tup ys))) ∨ (SqT K H p ys ∧ Q (.ref p) H))
section
variable {X : Cx}
theorem tuple_of : CallR X (.type "tuple") (rTupOf X.K) := call_tuple_of
theorem len_seq : CallR X (.builtin "len") (Evl.rLenS X.K) := call_len_seq
theorem list_of : CallR X (.type "list") (Evl.rListS X.K) := call_list_of
end
/-! ### what a walk goes over, lists or tuples -/
theorem PI_or {X : Cx} {tg l : Expr} {w1 w2 : TI} (h1 : PI X tg l w1) (h2 : PI X tg l w2) : PI X tg l (fun σ H R => w1 σ H R ∨ w2 σ H R) :=
  ⟨fun pins s σ H R I h => h.elim (h1.run pins s σ H R I) (h2.run pins s σ H R I)⟩
/-! ### comprehensions without tests whose elements have a value each; the target is the name at k -/
section
variable {J : It} {n : Nat} {G : Hp → Prop} {Y : Nat → Hp → V → Hp → Prop}
theorem lc_vals (w : Walk J n G Y) {te : TE} {σ : L2.St} {H1 : Hp} {D : Addr} {Qd : Hp → Prop} {k : Nat} (I : Nat → V → Prop) (f : Nat → V) (hD : H1 D = none) (hG : ∀ H, Same H1 H → G H) (hn : n ≤ 1000000)
    (hY : ∀ i H x H', i < n → Y i H x H' → H' = H ∧ I i x)
    (hs : ∀ i x H, i < n → Same H1 H → I i x → ∀ Q : VK, (∀ H3, Same H H3 → Q (f i) H3) → te ((σ.set k none).set k (some x)) H Q) (hd : ∀ H, Same H1 H → H D = some (.lst ((List.range n).map f)) → Qd H) :
    ∃ W : Nat → Nat → Hp → Prop, (∃ m, W 0 m (upd H1 D (.lst []))) ∧ ∀ i m H, W i m H →
      (J.stop i H ∧ Qd H) ∨ (J.go i H ∧ ∃ Nx : Hp → Prop, (∀ H', Nx H' → ∃ m', m' < m ∧ W (i + 1) m' H') ∧ ∀ x H', J.yld i H x H' → gName k x (wipe σ [k]) H' fun σ2 H2 => wipe σ2 [k] = wipe σ [k] ∧ tYes σ2 H2 fun b H3 =>
        if b = true then te σ2 H3 fun y H4 => ∃ acc, H4 D = some (.lst acc) ∧ acc.length < sizeLine ∧ Nx (upd H4 D (.lst (acc ++ [y]))) else Nx H3) := by
  refine lc_it w (fun i H => Same H1 H ∧ H D = some (.lst ((List.range i).map f))) ⟨same_new hD, upd_same⟩ (fun i H _ h => hG H h.1) (fun i x H H' hi hp y => ?_) fun H h => hd H h.1 h.2
  obtain ⟨sm, e⟩ := hp
  obtain ⟨rfl, hx⟩ := hY i H x H' hi y
  refine ⟨?_, ?_⟩
  · show ((σ.set k none).set k (some x)).set k none = σ.set k none
    rw [List.set_set, List.set_set]
  show te ((σ.set k none).set k (some x)) H' _
  refine hs i x H' hi sm hx _ fun H3 s3 => ?_
  have e3 : H3 D = some (.lst ((List.range i).map f)) := s3 _ _ e
  refine ⟨_, e3, ?_, same_mut (sm.trans s3) hD, ?_⟩
  · rw [List.length_map, List.length_range]
    exact Nat.lt_of_lt_of_le (Nat.lt_of_lt_of_le hi hn) (by decide)
  · rw [upd_same, List.range_succ, List.map_append]
    rfl
/-- a comprehension whose elements may change what stands; Pv speaks of the turn, the list so far and the heap -/
theorem lc_inv (w : Walk J n G Y) {te : TE} {σ : L2.St} {H1 : Hp} {D : Addr} {Qd : Hp → Prop} {k : Nat} (I : Nat → V → Prop) (Pv : Nat → List V → Hp → Prop) (hn : n ≤ 1000000) (h0 : Pv 0 [] (upd H1 D (.lst [])))
    (hG : ∀ i acc H, Pv i acc H → G H) (hY : ∀ i H x H', i < n → Y i H x H' → H' = H ∧ I i x)
    (hs : ∀ i x acc H, i < n → acc.length = i → Pv i acc H → H D = some (.lst acc) → I i x → ∀ Q : VK, (∀ v H3, H3 D = some (.lst acc) → Pv (i + 1) (acc ++ [v]) (upd H3 D (.lst (acc ++ [v]))) → Q v H3) → te ((σ.set k none).set k (some x)) H Q)
    (hd : ∀ acc H, acc.length = n → Pv n acc H → H D = some (.lst acc) → Qd H) :
    ∃ W : Nat → Nat → Hp → Prop, (∃ m, W 0 m (upd H1 D (.lst []))) ∧ ∀ i m H, W i m H →
      (J.stop i H ∧ Qd H) ∨ (J.go i H ∧ ∃ Nx : Hp → Prop, (∀ H', Nx H' → ∃ m', m' < m ∧ W (i + 1) m' H') ∧ ∀ x H', J.yld i H x H' → gName k x (wipe σ [k]) H' fun σ2 H2 => wipe σ2 [k] = wipe σ [k] ∧ tYes σ2 H2 fun b H3 =>
        if b = true then te σ2 H3 fun y H4 => ∃ acc, H4 D = some (.lst acc) ∧ acc.length < sizeLine ∧ Nx (upd H4 D (.lst (acc ++ [y]))) else Nx H3) := by
  refine lc_it w (fun i H => ∃ acc, acc.length = i ∧ H D = some (.lst acc) ∧ Pv i acc H) ⟨[], rfl, upd_same, h0⟩ (fun i H _ h => ?_) (fun i x H H' hi hp y => ?_) fun H h => ?_
  · obtain ⟨acc, _, _, p⟩ := h
    exact hG i acc H p
  · obtain ⟨acc, hl, e, p⟩ := hp
    obtain ⟨rfl, hx⟩ := hY i H x H' hi y
    refine ⟨?_, ?_⟩
    · show ((σ.set k none).set k (some x)).set k none = σ.set k none
      rw [List.set_set, List.set_set]
    show te ((σ.set k none).set k (some x)) H' _
    refine hs i x acc H' hi hl p e hx _ fun v H3 e3 p3 => ⟨acc, e3, ?_, acc ++ [v], ?_, upd_same, p3⟩
    · rw [hl]
      exact Nat.lt_of_lt_of_le (Nat.lt_of_lt_of_le hi hn) (by decide)
    · rw [List.length_append, hl]
      rfl
  · obtain ⟨acc, hl, e, p⟩ := h
    exact hd acc H hl p e
theorem lc_data {K : PySem.W.Frag} {S : ASet} (w : Walk J n G Y) {te : TE} {σ : L2.St} {H1 : Hp} {D : Addr} {Qd : Hp → Prop} {k : Nat} (I : Nat → V → Prop) (f : Nat → PyData) (hS : ∀ a, S a → H1 a ≠ none) (hD : H1 D = none) (hG : ∀ H, Same H1 H → G H) (hn : n ≤ 1000000)
    (hY : ∀ i H x H', i < n → Y i H x H' → H' = H ∧ I i x)
    (hs : ∀ i x H, i < n → Same H1 H → H D ≠ none → I i x → ∀ Q : VK, (∀ v H3, Same H H3 → Dx K H3 (inS S D) v (f i) → Q v H3) → te ((σ.set k none).set k (some x)) H Q)
    (hd : ∀ H, Same H1 H → Dx K H S (.ref D) (.list ((List.range n).map f)) → Qd H) :
    ∃ W : Nat → Nat → Hp → Prop, (∃ m, W 0 m (upd H1 D (.lst []))) ∧ ∀ i m H, W i m H →
      (J.stop i H ∧ Qd H) ∨ (J.go i H ∧ ∃ Nx : Hp → Prop, (∀ H', Nx H' → ∃ m', m' < m ∧ W (i + 1) m' H') ∧ ∀ x H', J.yld i H x H' → gName k x (wipe σ [k]) H' fun σ2 H2 => wipe σ2 [k] = wipe σ [k] ∧ tYes σ2 H2 fun b H3 =>
        if b = true then te σ2 H3 fun y H4 => ∃ acc, H4 D = some (.lst acc) ∧ acc.length < sizeLine ∧ Nx (upd H4 D (.lst (acc ++ [y]))) else Nx H3) := by
  have hnS : ¬ S D := fun z => hS D z hD
  refine lc_it w (fun i H => Same H1 H ∧ ∃ acc, H D = some (.lst acc) ∧ DxAll K H (inS S D) acc ((List.range i).map f)) ⟨same_new hD, [], upd_same, .nil⟩ (fun i H _ h => hG H h.1) (fun i x H H' hi hp y => ?_) fun H h => ?_
  · obtain ⟨sm, acc, e, da⟩ := hp
    obtain ⟨rfl, hx⟩ := hY i H x H' hi y
    refine ⟨?_, ?_⟩
    · show ((σ.set k none).set k (some x)).set k none = σ.set k none
      rw [List.set_set, List.set_set]
    show te ((σ.set k none).set k (some x)) H' _
    refine hs i x H' hi sm (by rw [e]; exact fun z => nomatch z) hx _ fun v H3 s3 dv => ?_
    have hl : acc.length = i := by rw [dxAll_len da, List.length_map, List.length_range]
    refine ⟨acc, s3 _ _ e, ?_, same_mut (sm.trans s3) hD, acc ++ [v], upd_same, ?_⟩
    · rw [hl]
      exact Nat.lt_of_lt_of_le (Nat.lt_of_lt_of_le hi hn) (by decide)
    · rw [List.range_succ, List.map_append]
      have o : Out (inS S D) H3 (upd H3 D (.lst (acc ++ [v]))) := (Out.refl _ _).put (.inr rfl)
      exact dxAll_app (DxAll.up o (DxAll.up (Out.of s3) da)) (.cons (Dx.up o dv) .nil)
  · obtain ⟨sm, acc, e, da⟩ := h
    exact hd H sm (.lst (XL.of e hnS) (DxAll.less (fun a z => .inl z) da))
end
end RK

namespace RK
open PySem PySem.Spec PyProof.Rows L2 PySem.Builtin.Str
/-! ### texts as lists of code points -/
def sO (l : List Nat) : Str := ⟨l.toArray⟩
theorem sO_eta (x : Str) : sO x.cps.toList = x := rfl
theorem sO_list (l : List Nat) : (sO l).cps.toList = l := rfl
theorem sO_len (l : List Nat) : (sO l).length = l.length := rfl
theorem sO_inj {a b : List Nat} (h : sO a = sO b) : a = b := by
  have := congrArg (fun s : Str => s.cps.toList) h
  exact this
theorem sO_app (a b : List Nat) : sO a ++ sO b = sO (a ++ b) := by
  show (⟨a.toArray ++ b.toArray⟩ : Str) = ⟨(a ++ b).toArray⟩
  rw [List.append_toArray]
theorem sO_at {l : List Nat} {i : Nat} {c : Nat} (h : l[i]? = some c) : atI (sO l).cps.toList (i : Int) = some c := atI_nat h
theorem join_fold (l : List Str) : ∀ (acc : Array Nat), (l.foldl (fun acc p => acc ++ (sO []).cps ++ p.cps) acc) = (acc.toList ++ (l.map fun s => s.cps.toList).flatten).toArray := by
  induction l with
  | nil => intro acc; simp
  | cons p r ih =>
    intro acc
    rw [List.foldl_cons, ih]
    simp [sO]
theorem join_nil (l : List Str) : Txt.join (sO []) l = sO (l.map fun s => s.cps.toList).flatten := by
  cases l with
  | nil => rfl
  | cons p r =>
    show (⟨(r.foldl (fun acc p => acc ++ (sO []).cps ++ p.cps) p.cps)⟩ : Str) = _
    rw [join_fold]
    simp [sO]
theorem strip_take (goes : Nat → Bool) : ∀ l : List Nat, l.take (l.length - (l.reverse.takeWhile goes).length) = (l.reverse.dropWhile goes).reverse := fun l => by
  have h : l.reverse = l.reverse.takeWhile goes ++ l.reverse.dropWhile goes := (List.takeWhile_append_dropWhile).symm
  have h2 : l = (l.reverse.dropWhile goes).reverse ++ (l.reverse.takeWhile goes).reverse := by
    rw [← List.reverse_append, List.takeWhile_append_dropWhile, List.reverse_reverse]
  have h3 : l.length = (l.reverse.dropWhile goes).length + (l.reverse.takeWhile goes).length := by
    have := congrArg List.length h2
    rw [List.length_append, List.length_reverse, List.length_reverse] at this
    exact this
  have h4 : l.length - (l.reverse.takeWhile goes).length = (l.reverse.dropWhile goes).reverse.length := by
    rw [List.length_reverse]
    omega
  rw [h4]
  conv => lhs; arg 2; rw [h2]
  rw [List.take_left]
theorem rstrip_sO (l : List Nat) : Txt.rstrip (sO l) = sO (l.reverse.dropWhile Unicode.isSpace).reverse := by
  have hi : stripHi Unicode.isSpace true (sO l) 0 = l.length - (l.reverse.takeWhile Unicode.isSpace).length := rfl
  show (if (stripSame Unicode.isSpace false true (sO l)) = true then sO l else stripped Unicode.isSpace false true (sO l)) = _
  have e : stripped Unicode.isSpace false true (sO l) = sO (l.reverse.dropWhile Unicode.isSpace).reverse := by
    show (⟨l.toArray.extract 0 (l.length - (l.reverse.takeWhile Unicode.isSpace).length)⟩ : Str) = _
    rw [List.extract_toArray, List.extract_eq_take_drop, List.drop_zero, Nat.sub_zero, strip_take]
    rfl
  split
  · rename_i h
    have h1 : (l.length - (l.reverse.takeWhile Unicode.isSpace).length == l.length) = true := (Bool.and_eq_true_iff.mp h).2
    have h2 : l.length - (l.reverse.takeWhile Unicode.isSpace).length = l.length := by simpa using h1
    have h3 := strip_take Unicode.isSpace l
    rw [h2, List.take_length] at h3
    rw [← h3]
  · exact e
theorem ljust_sO (l : List Nat) (n : Nat) (h : l.length ≤ n) : Txt.ljust (sO l) (n : Int) = sO (l ++ List.replicate (n - l.length) 32) := by
  show (if (n : Int) ≤ (l.length : Nat) then sO l else padded (sO l) 0 ((n : Int).toNat - l.length) 32) = _
  split
  · rename_i h2
    have : n - l.length = 0 := by omega
    rw [this]
    simp [sO]
  · show (⟨Array.replicate 0 32 ++ l.toArray ++ Array.replicate ((n : Int).toNat - l.length) 32⟩ : Str) = _
    rw [Int.toNat_natCast]
    simp [sO]
/-- parts of a text -/
theorem cut_lo (l : List Nat) (k : Nat) : cutS (sO l) (some (k : Int)) none = sO (l.drop k) := by
  show (⟨((l.drop (HT.sIx l.length 0 (some (k : Int)))).take (HT.sIx l.length l.length none - HT.sIx l.length 0 (some (k : Int)))).toArray⟩ : Str) = _
  rw [HT.sIx_nat, HT.sIx_none]
  have e : (l.drop (min k l.length)).take (l.length - min k l.length) = l.drop k := by
    rw [List.take_of_length_le (by rw [List.length_drop]; omega)]
    by_cases h : k ≤ l.length
    · rw [Nat.min_eq_left h]
    · rw [Nat.min_eq_right (by omega), List.drop_length, List.drop_of_length_le (by omega)]
  rw [e]
  rfl
theorem cut_hi (l : List Nat) (k : Nat) : cutS (sO l) none (some (k : Int)) = sO (l.take k) := by
  show (⟨((l.drop (HT.sIx l.length 0 none)).take (HT.sIx l.length l.length (some (k : Int)) - HT.sIx l.length 0 none)).toArray⟩ : Str) = _
  rw [HT.sIx_nat, HT.sIx_none, List.drop_zero, Nat.sub_zero]
  have e : l.take (min k l.length) = l.take k := by
    by_cases h : k ≤ l.length
    · rw [Nat.min_eq_left h]
    · rw [Nat.min_eq_right (by omega), List.take_length, List.take_of_length_le (by omega)]
  rw [e]
  rfl
theorem rep_fold (a : Array Nat) : ∀ (n : Nat) (acc : Array Nat), (List.replicate n a).foldl (· ++ ·) acc = (acc.toList ++ (List.replicate n a.toList).flatten).toArray
  | 0, acc => by simp
  | n + 1, acc => by
    rw [List.replicate_succ, List.foldl_cons, rep_fold a n, List.replicate_succ]
    simp
section
variable {X : Cx}
/-- a text times a small number -/
theorem op_rep_str : OpR X (binaryOp .Mult) (fun x y H Q => ∃ (l : List Nat) (n : Nat), x = .str (sO l) ∧ y = .int (n : Int) ∧ l.length ≤ 1000 ∧ n ≤ 1000 ∧ Q (.str (sO (List.replicate n l).flatten)) H) := by
  intro pins s σ H x y v u Q I rx ry h
  obtain ⟨l, n, rfl, rfl, hl, hn, q⟩ := h
  obtain ⟨t, rfl⟩ := rx
  obtain ⟨t2, rfl⟩ := ry
  have big : l.length * n ≤ 1000000 := Nat.mul_le_mul hl hn
  refine P.mul_str ?_ (fun _ _ => ?_) (fun _ _ => ?_) ?_
  · rw [decide_eq_false (show ¬ (n : Int) < -(2 ^ 63) by omega), decide_eq_false (show ¬ (n : Int) ≥ 2 ^ 63 by omega)]
    rfl
  · show ¬ ((l.length : Nat) : Int) > (2 ^ 63 - 1) / (n : Int)
    have h1 : (0 : Int) < n := by omega
    have h2 : (1000 : Int) ≤ (2 ^ 63 - 1) / (n : Int) := (Int.le_ediv_iff_mul_le h1).mpr (by omega)
    omega
  · show tooLong (l.length * (n : Int).toNat) = false
    rw [Int.toNat_natCast]
    exact decide_eq_false (by show ¬ _; have : (1000000 : Nat) ≤ sizeLine := by decide
                              omega)
  · have fin : ∀ (z : Str) tk tok, z = sO (List.replicate n l).flatten → EP X pins σ Q (Value.str z tok) { s with toks := tk } := fun z tk tok e => by subst e; exact ⟨.str _, H, I.tok _, ⟨_, rfl⟩, q⟩
    have hsz : ∀ z : Str, z = sO (List.replicate n l).flatten → z.length ≤ sizeLine := fun z e => by
      rw [e, sO_len]
      have e2 : (List.replicate n l).flatten.length = n * l.length := by simp
      rw [e2, Nat.mul_comm]
      exact Nat.le_trans big (by decide)
    split
    · have : n = 0 := by omega
      subst this
      exact ⟨by decide, fin _ _ _ rfl⟩
    · split
      · rename_i h2
        rcases Bool.or_eq_true_iff.mp h2 with h3 | h3
        · have h4 : (n : Int) = 1 := by simpa using h3
          have h5 : n = 1 := by omega
          subst h5
          refine fin _ s.toks _ ?_
          simp
        · have h4 : l.length = 0 := (eq_of_beq h3 : (sO l).length = 0)
          have h5 : l = [] := List.eq_nil_of_length_eq_zero h4
          subst h5
          refine fin _ s.toks _ ?_
          have : (List.replicate n ([] : List Nat)).flatten = [] := by simp
          rw [this]
      · have e : (⟨(List.replicate (n : Int).toNat (sO l).cps).foldl (· ++ ·) #[]⟩ : Str) = sO (List.replicate n l).flatten := by
          rw [rep_fold, Int.toNat_natCast]
          simp [sO]
        exact ⟨hsz _ e, fin _ _ _ e⟩
end
end RK

namespace RK
open PySem PySem.Spec PyProof.Rows L2 PySem.Builtin.Str
/-! ### names and the words that pack them -/
def sg (k : Nat) : Nat := if k = 0 then 32 else if k ≤ 26 then 96 + k else 21 + k
abbrev LTR : List Nat := (Str.ofString "abcdefghijklmnopqrstuvwxyz").cps.toList
abbrev SGN : List Nat := (Str.ofString " abcdefghijklmnopqrstuvwxyz0123456789").cps.toList
theorem SGN_eq : SGN = (List.range 37).map sg := by decide +kernel
theorem LTR_eq : LTR = (List.range 26).map fun k => sg (k + 1) := by decide +kernel
def isN (l : List Nat) : Bool := (decide (1 ≤ l.length) && decide (l.length ≤ 9) && decide (l.headD 0 ∈ LTR)) && l.all fun c => decide (c ∈ SGN) && !decide (c = 32)
theorem dec_blank (c : Nat) : decide (V.str (sO [c]) = V.str (Str.ofString " ")) = decide (c = 32) := by
  have e : Str.ofString " " = sO [32] := by decide +kernel
  rw [e, decide_eq_decide]
  constructor
  · intro h
    have := sO_inj (V.str.inj h)
    exact (List.cons.inj this).1
  · intro h
    rw [h]
/-- the codes of a name -/
structure Nk (ks : List Nat) : Prop where
  pos : 1 ≤ ks.length
  le : ks.length ≤ 9
  head : 1 ≤ ks.headD 0 ∧ ks.headD 0 ≤ 26
  all : ∀ k ∈ ks, 1 ≤ k ∧ k ≤ 36
theorem sg_mem {k : Nat} (h : k ≤ 36) : sg k ∈ SGN := by
  rw [SGN_eq]
  exact List.mem_map.mpr ⟨k, List.mem_range.mpr (by omega), rfl⟩
theorem sg_ne {k : Nat} (h : 1 ≤ k) : sg k ≠ 32 := by
  unfold sg
  split
  · omega
  · split <;> omega
theorem sg_inj {a b : Nat} (ha : a ≤ 36) (hb : b ≤ 36) (h : sg a = sg b) : a = b := by
  unfold sg at h
  split at h <;> split at h <;> (try split at h) <;> (try split at h) <;> omega
theorem sg_lt {k : Nat} (h : k ≤ 36) : sg k ∈ LTR ↔ 1 ≤ k ∧ k ≤ 26 := by
  rw [LTR_eq, List.mem_map]
  constructor
  · rintro ⟨j, hj, e⟩
    have hj := List.mem_range.mp hj
    have := sg_inj (by omega) h e
    omega
  · rintro ⟨h1, h2⟩
    exact ⟨k - 1, List.mem_range.mpr (by omega), by rw [Nat.sub_add_cancel h1]⟩
theorem isN_codes {ks : List Nat} (h36 : ∀ k ∈ ks, k ≤ 36) : isN (ks.map sg) = (decide (1 ≤ ks.length) && decide (ks.length ≤ 9) && decide (1 ≤ ks.headD 0 ∧ ks.headD 0 ≤ 26) && ks.all fun k => decide (1 ≤ k)) := by
  unfold isN
  rw [List.length_map]
  have e1 : decide ((ks.map sg).headD 0 ∈ LTR) = decide (1 ≤ ks.headD 0 ∧ ks.headD 0 ≤ 26) := by
    cases ks with
    | nil => decide +kernel
    | cons k r =>
      show decide (sg k ∈ LTR) = decide (1 ≤ k ∧ k ≤ 26)
      rw [decide_eq_decide]
      exact sg_lt (h36 k List.mem_cons_self)
  have e2 : ((ks.map sg).all fun c => decide (c ∈ SGN) && !decide (c = 32)) = ks.all fun k => decide (1 ≤ k) := by
    rw [List.all_map]
    apply Bool.eq_iff_iff.mpr
    rw [List.all_eq_true, List.all_eq_true]
    constructor
    · intro h k hk
      have := h k hk
      apply decide_eq_true
      rcases Nat.eq_zero_or_pos k with z | z
      · subst z
        exact absurd this (by decide +kernel)
      · exact z
    · intro h k hk
      have hk1 : 1 ≤ k := of_decide_eq_true (h k hk)
      show (decide (sg k ∈ SGN) && !decide (sg k = 32)) = true
      rw [decide_eq_true (sg_mem (h36 k hk)), decide_eq_false (sg_ne hk1)]
      rfl
  rw [e1, e2]
theorem isN_of {ks : List Nat} (h : Nk ks) : isN (ks.map sg) = true := by
  rw [isN_codes fun k hk => (h.all k hk).2, decide_eq_true h.pos, decide_eq_true h.le, decide_eq_true h.head]
  rw [List.all_eq_true.mpr fun k hk => decide_eq_true (h.all k hk).1]
  rfl
theorem isN_long {l : List Nat} (h : 10 ≤ l.length) : isN l = false := by
  unfold isN
  rw [decide_eq_false (show ¬ l.length ≤ 9 by omega), Bool.and_false]
  rfl
theorem isN_head {l : List Nat} (h : l.headD 0 ∉ LTR) : isN l = false := by
  unfold isN
  rw [decide_eq_false h, Bool.and_false]
  rfl
theorem isN_mem {l : List Nat} {c : Nat} (h : c ∈ l) (hc : (decide (c ∈ SGN) && !decide (c = 32)) = false) : isN l = false := by
  unfold isN
  rw [show (l.all fun c => decide (c ∈ SGN) && !decide (c = 32)) = false from ?_, Bool.and_false]
  apply Bool.eq_false_iff.mpr
  intro z
  have := List.all_eq_true.mp z c h
  rw [hc] at this
  cases this
/-! words -/
def cds (w : Nat) : List Nat := [w / 1600, w / 40 % 40, w % 40]
def rtrim (ks : List Nat) : List Nat := (ks.reverse.dropWhile (· == 0)).reverse
theorem rtrim_app (l : List Nat) (x : Nat) : rtrim (l ++ [x]) = if x = 0 then rtrim l else l ++ [x] := by
  unfold rtrim
  rw [List.reverse_append]
  show ((x :: l.reverse).dropWhile (· == 0)).reverse = _
  rw [List.dropWhile_cons]
  by_cases h : x = 0
  · rw [if_pos h, if_pos (by rw [h]; rfl)]
  · rw [if_neg h, if_neg (by simpa using h)]
    simp
theorem rtrim_pre (l : List Nat) : rtrim l = l.take (rtrim l).length := by
  have h : l.reverse = l.reverse.takeWhile (· == 0) ++ l.reverse.dropWhile (· == 0) := (List.takeWhile_append_dropWhile).symm
  have h2 : l = rtrim l ++ (l.reverse.takeWhile (· == 0)).reverse := by
    unfold rtrim
    rw [← List.reverse_append, List.takeWhile_append_dropWhile, List.reverse_reverse]
  conv => rhs; arg 2; rw [h2]
  rw [List.take_left]
theorem rtrim_big {l : List Nat} {x : Nat} (h : x ∈ l) (hx : x ≠ 0) : x ∈ rtrim l := by
  have h2 : l = rtrim l ++ (l.reverse.takeWhile (· == 0)).reverse := by
    unfold rtrim
    rw [← List.reverse_append, List.takeWhile_append_dropWhile, List.reverse_reverse]
  rw [h2] at h
  rcases List.mem_append.mp h with h | h
  · exact h
  · have := List.mem_reverse.mp h
    have h3 : ∀ (r : List Nat), x ∈ r.takeWhile (· == 0) → x = 0 := fun r => by
      induction r with
      | nil => intro z; cases z
      | cons y r ih =>
        rw [List.takeWhile_cons]
        split
        · rename_i hy
          intro z
          rcases List.mem_cons.mp z with z | z
          · rw [z]; simpa using hy
          · exact ih z
        · intro z; cases z
    exact absurd (h3 _ this) hx
theorem rtrim_sub {l : List Nat} {x : Nat} (h : x ∈ rtrim l) : x ∈ l := by
  rw [rtrim_pre] at h
  exact List.mem_of_mem_take h
theorem rtrim_len (l : List Nat) : (rtrim l).length ≤ l.length := by
  rw [rtrim_pre, List.length_take]
  omega
theorem rtrim_head {l : List Nat} (h : rtrim l ≠ []) : (rtrim l).headD 0 = l.headD 0 := by
  rw [rtrim_pre] at h ⊢
  cases l with
  | nil => simp at h
  | cons x r =>
    cases e : (rtrim (x :: r)).length with
    | zero => rw [e] at h; exact absurd rfl h
    | succ n => rfl
/-- the program's way -/
def wn (ks : List Nat) : Option (List Nat) := if ks.any (fun k => decide (37 ≤ k)) then none else if isN ((rtrim ks).map sg) then some ((rtrim ks).map sg) else none
/-- the law's way -/
def un (ks : List Nat) : Option (List Nat) := if (rtrim ks).all (fun k => decide (1 ≤ k ∧ k ≤ 36)) && (decide ((rtrim ks).length ≠ 0) && decide (ks.headD 0 ≤ 26)) then some ((rtrim ks).map sg) else none
theorem wn_un (ks : List Nat) (h9 : ks.length ≤ 9) : wn ks = un ks := by
  unfold wn un
  by_cases hb : ks.any (fun k => decide (37 ≤ k)) = true
  · rw [if_pos hb]
    obtain ⟨k, hk, hk2⟩ := List.any_eq_true.mp hb
    have hk3 : 37 ≤ k := of_decide_eq_true hk2
    have : (rtrim ks).all (fun k => decide (1 ≤ k ∧ k ≤ 36)) = false := by
      apply Bool.eq_false_iff.mpr
      intro z
      have := of_decide_eq_true (List.all_eq_true.mp z k (rtrim_big hk (by omega)))
      omega
    rw [this]
    rfl
  · rw [if_neg hb]
    have h36 : ∀ k ∈ ks, k ≤ 36 := fun k hk => by
      apply Decidable.byContradiction
      intro z
      exact hb (List.any_eq_true.mpr ⟨k, hk, decide_eq_true (by omega)⟩)
    have h36' : ∀ k ∈ rtrim ks, k ≤ 36 := fun k hk => h36 k (rtrim_sub hk)
    have hl := rtrim_len ks
    have e : isN ((rtrim ks).map sg) = ((rtrim ks).all (fun k => decide (1 ≤ k ∧ k ≤ 36)) && (decide ((rtrim ks).length ≠ 0) && decide (ks.headD 0 ≤ 26))) := by
      rw [isN_codes h36']
      apply Bool.eq_iff_iff.mpr
      simp only [Bool.and_eq_true, decide_eq_true_eq, List.all_eq_true]
      constructor
      · rintro ⟨⟨⟨h1, _⟩, h3, h4⟩, h5⟩
        have hne : rtrim ks ≠ [] := fun z => by rw [z] at h1; exact absurd h1 (by decide)
        rw [rtrim_head hne] at h3 h4
        exact ⟨fun k hk => ⟨h5 k hk, h36' k hk⟩, by omega, h4⟩
      · rintro ⟨h1, h2, h3⟩
        have hne : rtrim ks ≠ [] := fun z => by rw [z] at h2; exact h2 rfl
        refine ⟨⟨⟨by omega, by omega⟩, ?_⟩, fun k hk => (h1 k hk).1⟩
        have hm : (rtrim ks).headD 0 ∈ rtrim ks := by
          cases hr : rtrim ks with
          | nil => exact absurd hr hne
          | cons x r => exact List.mem_cons_self
        have := h1 _ hm
        rw [rtrim_head hne] at this ⊢
        exact ⟨this.1, h3⟩
    rw [e]
def pad (ks : List Nat) : List Nat := ks ++ List.replicate (9 - ks.length) 0
theorem pad_len {ks : List Nat} (h : ks.length ≤ 9) : (pad ks).length = 9 := by
  unfold pad
  rw [List.length_append, List.length_replicate]
  omega
def pk1 (cs : List Nat) (k : Nat) : Nat := (cs.getD k 0 * 40 + cs.getD (k + 1) 0) * 40 + cs.getD (k + 2) 0
def pk3 (cs : List Nat) : List Nat := [pk1 cs 0, pk1 cs 3, pk1 cs 6]
theorem cds_pk1 {cs : List Nat} {k : Nat} (h : ∀ x ∈ cs, x ≤ 39) : cds (pk1 cs k) = [cs.getD k 0, cs.getD (k + 1) 0, cs.getD (k + 2) 0] := by
  have g : ∀ i, cs.getD i 0 ≤ 39 := fun i => by
    rw [List.getD_eq_getElem?_getD]
    cases e : cs[i]? with
    | none => exact Nat.zero_le _
    | some x => exact h x (List.mem_of_getElem? e)
  have a := g k
  have b := g (k + 1)
  have c := g (k + 2)
  unfold cds pk1
  congr 1
  · omega
  · congr 1
    · omega
    · congr 1
      omega
theorem cds_pk3 {cs : List Nat} (h : ∀ x ∈ cs, x ≤ 39) (h9 : cs.length = 9) : (pk3 cs).flatMap cds = cs := by
  match cs, h9 with
  | [a, b, c, d, e, f, g, i, j], _ =>
    show cds _ ++ (cds _ ++ (cds _ ++ [])) = _
    rw [cds_pk1 h, cds_pk1 h, cds_pk1 h]
    rfl
theorem rtrim_pad {ks : List Nat} (h : Nk ks) : rtrim (pad ks) = ks := by
  unfold pad
  generalize 9 - ks.length = n
  induction n with
  | zero =>
    rw [List.replicate_zero, List.append_nil]
    cases e : ks.reverse with
    | nil =>
      have := congrArg List.reverse e
      rw [List.reverse_reverse] at this
      rw [this]
      rfl
    | cons x r =>
      have e2 : ks = r.reverse ++ [x] := by
        have := congrArg List.reverse e
        rw [List.reverse_reverse, List.reverse_cons] at this
        exact this
      rw [e2, rtrim_app, if_neg]
      have := h.all x (by rw [e2]; simp)
      omega
  | succ n ih =>
    rw [List.replicate_succ', ← List.append_assoc, rtrim_app, if_pos rfl]
    exact ih
theorem pad_le {ks : List Nat} (h : Nk ks) : ∀ x ∈ pad ks, x ≤ 39 := fun x hx => by
  unfold pad at hx
  rcases List.mem_append.mp hx with hx | hx
  · have := h.all x hx
    omega
  · have := List.eq_of_mem_replicate hx
    omega
theorem wn_pad {ks : List Nat} (h : Nk ks) : wn (pad ks) = some (ks.map sg) := by
  unfold wn
  rw [rtrim_pad h, isN_of h, if_neg, if_pos rfl]
  intro z
  obtain ⟨k, hk, hk2⟩ := List.any_eq_true.mp z
  have hk3 : 37 ≤ k := of_decide_eq_true hk2
  unfold pad at hk
  rcases List.mem_append.mp hk with hx | hx
  · have := h.all k hx
    omega
  · have := List.eq_of_mem_replicate hx
    omega
/-- signs found in the tables -/
theorem find_sg : ∀ k : _root_.Fin 37, Txt.find (Str.ofString " abcdefghijklmnopqrstuvwxyz0123456789") (sO [sg k.val]) = (k.val : Int) := by decide +kernel
theorem occ_sg : ∀ k : _root_.Fin 37, occurrences (Str.ofString " abcdefghijklmnopqrstuvwxyz0123456789") (sO [sg k.val]) 0 (Str.ofString " abcdefghijklmnopqrstuvwxyz0123456789").length 1 = [k.val] := by decide +kernel
theorem space_sg : ∀ k : _root_.Fin 37, Unicode.isSpace (sg k.val) = (k.val == 0) := by decide +kernel
theorem rstrip_sg {ks : List Nat} (h : ∀ k ∈ ks, k ≤ 36) : Txt.rstrip (sO (ks.map sg)) = sO ((rtrim ks).map sg) := by
  rw [rstrip_sO]
  unfold rtrim
  rw [← List.map_reverse]
  have e : ∀ r : List Nat, (∀ k ∈ r, k ≤ 36) → (r.map sg).dropWhile Unicode.isSpace = (r.dropWhile (· == 0)).map sg := fun r => by
    induction r with
    | nil => intro _; rfl
    | cons x r ih =>
      intro hr
      rw [List.map_cons, List.dropWhile_cons, List.dropWhile_cons]
      have hx : Unicode.isSpace (sg x) = (x == 0) := space_sg ⟨x, by have := hr x List.mem_cons_self; omega⟩
      rw [hx]
      split
      · exact ih fun k hk => hr k (List.mem_cons_of_mem _ hk)
      · rfl
  rw [e _ fun k hk => h k (List.mem_reverse.mp hk), ← List.map_reverse]
/-! lists of small numbers as they stand in the program -/
def intV (l : List Nat) : List V := l.map fun (n : Nat) => V.int (n : Int)
theorem atI_intV {cs : List Nat} {k : Int} (h0 : 0 ≤ k) (h1 : k < (cs.length : Int)) : atI (intV cs) k = some (.int ((cs.getD k.toNat 0 : Nat) : Int)) := by
  obtain ⟨j, rfl⟩ : ∃ j : Nat, k = (j : Int) := ⟨k.toNat, by omega⟩
  have hj : j < cs.length := by omega
  refine atI_nat ?_
  unfold intV
  rw [List.getElem?_map, List.getElem?_eq_getElem hj, Int.toNat_natCast, List.getD_eq_getElem?_getD, List.getElem?_eq_getElem hj]
  rfl
theorem intV_map {α : Type} (g : α → Nat) (l : List α) : intV (l.map g) = l.map fun x => V.int ((g x : Nat) : Int) := by
  unfold intV
  rw [List.map_map]
  rfl
theorem intV_ints (l : List Nat) : intV l = (l.map fun (n : Nat) => (n : Int)).map V.int := by
  unfold intV
  rw [List.map_map]
  rfl
theorem intV_range (cs : List Nat) : (List.range cs.length).map (fun i => V.int ((cs.getD i 0 : Nat) : Int)) = intV cs := range_getD (fun n : Nat => V.int (n : Int)) 0 cs
theorem ljust_pad {ks : List Nat} (h : ks.length ≤ 9) : Txt.ljust (sO (ks.map sg)) 9 = sO ((pad ks).map sg) := by
  have e := ljust_sO (ks.map sg) 9 (by rw [List.length_map]; exact h)
  rw [List.length_map] at e
  unfold pad
  rw [List.map_append, List.map_replicate]
  exact e
/-! numbers as data -/
def intsD (l : List Nat) : PyData := .tuple ((l.map fun (n : Nat) => (n : Int)).map PyData.int)
theorem lay_ints : ∀ l : List Int, PyData.canLayAll0 (l.map PyData.int) = true
  | [] => rfl
  | _ :: r => lay_ints r
theorem lay_intsD (l : List Nat) : (intsD l).canLay0 = true := lay_ints _
theorem dep_ints : ∀ l : List Int, PyData.depthAll (l.map PyData.int) = 0
  | [] => rfl
  | x :: r => by
    show max 0 (PyData.depthAll (r.map PyData.int)) = 0
    rw [dep_ints r]
    rfl
theorem dep_intsD (l : List Nat) : (intsD l).depth ≤ 1 := by
  show PyData.depthAll _ + 1 ≤ 1
  rw [dep_ints]
  exact Nat.le_refl 1
theorem wd_ints : ∀ l : List Int, wdA (l.map PyData.int) = true
  | [] => rfl
  | _ :: r => wd_ints r
theorem wd_intsD {l : List Nat} (h : l.length ≤ 100000) : wdB (intsD l) = true := by
  show (decide (_ ≤ 100000) && wdA _) = true
  rw [wd_ints, List.length_map, List.length_map, decide_eq_true h]
  rfl
theorem dx_intsD {K : PySem.W.Frag} {H : Hp} {p : Addr} {l : List Nat} (h : H p = some (.tup (intV l))) : Dx K H noS (.ref p) (intsD l) := by
  rw [intV_ints] at h
  exact .tup (XT.of h fun z => z.elim) (dxAll_ints _)
/-! parts of a tuple -/
theorem cutV_lo {xs : List V} (k : Nat) : cutV xs (some (k : Int)) none = xs.drop k := by
  show (xs.drop (HT.sIx xs.length 0 (some (k : Int)))).take (HT.sIx xs.length xs.length none - HT.sIx xs.length 0 (some (k : Int))) = _
  rw [HT.sIx_nat, HT.sIx_none, List.take_of_length_le (by rw [List.length_drop]; omega)]
  by_cases h : k ≤ xs.length
  · rw [Nat.min_eq_left h]
  · rw [Nat.min_eq_right (by omega), List.drop_length, List.drop_of_length_le (by omega)]
theorem cutV_hi {xs : List V} (k : Nat) : cutV xs none (some (k : Int)) = xs.take k := by
  show (xs.drop (HT.sIx xs.length 0 none)).take (HT.sIx xs.length xs.length (some (k : Int)) - HT.sIx xs.length 0 none) = _
  rw [HT.sIx_nat, HT.sIx_none, List.drop_zero, Nat.sub_zero]
  by_cases h : k ≤ xs.length
  · rw [Nat.min_eq_left h]
  · rw [Nat.min_eq_right (by omega), List.take_length, List.take_of_length_le (by omega)]
theorem slA_of {K : PySem.W.Frag} {H : Hp} {a : Addr} {xs : List V} {lo hi : Option Int} {Q : VK} (h : SqT K H a xs) (q : ∀ p H', Same H H' → SqT K H' p (cutV xs lo hi) → Q (.ref p) H') : rSlA K (.ref a) lo hi H Q := by
  refine ⟨a, xs, rfl, h, fun e => q a H (Same.refl _) ?_, fun _ p hp => q p _ (same_new hp) (SqT.of upd_same)⟩
  have : cutV xs lo hi = xs := by
    show (xs.drop (HT.sIx xs.length 0 lo)).take (HT.sIx xs.length xs.length hi - HT.sIx xs.length 0 lo) = _
    rw [e.1, e.2, List.drop_zero, Nat.sub_zero, List.take_length]
  rw [this]
  exact h
end RK

namespace RK
open PySem PySem.Spec PyProof.Rows L2
/-! ### an own error that keeps one thing, and a try whose first clause names it -/
/-- what the first clause wishes: the error is its own -/
def wHit (K : PySem.W.Frag) (c : Value) (i : Nat) (ts : Addr → Value → Option Addr → TS) (D : Ends) : WX := fun cls d σ H => PySem.W.exmOne K cls c = some true ∧
  ∀ a, H a = none → ts a cls d ⟨fun σ' H' => D.nx (σ'.set i none) H', D.rt, fun σ' H' => D.bk (σ'.set i none) H', fun σ' H' => D.ct (σ'.set i none) H'⟩ (σ.set i (some (.ref a))) H
section
variable {X : Cx} {x n : Str} {c : Value} {i : Nat} {body suite : List Stmt} {hds : List ExceptHandler} {b₀ : Stmt} {np pos pos' : Pos} {tb : WX → TS} {ts : Addr → Value → Option Addr → TS} {pins : List (Addr × Obj)}
/-- what the body leaves, seen from outside the try -/
theorem flow_out {D : Ends} {xe : Value → Shared → Prop} (ok : X.Ok) {f : Flow} {s1 : Shared} (h : SP (X.tr (X.pn ++ pins) xe) [] D f s1) : SP X pins D f s1 := by
  cases f with
  | ret u => exact let ⟨v, σ', H', J, r, q⟩ := h; ⟨v, σ', H', J.ofTry ok, r, q⟩
  | next => exact let ⟨σ', H', J, q⟩ := h; ⟨σ', H', J.ofTry ok, q⟩
  | brk => exact let ⟨σ', H', J, q⟩ := h; ⟨σ', H', J.ofTry ok, q⟩
  | cont => exact let ⟨σ', H', J, q⟩ := h; ⟨σ', H', J.ofTry ok, q⟩
/-- an error that flies stands in no frame -/
theorem no_frame {B h : Heap} {l : List Env} {a : Addr} {o : Obj} {vs : Array Value} (ff : h.FunFrames B l) (e : h.get? a = some o) (hd : o.data = .fields vs) : a ∉ frs l := fun hm => by
  obtain ⟨_, o2, e2, no⟩ := ff.mem hm
  have : o2 = o := Option.some.inj (e2.symm.trans e)
  exact no vs (this ▸ hd)
/-- the first clause's test -/
theorem names_it {a : Addr} {o : Obj} {σ : L2.St} {H : Hp} {s : Shared} {Q : Value → Shared → Prop} {E : Value → Shared → Prop} (hc : Names X x c) (S : Inv (X.suite a ((a, o) :: (X.pn ++ pins))) [] σ H s) (q : Q c s) :
    wpAny (model X.prog X.w) (X.A.mark (some (.ref a))) (eval (.Name x np) X.env) Q E s := by
  rcases hc with ⟨hg, hd, h | ⟨h1, h2, h3⟩⟩
  · exact ld_glob (X := Cx.suite X a ((a, o) :: (X.pn ++ pins))) S hg h q hd
  · exact ld_blt (X := Cx.suite X a ((a, o) :: (X.pn ++ pins))) S hg h1 h2 q h3 hd
end

/-! ### an own error class C: __init__(self, f): self.f = f -/
/-- what __init__ does of a fresh error -/
def spKeep (f : Str) (C : Addr) : Sp := fun vs H Q _ => ∃ (a : Addr) (v : V), vs = [.ref a, v] ∧ H a = some (exo a C none) ∧ ∀ dx, H dx = none → dx ≠ a → Q .non (upd (upd H dx (exd dx [(f, v)])) a (exo a C (some dx)))
structure ErrC (K : PySem.W.Frag) (mg : Str → Option Value) (x f : Str) (C fI : Addr) (fd : FuncData) : Prop where
  g : mg x = some (.ref C)
  ox : OexC K C
  no : PySem.W.findIn K (.ref C) f = some none
  iC : PySem.W.findIn K (.ref C) "__init__" = some (some (.ref fI))
  tI : PySem.W.typeIn K (.ref fI) = some (.type "function")
  b : Binds K fd ["self", f] []
  xf : XfC K C
  ex : ExcC K C
  te : PySem.W.exmOne K (.ref C) (.ref C) = some true
section
variable {X : Cx} {x f : Str} {C fI : Addr} {fd : FuncData} {k : Nat} {e : Expr} {es : List Expr} {ta : TA} {p pos : Pos}
/-- C(e), to be raised -/
theorem pmk_err (T : ErrC X.K X.mg x f C fI fd) (F1 : FnOk X.prog X.w X.K X.mg X.base CX0 k fI fd ["self", f] (spKeep f C)) (hr : Room (k + 1) X.A) (ha : PA X (e :: es) ta) (hg : Gl X x := by rfl) (hdb : (x == ("__debug__" : Str)) = false := by decide)
    (he : starEach (e :: es) X.env = (false, eval e X.env) :: starEach es X.env := by rfl) (hpl : (backTo pos (starEach es X.env)).any (·.1) = false := by rfl) : PMk X (.Call (.Name x p) (e :: es) [] pos) (tMkO C (spKeep f C) [] ta) :=
  pmk_oex T.ox T.iC T.tI F1 hr T.b .nil (fun _ _ _ _ _ _ _ z => z.elim) hg T.g ha hdb he hpl
/-- the end of its reading -/
theorem keep_end {H1 : Hp} {v : V} {Q : XK} (q : ∀ d H2, Same H1 H2 → H1 d = none → H2 d = some (.xd [(f, v)]) → Q (.ref C) (some d) H2) : ([v] : List V).length ≤ 1000 ∧ ∀ a, H1 a = none → spKeep f C (.ref a :: ([v] ++ [])) (upd H1 a (exo a C none))
    (fun v H2 => v = .non ∧ ∃ (d : Addr) (fs : List (Str × V)), H2 a = some (exo a C (some d)) ∧ H2 d = some (exd d fs) ∧ H1 d = none ∧ Q (.ref C) (some d) (upd (del H2 a) d (.xd fs))) (fun _ _ _ => False) := by
  refine ⟨by show 1 ≤ 1000; decide, fun a na => ⟨a, v, rfl, upd_same, fun dx nd ne => ⟨rfl, dx, [(f, v)], upd_same, ?_, ?_, ?_⟩⟩⟩
  · rw [upd_ne ne, upd_same]
  · rw [upd_ne ne] at nd
    exact nd
  · rw [upd_ne ne] at nd
    refine q dx _ (fun b o eb => ?_) nd upd_same
    have b1 : b ≠ dx := ne_of_none eb nd
    have b2 : b ≠ a := ne_of_none eb na
    rw [upd_ne b1, del_ne b2, upd_ne b2, upd_ne b1, upd_ne b2]
    exact eb
/-- isinstance(e, c), e the error in hand whose own dict is dd -/
def rIsEx (K : PySem.W.Frag) (D a dd : Addr) : List V → Hp → VK → Prop := fun xs H Q => ∃ (c : V) (cv : Value) (b : Bool) (fs : List (Str × V)), xs = [.ref a, c] ∧ (∀ u, RelV c u → u = cv) ∧ PySem.W.kitOne K (.ref D) cv = some b ∧ H dd = some (.xd fs) ∧ Q (.bl b) H
theorem call_isEx {a D : Addr} {o : Obj} {cls : Value} {d : Option Addr} {ps : List (Addr × Obj)} (T : ExcC X.K D) (hz : Zc cls d o) (hf : ∃ vs, o.data = .fields vs) :
    CallR (X.suite a ((a, o) :: ps)) (.builtin "isinstance") (fun xs H Q => ∃ dd, cls = .ref D ∧ d = some dd ∧ rIsEx X.K D a dd xs H Q) := by
  intro pins s σ H xs us Q I r h
  obtain ⟨dd, rfl, rfl, c, cv, b, fs, rfl, hcv, hk, hd, q⟩ := h
  obtain ⟨u1, u2, rfl, r1, r2⟩ := vals2 r
  obtain rfl := hcv u2 r2
  cases r1
  obtain ⟨ga, _⟩ := I.pin (a, o) (List.mem_append_left _ List.mem_cons_self)
  obtain ⟨vs, ef⟩ := hf
  obtain ⟨mA, hns, _⟩ := (show ObjOk X.prog X.w H s.heap dd (.xd fs) from I.hok dd _ hd)
  obtain ⟨od, ho, _⟩ := lookIn_ns hns
  have J : PySem.W.InstAt s.heap a o D (some od) := ⟨ga, hz.1, by unfold PySem.W.notCls; rw [ef], by rw [hz.2]; exact ho⟩
  have hc : (PySem.W.clsIn X.K D).isSome = true := by
    have := T.hd
    unfold PySem.W.hasDictIn at this
    cases e : PySem.W.clsIn X.K D with
    | none => rw [e] at this; cases this
    | some => rfl
  exact PySem.W.kia_one (PySem.W.kitx_exc hc T.hg T.hk T.hs T.ha T.hn T.ht T.hm) I.kIn J hk (fun z => nomatch z) fun tk => ⟨.bl b, H, I.kept (t' := tk) fun _ _ z => z, rfl, q⟩
end
end RK

namespace RK
open PySem PySem.Spec PyProof.Rows L2 HotX
/-! ### the end of a walk over a list or a tuple while an error is handled -/
section
variable {prog : Program} {w : World} {A : Around} {E : Value → Shared → Prop} {s : Shared}
theorem next_list_hot {it l x1 : Addr} {i : Nat} {items : Array Value} {Q : Option Value → Shared → Prop} (hot : HotAt A x1 s.heap) (ne : x1 ≠ it) (hit : s.heap.IsListIter it l i) (hl : s.heap.IsList l items) (hx : items[i]? = none)
    (hQ : ∀ h', (∀ b o, b ≠ it → s.heap.get? b = some o → h'.get? b = some o) → Q none { s with heap := h' }) : wpAny (model prog w) A (pyNext (.ref it)) Q E s := by
  obtain ⟨hh, o1, vs1, h1, d1, c1⟩ := hot
  obtain ⟨oi, gi, ci, di⟩ := id hit
  obtain ⟨ol, gl, _, nl, dl⟩ := hl
  unfold pyNext
  refine wpAny_bind (wpAny_attempt (wpAny_callSpecial?_slot (name := "__next__") hit.typeIs slot_listiter_next (wpAny_call_entry slot_listiter_next hit.typeIs entry_listiter_next ?_ (args_listiter_next _))))
  refine wpAny_bind (m := field (.ref it) 0) (wpAny_field gi di (x := .ref l) rfl ?_)
  refine (if_neg (Bool.false_ne_true : ¬ ((Value.ref l == Value.none) = true))).symm ▸ ?_
  refine wpAny_bind (m := field (.ref it) 1) (wpAny_field gi di (x := .int i 0) rfl (wpAny_bind (m := seqItems? (.ref l)) (wpAny_seqItems gl dl ?_)))
  simp only [Int.toNat_natCast, hx]
  refine wpAny_bind (wpAny_rule (wpAny_bind (wpAny_setField gi di (by simp) (wpAny_bind (m := newExc (.type "StopIteration") []) ?_))))
  simp only [newExc, newTuple]
  refine wpAny_bind (wpAny_newObj_type (wpAny_bind (m := firstArgMember _ _) (wpAny_of_eq (a := Value.none) (by first | rfl | (simp only [firstArgMember]; rfl)) (wpAny_newObj_type ?_ (by size_fits)))) (by size_fits))
  have k0 : ∀ b o, b ≠ it → s.heap.get? b = some o → (s.heap.update it (Obj.mapFields (·.setIfInBounds 0 Value.none))).get? b = some o := fun b o n e => by
    rw [Heap.get?_update_other _ _ (Ne.symm n)]; exact e
  have u1 := Heap.get?_push_of_some { cls := .type "tuple", data := .seq #[] } (k0 _ _ ne h1)
  refine raiseNew_hot ⟨hh, o1, vs1, Heap.get?_push_of_some _ u1, d1, c1⟩ (Nat.ne_of_lt (Heap.lt_size u1)) (Heap.get?_push_size _ rfl) rfl (by first | (simp; done) | (simp; omega)) (wpAny_bind (wpAny_isInstance (T := "StopIteration") (b := true) ⟨_, Heap.get?_update_self _ (Heap.get?_push_size _ rfl) rfl, rfl⟩ isSubtype_stop (wpAny_pure (hQ _ fun b o n e => ?_))))
  have u2 := Heap.get?_push_of_some { cls := .type "tuple", data := .seq #[] } (k0 _ _ n e)
  rw [Heap.get?_update_other _ _ (Nat.ne_of_gt (Heap.lt_size u2))]; exact Heap.get?_push_of_some _ u2
theorem next_tuple_hot {it l x1 : Addr} {i : Nat} {items : Array Value} {Q : Option Value → Shared → Prop} (hot : HotAt A x1 s.heap) (ne : x1 ≠ it) (hit : s.heap.IsTupleIter it l i) (hl : s.heap.IsTuple l items) (hx : items[i]? = none)
    (hQ : ∀ h', (∀ b o, b ≠ it → s.heap.get? b = some o → h'.get? b = some o) → Q none { s with heap := h' }) : wpAny (model prog w) A (pyNext (.ref it)) Q E s := by
  obtain ⟨hh, o1, vs1, h1, d1, c1⟩ := hot
  obtain ⟨oi, gi, ci, di⟩ := id hit
  obtain ⟨ol, gl, _, nl, dl⟩ := hl
  unfold pyNext
  refine wpAny_bind (wpAny_attempt (wpAny_callSpecial?_slot (name := "__next__") hit.typeIs F.slot_tuple_iterator_next (wpAny_call_entry F.slot_tuple_iterator_next hit.typeIs F.entry_tuple_iterator_next ?_ (F.args_tuple_iterator_next_1 _))))
  refine wpAny_bind (m := field (.ref it) 0) (wpAny_field gi di (x := .ref l) rfl ?_)
  refine (if_neg (Bool.false_ne_true : ¬ ((Value.ref l == Value.none) = true))).symm ▸ ?_
  refine wpAny_bind (m := field (.ref it) 1) (wpAny_field gi di (x := .int i 0) rfl (wpAny_bind (m := seqItems? (.ref l)) (wpAny_seqItems gl dl ?_)))
  simp only [Int.toNat_natCast, hx]
  refine wpAny_bind (wpAny_rule (wpAny_bind (wpAny_setField gi di (by simp) (wpAny_bind (m := newExc (.type "StopIteration") []) ?_))))
  simp only [newExc, newTuple]
  refine wpAny_bind (wpAny_newObj_type (wpAny_bind (m := firstArgMember _ _) (wpAny_of_eq (a := Value.none) (by first | rfl | (simp only [firstArgMember]; rfl)) (wpAny_newObj_type ?_ (by size_fits)))) (by size_fits))
  have k0 : ∀ b o, b ≠ it → s.heap.get? b = some o → (s.heap.update it (Obj.mapFields (·.setIfInBounds 0 Value.none))).get? b = some o := fun b o n e => by
    rw [Heap.get?_update_other _ _ (Ne.symm n)]; exact e
  have u1 := Heap.get?_push_of_some { cls := .type "tuple", data := .seq #[] } (k0 _ _ ne h1)
  refine raiseNew_hot ⟨hh, o1, vs1, Heap.get?_push_of_some _ u1, d1, c1⟩ (Nat.ne_of_lt (Heap.lt_size u1)) (Heap.get?_push_size _ rfl) rfl (by first | (simp; done) | (simp; omega)) (wpAny_bind (wpAny_isInstance (T := "StopIteration") (b := true) ⟨_, Heap.get?_update_self _ (Heap.get?_push_size _ rfl) rfl, rfl⟩ isSubtype_stop (wpAny_pure (hQ _ fun b o n e => ?_))))
  have u2 := Heap.get?_push_of_some { cls := .type "tuple", data := .seq #[] } (k0 _ _ n e)
  rw [Heap.get?_update_other _ _ (Nat.ne_of_gt (Heap.lt_size u2))]; exact Heap.get?_push_of_some _ u2
end
/-! ### walks over lists and tuples there -/
section
variable {P : Program} {w : World} {K : PySem.W.Frag} {tg : Expr} (a it : Addr)
theorem turn_listH : L2H.TurnH P w K tg (Itl K a) [it] it (fun i h => h.IsListIter it a i) := by
  have T : Turn P w K tg (Itl K a) [it] it (fun i h => h.IsListIter it a i) := turn_list a it
  refine ⟨T.mem, T.obj, T.keep, ?_, ?_, T.self⟩
  · rintro X rfl rfl rfl - i pins s σ H E I hf st ⟨xs, x, hq, hx⟩
    obtain ⟨its, rv, pl, _⟩ := I.list hq
    obtain ⟨u, hu, ru⟩ := rv.get hx
    obtain ⟨g0, g1, g2, g3, g4, g5⟩ := hf it T.mem
    refine wpAny_pyNext_list_item st pl.isList (x := u) (by simpa using hu) fun h2 st2 sb => ⟨u, rfl, ?_⟩
    obtain ⟨o, eo, co, dd⟩ := id st2
    refine go_of (s := { s with heap := h2 }) eo co dd (by decide) ⟨x, H, I.turned (t' := s.toks) (fun b ob hb e => (sb.2 b hb).trans e) g0 g1 g3 g4 g5, ru, ⟨rfl, fun ys hy => ?_⟩, st2, fun b hb => (hf b hb).1⟩
    rw [I.list_inj hy hq, hx]
  · rintro X rfl rfl rfl hc i pins s σ H E I hf st ⟨xs, hq, hx⟩
    obtain ⟨its, rv, pl, _⟩ := I.list hq
    obtain ⟨g0, g1, g2, g3, g4, g5⟩ := hf it T.mem
    obtain ⟨p, ⟨hh, vs1, d1, c1⟩, hp⟩ := hc
    have P1 := I.pin p (List.mem_append_left _ hp)
    have hl := rv.length
    exact next_list_hot ⟨hh, p.2, vs1, P1.1, d1, c1⟩ (g5 p (List.mem_append_left _ hp)) st pl.isList (by simp; omega) fun h2 eb => ⟨rfl, I.turned (t' := s.toks) (fun b ob hb e => eb b ob hb e) g0 g1 g3 g4 g5⟩
theorem turn_tupleH : L2H.TurnH P w K tg (Itt K a) [it] it (fun i h => h.IsTupleIter it a i) := by
  have T : Turn P w K tg (Itt K a) [it] it (fun i h => h.IsTupleIter it a i) := turn_tuple a it
  refine ⟨T.mem, T.obj, T.keep, ?_, ?_, T.self⟩
  · rintro X rfl rfl rfl - i pins s σ H E I hf st ⟨xs, x, hq, hx⟩
    obtain ⟨its, rv, pl, _⟩ := I.tuple hq
    obtain ⟨u, hu, ru⟩ := rv.get hx
    obtain ⟨g0, g1, g2, g3, g4, g5⟩ := hf it T.mem
    refine wpAny_pyNext_tuple_item st (show s.heap.IsTuple a its.toArray from pl) (x := u) (by simpa using hu) fun h2 st2 sb => ⟨u, rfl, ?_⟩
    obtain ⟨o, eo, co, dd⟩ := id st2
    refine go_of (s := { s with heap := h2 }) eo co dd (by decide) ⟨x, H, I.turned (t' := s.toks) (fun b ob hb e => (sb.2 b hb).trans e) g0 g1 g3 g4 g5, ru, ⟨rfl, fun ys hy => ?_⟩, st2, fun b hb => (hf b hb).1⟩
    rw [I.tuple_inj hy hq, hx]
  · rintro X rfl rfl rfl hc i pins s σ H E I hf st ⟨xs, hq, hx⟩
    obtain ⟨its, rv, pl, _⟩ := I.tuple hq
    obtain ⟨g0, g1, g2, g3, g4, g5⟩ := hf it T.mem
    obtain ⟨p, ⟨hh, vs1, d1, c1⟩, hp⟩ := hc
    have P1 := I.pin p (List.mem_append_left _ hp)
    have hl := rv.length
    exact next_tuple_hot ⟨hh, p.2, vs1, P1.1, d1, c1⟩ (g5 p (List.mem_append_left _ hp)) st (show s.heap.IsTuple a its.toArray from pl) (by simp; omega) fun h2 eb => ⟨rfl, I.turned (t' := s.toks) (fun b ob hb e => eb b ob hb e) g0 g1 g3 g4 g5⟩
end
section
variable {X : Cx} {tg l : Expr} {tl : TE}
theorem pi_listH (hl : PE X l tl) : L2H.PIH X tg l (iList X.K tl) := by
  refine ⟨fun pins s σ H R I h => thn (hl.run pins s σ H _ I h) fun v s1 ⟨x, H1, I1, r1, a, ex, ⟨xs, hq⟩, q⟩ => ?_⟩
  subst ex; cases r1
  obtain ⟨its, rv, pl, _⟩ := I1.list hq
  refine wpAny_pyIter_list pl.isList ⟨s1.heap.objs.size, [s1.heap.objs.size], _, _, H1, rfl, I1.kept (t' := s1.toks) fun b o e => Heap.get?_push_of_some _ e, turn_listH a _, ⟨_, Heap.get?_push_size _ rfl, rfl, rfl⟩, fun b hb => ?_, q⟩
  rw [List.mem_singleton.mp hb]
  exact I1.fpOk (Nat.le_refl _) (I1.hok.fresh (Nat.le_refl _))
theorem pi_tupH (hl : PE X l tl) : L2H.PIH X tg l (iTup X.K tl) := by
  refine ⟨fun pins s σ H R I h => thn (hl.run pins s σ H _ I h) fun v s1 ⟨x, H1, I1, r1, a, ex, ⟨xs, hq⟩, q⟩ => ?_⟩
  subst ex; cases r1
  obtain ⟨its, rv, pl, _⟩ := I1.tuple hq
  refine wpAny_pyIter_tuple (show s1.heap.IsTuple a its.toArray from pl) ⟨s1.heap.objs.size, [s1.heap.objs.size], _, _, H1, rfl, I1.kept (t' := s1.toks) fun b o e => Heap.get?_push_of_some _ e, turn_tupleH a _, ⟨_, Heap.get?_push_size _ rfl, rfl, rfl⟩, fun b hb => ?_, q⟩
  rw [List.mem_singleton.mp hb]
  exact I1.fpOk (Nat.le_refl _) (I1.hok.fresh (Nat.le_refl _))
theorem PIH_or {w1 w2 : TI} (h1 : L2H.PIH X tg l w1) (h2 : L2H.PIH X tg l w2) : L2H.PIH X tg l (fun σ H R => w1 σ H R ∨ w2 σ H R) :=
  ⟨fun pins s σ H R I h => h.elim (h1.run pins s σ H R I) (h2.run pins s σ H R I)⟩
end
/-! ### list comprehensions there: the block keeps the error that is handled among its pins -/
abbrev blkH (X : Cx) (s : Shared) (H : Hp) (scope : Scope) (ce : Env) (fp : List Addr) (p : Addr × Obj) : Cx := { X.blk s H scope ce fp with pn := [p] }
section
variable {X : Cx} {pins : List (Addr × Obj)} {s : Shared} {σ : L2.St} {H : Hp} {Q : VK} {elt tg iter : Expr} {ifs : List Expr} {scope : Scope} {own : List (Str × Nat)} {pos pos2 : Pos} {wi : TI} {g : TG} {tt : TT} {te : TE}
theorem okH {s3 : Shared} {ce : Env} {fp : List Addr} {p : Addr × Obj} (nc : X.calm = false) (ok : (X.blk s3 H scope ce fp).Ok) : (blkH X s3 H scope ce fp p).Ok :=
  ⟨ok.mod, ok.kind, ok.glob, ok.blt, ok.above, ok.inj, ok.has, ok.cab, fun z => absurd (nc.symm.trans z) Bool.false_ne_true, ok.frames, ok.stk, ok.exf, ok.bs, ok.bsz, ok.noex, ok.exfs, ok.funs, ok.frf⟩
theorem comp_hot {Qf : Value → Shared → Prop} (nc : X.calm = false) {p : Addr × Obj} (hot : L2H.Hot1 X.A p) (hp : p ∈ X.pn) (hN : X.N.Nodup) (I : Inv X pins σ H s) (hi : L2H.PIH X tg iter wi) (ok : BlkOk X.N X.env.scope scope own)
    (hg : ∀ s H C cl fp, PG (blkH X s H scope (compEnvC scope cl C X.env) fp p) tg g) (ht : ∀ s H C cl fp, PTs (blkH X s H scope (compEnvC scope cl C X.env) fp p) ifs tt)
    (he : ∀ s H C cl fp, PE (blkH X s H scope (compEnvC scope cl C X.env) fp p) elt te) (hs : ∀ x, foldedSetIterable iter X.env x = pure x) (h : tLc wi g tt te (own.map (·.2)) σ H Q)
    (hR : ∀ D C s' m H', Inv X pins σ H' s' → Q (.ref D) H' → s'.heap.Ns C m → FpOk X pins H' C → compPost (model X.prog X.w) X.A X.xe none Qf (.ref D) C (.ok .next) s') :
    wpAny (model X.prog X.w) X.A (comprehension (.ListComp elt [⟨tg, iter, ifs, 0⟩] scope pos) scope X.env pos2 (newList []) false (eval iter X.env) none) Qf X.xe s := by
  have free : ∀ y ∈ scope.names, y.2 = .free → ∃ c, X.env.cells.lookup y.1 = some c := fun y hy e => I.ok.has _ (ok.free y hy e)
  refine wpAny_comprehension_free (use := none) rfl hs (closure_ok free) ok.kind (fun y hy e => (ok.uniq y hy).trans (congrArg some e)) (thn (hi.run pins s σ H _ I h) fun _ t1 hx => thn hx fun _ t2 ⟨it, fp, tn, J, H2, ei, I2, T, st2, f2, q⟩ => ?_)
  subst ei
  refine wpAny_newObj_type (newEnv_comp ?_) (Nat.zero_le _)
  have nD : H2 t2.heap.objs.size = none := I2.hok.fresh (Nat.le_refl _)
  obtain ⟨W, ⟨m0, w0⟩, turn⟩ := q _ nD
  generalize eD : t2.heap.objs.size = D at nD w0 turn ⊢
  generalize e3 : ({ t2 with heap := t2.heap.push { cls := .type "list", data := .seq ([] : List Value).toArray } } : Shared) = t3
  have hp3 : t3.heap = t2.heap.push { cls := .type "list", data := .seq ([] : List Value).toArray } := by rw [← e3]
  have I3 : Inv X pins σ (upd H2 D (.lst [])) t3 := by
    rw [← e3]
    exact I2.laid (t' := t2.toks) (fun b o e => Heap.get?_push_of_some _ e) (Nat.le_of_eq eD) ⟨Nat.zero_le _, [], 0, .nil, by rw [← eD]; exact Heap.get?_push_size _ rfl⟩
  have f3 : ∀ b ∈ fp, FpOk X pins (upd H2 D (.lst [])) b ∧ b < t3.heap.objs.size := fun b hb => by
    obtain ⟨o, eo, _⟩ := T.obj _ _ st2 b hb
    have lt : b < D := by rw [← eD]; exact Heap.lt_size eo
    exact ⟨⟨(upd_ne (Nat.ne_of_lt lt)).trans (f2 b hb).1, (f2 b hb).2⟩, by rw [hp3, Heap.size_push, eD]; exact Nat.lt_succ_of_lt lt⟩
  have I4 := block_start I3 ok hN f3
  have P3 := I3.pin p (List.mem_append_left _ hp)
  have pS : p.1 ∉ frs X.stack := fun hm => (List.mem_cons.mp (I3.stkSub p.1 hm)).elim P3.2.2.1 P3.2.2.2.1
  have pg := hg t3 (upd H2 D (.lst [])) t3.heap.objs.size (cellsFrom (t3.heap.objs.size + 1) scope.names (cloFrom X.env.cells scope.names [])) fp
  have pt := ht t3 (upd H2 D (.lst [])) t3.heap.objs.size (cellsFrom (t3.heap.objs.size + 1) scope.names (cloFrom X.env.cells scope.names [])) fp
  have pe := he t3 (upd H2 D (.lst [])) t3.heap.objs.size (cellsFrom (t3.heap.objs.size + 1) scope.names (cloFrom X.env.cells scope.names [])) fp
  show codeAny _ _ (.compStart _ 0 (.ref it) (.ref D) (compEnvC scope (cellsFrom (t3.heap.objs.size + 1) scope.names (cloFrom X.env.cells scope.names [])) t3.heap.objs.size X.env)) (compPost _ X.A X.xe none Qf (.ref D) t3.heap.objs.size) { t3 with heap := pushCells (t3.heap.push { cls := .type "dict", data := .dict #[] }) scope.names }
  have nfp : ∀ b ∈ fp, (upd H2 D (.lst [])) b = none := fun b hb => (f3 b hb).1.1
  generalize hce : compEnvC scope (cellsFrom (t3.heap.objs.size + 1) scope.names (cloFrom X.env.cells scope.names [])) t3.heap.objs.size X.env = ce at I4 pg pt pe ⊢
  have cL : ce.locals = t3.heap.objs.size := by rw [← hce]; rfl
  generalize hH3 : upd H2 D (.lst []) = H3 at I3 I4 P3 pg pt pe w0 nfp f3
  generalize hs4 : ({ t3 with heap := pushCells (t3.heap.push { cls := .type "dict", data := .dict #[] }) scope.names } : Shared) = t4 at I4 ⊢
  have k4 : ∀ b o, t3.heap.get? b = some o → t4.heap.get? b = some o := fun b o e => by rw [← hs4]; exact pushCells_keeps _ _ _ _ (Heap.get?_push_of_some _ e)
  have k3 : ∀ b o, t2.heap.get? b = some o → t4.heap.get? b = some o := fun b o e => k4 b o (by rw [hp3]; exact Heap.get?_push_of_some _ e)
  have st4 : tn 0 t4.heap := T.keep _ _ _ st2 fun b _ o e => k3 b o e
  have J4 : Inv (blkH X t3 H3 scope ce fp p) [] (wipe σ (own.map (·.2))) H3 t4 := ⟨okH nc I4.ok, I4.os, I4.bare, I4.base, I4.loc, I4.cell, I4.free, I4.freeC, fun r hr => by
    have er : r = p := by simpa using hr
    subst er
    exact ⟨k4 _ _ P3.1, P3.2.1, by rw [show (blkH X t3 H3 scope ce fp r).env.locals = t3.heap.objs.size from cL]; exact Nat.ne_of_lt (Heap.lt_size P3.1), pS, P3.2.2.2.2⟩, I4.hok, I4.len⟩
  have hc : L2H.HotC (blkH X t3 H3 scope ce fp p) := ⟨p, hot, List.mem_cons_self⟩
  have stat : ∀ {σ' : L2.St} {H' : Hp} {s' : Shared}, Inv (blkH X t3 H3 scope ce fp p) [] σ' H' s' → (∀ b ∈ fp, H' b = none) → ∀ b ∈ fp, FpOk (blkH X t3 H3 scope ce fp p) [] H' b := fun I' hn b hb =>
    ⟨hn b hb, (I'.ok.exf b hb).1, I'.ok.exfs b hb, .inl hb, (I'.ok.exf b hb).2, fun r hr => by
      have er : r = p := by simpa using hr
      rw [er]
      exact (f2 b hb).2.2.2.2.2 p (List.mem_append_left _ hp)⟩
  have loop : codeAny (model X.prog X.w) X.A (.compLoop (.ListComp elt [⟨tg, iter, ifs, 0⟩] scope pos) 0 (.ref it) (.ref D) ce) (compPost (model X.prog X.w) X.A X.xe none Qf (.ref D) t3.heap.objs.size) t4 := by
    refine compLoop_any (fun n s' => ∃ i H', Inv (blkH X t3 H3 scope ce fp p) [] (wipe σ (own.map (·.2))) H' s' ∧ tn i s'.heap ∧ (∀ b ∈ fp, H' b = none) ∧ W i n H') (fun n t5 ⟨i, H5, I5, st5, n5, w5⟩ => ?_) m0 ⟨0, H3, J4, st4, nfp, w0⟩
    rcases turn i n H5 w5 with ⟨stop, qq⟩ | ⟨go, Nx, hNx, step⟩
    · refine thnF (T.done (blkH X t3 H3 scope ce fp p) rfl rfl rfl hc i [] t5 _ H5 (fun _ _ => False) I5 (stat I5 n5) st5 stop) fun r t6 ⟨er, I6⟩ => ?_
      subst er
      have I7 : Inv X pins σ H5 t6 := I3.call' (ch := fp) I6.os I6.base I6.hok I6.bare fun b hb => ⟨(f3 b hb).1.2.2.2.1, (f3 b hb).1.2.1, (f3 b hb).1.2.2.2.2.1, (f3 b hb).1.2.2.2.2.2⟩
      have nC : H5 t3.heap.objs.size = none := cL ▸ (I6.free : H5 ce.locals = none)
      obtain ⟨m, hn, _⟩ := I6.loc
      exact hR D _ t6 m H5 I7 qq (cL ▸ (hn : t6.heap.Ns ce.locals m)) (I3.fpOk (Nat.le_refl _) nC)
    · refine thnF (T.item (blkH X t3 H3 scope ce fp p) rfl rfl rfl hc i [] t5 _ H5 (fun _ _ => False) I5 (stat I5 n5) st5 go) fun r t6 ⟨u, er, h6⟩ => ?_
      subst er
      refine thnF h6 fun _ t7 ⟨x, H7, I7, r7, y7, st7, n7⟩ => thnF (pg.run _ t7 _ H7 x u _ (I7.pinned (stat I7 n7) (T.obj _ _ st7)) r7 (step x H7 y7)) fun _ t8 ⟨σ8, H8, I8, hw8, q8⟩ => thnF (pt.run _ t8 σ8 H8 _ I8 q8) fun b t9 ⟨H9, I9, q9⟩ => ?_
      have back : ∀ {s' : Shared} {H' : Hp}, Inv (blkH X t3 H3 scope ce fp p) ([] ++ pinsAt fp t7.heap) σ8 H' s' → Nx H' → ∃ m, m < n ∧ ∃ i H', Inv (blkH X t3 H3 scope ce fp p) [] (wipe σ (own.map (·.2))) H' s' ∧ tn i s'.heap ∧ (∀ b ∈ fp, H' b = none) ∧ W i m H' := fun {s' H'} I' nx => by
        obtain ⟨m', lt, w'⟩ := hNx H' nx
        have at_ : ∀ b ∈ fp, ∀ o, t7.heap.get? b = some o → s'.heap.get? b = some o ∧ H' b = none := fun b hb o e => ⟨(I'.pin (b, o) (.tail _ (mem_pinsAt hb e))).1, (I'.pin (b, o) (.tail _ (mem_pinsAt hb e))).2.1⟩
        refine ⟨m', lt, i + 1, H', (I'.unpinned (pins := [])).weak (by rw [← hw8, wipe_length]) (fun j v e => (wipe_some (hw8 ▸ e)).1), T.keep _ _ _ st7 fun b hb o e => (at_ b hb o e).1, fun b hb => ?_, w'⟩
        exact let ⟨o, e, _⟩ := T.obj _ _ st7 b hb; (at_ b hb o e).2
      cases b with
      | false => exact back I9 q9
      | true => exact thnF (pe.run _ t9 σ8 H9 _ I9 q9) fun z t10 ⟨yv, H10, I10, r10, acc, d10, z10, nx⟩ => app_ok (X := blkH X t3 H3 scope ce fp p) I10 d10 z10 r10 fun t11 I11 => back I11 nx
  exact codeAny_compStart_list loop (T.self X.A 0 _ _ _ st4 loop)
theorem pe_lcH (nc : X.calm = false) {p : Addr × Obj} (hot : L2H.Hot1 X.A p) (hp : p ∈ X.pn) (hN : X.N.Nodup) (hi : L2H.PIH X tg iter wi) (ok : BlkOk X.N X.env.scope scope own)
    (hg : ∀ s H C cl fp, PG (blkH X s H scope (compEnvC scope cl C X.env) fp p) tg g) (ht : ∀ s H C cl fp, PTs (blkH X s H scope (compEnvC scope cl C X.env) fp p) ifs tt)
    (he : ∀ s H C cl fp, PE (blkH X s H scope (compEnvC scope cl C X.env) fp p) elt te) (hs : ∀ x, foldedSetIterable iter X.env x = pure x := by intro _; rfl) : PE X (.ListComp elt [⟨tg, iter, ifs, 0⟩] scope pos) (tLc wi g tt te (own.map (·.2))) := by
  refine ⟨fun pins s σ H Q I h => ?_⟩
  rw [eval_ListComp]
  exact comp_hot nc hot hp hN I hi ok hg ht he hs h fun D C s2 m H2 I2 q hn f => ⟨m, hn, fun h2 sb => ⟨.ref D, H2, I2.turned (t' := s2.toks) (fun b o hb e => (sb.2 b hb).trans e) f.1 f.2.1 f.2.2.2.1 f.2.2.2.2.1 f.2.2.2.2.2, rfl, q⟩⟩
end
/-! ### errors raised where nothing is handled, their context None -/
section
variable {X : Cx} {x f : Str} {C fI : Addr} {fd : FuncData} {k : Nat} {e : Expr} {ta : TA} {p pos : Pos}
theorem pmk_errN (T : ErrC X.K X.mg x f C fI fd) (F1 : FnOk X.prog X.w X.K X.mg X.base CX0 k fI fd ["self", f] (spKeep f C)) (hr : Room (k + 1) X.A) (ha : PA X [e] ta) (hg : Gl X x := by rfl) (hdb : (x == ("__debug__" : Str)) = false := by decide)
    (he : starEach [e] X.env = (false, eval e X.env) :: starEach [] X.env := by rfl) (hpl : (backTo pos (starEach [] X.env)).any (·.1) = false := by rfl) : L2N.PMk X (.Call (.Name x p) [e] [] pos) (tMkO C (spKeep f C) [] ta) := by
  intro pins s σ H Q I h
  obtain ⟨nm, q, N, bs, bm, sn, sub, ab, col, dd, k0, k1, k2, k3, k5, lkC, vbm⟩ := T.ox.cls
  refine wpAny_Call_Name_kw (ld_glob I hg T.g (PySem.W.callWith_K (h₀ := X.base) I.ok.mod.kin T.ox.kC (thn (ha.run pos pins s σ H _ I h) fun us s1 ⟨vs, H1, I1, r1, lv, q1⟩ => ⟨I1.kIn, ?_⟩) he hpl) hdb)
  obtain ⟨hp, g, dr, tk, os⟩ := s1
  generalize ea : hp.objs.size + 1 = a
  have ge : hp.objs.size ≤ a := by omega
  have hq := q1 a (I1.hok.fresh ge)
  have kk : ∀ b o, hp.get? b = some o → ((hp.push (PySem.W.kdv_tup us)).push (PySem.HandSPX.excO C hp.objs.size)).get? b = some o := fun b o z => Heap.get?_push_of_some _ (Heap.get?_push_of_some _ z)
  have ga : ((hp.push (PySem.W.kdv_tup us)).push (PySem.HandSPX.excO C hp.objs.size)).get? a = some (PySem.HandSPX.excO C hp.objs.size) := by rw [← ea]; heap_get
  have I2 : Inv X pins σ (upd H1 a (exo a C none)) ⟨(hp.push (PySem.W.kdv_tup us)).push (PySem.HandSPX.excO C hp.objs.size), g, dr, tk, os⟩ := I1.laid (t' := tk) (o := exo a C none) kk ge (exo_ok ga)
  have r2 : Vals (V.ref a :: (vs ++ [])) (Value.ref a :: (us ++ [])) := .cons rfl (r1.append .nil)
  have lu : us.length ≤ sizeLine := by
    have := Paired.length r1; have : (1000 : Nat) ≤ sizeLine := by decide
    omega
  have ll : (Value.ref a :: us ++ []).length = (["self", f] : List Str).length := (r2.length).symm.trans (F1.len _ _ _ _ hq)
  have bb := T.b ⟨(hp.push (PySem.W.kdv_tup us)).push (PySem.HandSPX.excO C hp.objs.size), g, dr, tk, os⟩ (Value.ref a :: us) I2.kIn ll
  subst ea
  refine wpAny_call (PySem.HandSPX.call_own F.excBase_ValueError (fun Y => PySem.HandSPX.refsVE_contains Y bm vbm) (I1.kIn _ _ lkC) (PySem.W.looks_findIn I1.kIn T.iC) (fun self => PySem.W.bind_fn I1.kIn self T.tI) lu
    (codeAny_mono (F1.run _ X.stack _ _ ⟨Value.ref _ :: us, []⟩ _ _ _ (fun _ _ _ => False) (hr.make C us []) (I2.env0.make C us []) bb r2 hq) fun r s2 z => ?_))
  match r, z with
  | .error _, z => exact False.elim z
  | .ok .next, z => exact False.elim z
  | .ok .brk, z => exact False.elim z
  | .ok .cont, z => exact False.elim z
  | .ok (.ret u), ⟨v, H2, os2, bare2, un2, hok2, rv, ev, d, fs, e1, e2, e3, q2⟩ =>
    subst ev
    obtain ⟨h2, g2, d2, t2, os3⟩ := s2
    obtain ⟨t0, G, J, kG, gn, go, na⟩ := mk_end0 (d2 := d2) (t2 := t2) I1 ge kk un2 hok2 os2 bare2 e1 e2 e3
    exact ⟨rv, _, _, _, ⟨G, g2, d2, t2, os3⟩, _, .ref C, some d, rfl, J, kG, gn, go, ⟨rfl, rfl, fun vs z => by cases z; rfl⟩, rfl, rfl, na, rfl, bare2, raises_own T.ox.exC T.ox.tyC, q2⟩
/-- a def that may raise so -/
theorem Fun.okN {P : Program} {w : World} {K : PySem.W.Frag} {mg : Str → Option Value} {base : Heap} {x qual : Str} {st : Stmt} {f : Addr} {fd : FuncData} {N ps : List Str} {k : Nat} {sp : Sp} (F : Fun K x qual st f fd) (S : FnScope N ps (defScope st))
    (len : ∀ vs H Q E, sp vs H Q E → vs.length = ps.length) (body : ∀ (cdv : Value) (A : Around) (outer : List Env) (s : Shared) (H : Hp) (vs : List V) (Q : VK) (E : XK), Room k (A.deeper (envOfC qual (defScope st) s.heap.objs.size f cdv)) → sp vs H Q E →
      ∃ t, PSs (cxOf (L2N.CX P w) P w K mg base N qual (defScope st) f cdv A outer s H E) (defBody st) t ∧ t { nx := fun _ H' => Q .non H', rt := Q } (start N vs) H) : FnOk P w K mg base (L2N.CX P w) (k + 1) f fd ps sp := by
  obtain ⟨oc, od, kV, doc, pm, an, cdv, ct, osl, rfl, lk, hcd⟩ := F.ex
  exact fn_of lk hcd S len fun A outer s H vs Q E hr z => body cdv A outer s H vs Q E hr z
/-- a def called while an error is handled -/
theorem Fun.okH {P : Program} {w : World} {K : PySem.W.Frag} {mg : Str → Option Value} {base : Heap} {x qual : Str} {st : Stmt} {f : Addr} {fd : FuncData} {N ps : List Str} {k : Nat} {sp : Sp} (F : Fun K x qual st f fd) (S : FnScope N ps (defScope st))
    (len : ∀ vs H Q E, sp vs H Q E → vs.length = ps.length) (body : ∀ (cdv : Value) (A : Around) (outer : List Env) (s : Shared) (H : Hp) (vs : List V) (Q : VK) (E : XK) (p : Addr × Obj), L2H.Hot1 A p → L2H.RoomH k (A.deeper (envOfC qual (defScope st) s.heap.objs.size f cdv)) → sp vs H Q E →
      ∃ t, PSs (L2H.cxH CX0 P w K mg base N qual (defScope st) f cdv A outer s H E p).nox (defBody st) t ∧ t { nx := fun _ H' => Q .non H', rt := Q } (start N vs) H) : L2H.FnH P w K mg base CX0 (k + 1) f fd ps sp := by
  obtain ⟨oc, od, kV, doc, pm, an, cdv, ct, osl, rfl, lk, hcd⟩ := F.ex
  refine L2H.fn_ofH lk hcd S len fun A outer s H vs Q E p hot hr z => ?_
  obtain ⟨t, h1, h2⟩ := body cdv A outer s H vs Q E p hot hr z
  exact ⟨t, h1.nox, h2⟩
end
section
variable {X : Cx} {x n : Str} {c : Value} {i : Nat} {body suite : List Stmt} {hds : List ExceptHandler} {b₀ : Stmt} {np pos pos' : Pos} {tb : WX → TS} {ts : Addr → Value → Option Addr → TS} {pins : List (Addr × Obj)}
theorem ps_try_hitN (st : X.stack = X.env :: X.outer) (fr : X.env.frame = some X.env.locals) (ndN : X.N.Nodup) (ni : X.N[i]? = some n) (nl : X.env.kindOf n = some .local) (nc : Names X x c)
    (hB : ∀ (W : WX) (ps : List (Addr × Obj)) (xe : Value → Shared → Prop), L2N.Takes (X.tr ps xe) W → PassesOwn (model X.prog X.w) X.A X.env xe → PSs (X.tr ps xe) body (tb W))
    (hS : ∀ (a : Addr) (o : Obj) (cls : Value) (d : Option Addr) (ps : List (Addr × Obj)), L2N.Zn cls d o → (∃ vs, o.data = .fields vs) → PSs (X.suite a ((a, o) :: ps)) (b₀ :: suite) (ts a cls d)) :
    PS X (.Try body (.ExceptHandler (some (.Name x np)) (some n) (b₀ :: suite) pos' :: hds) [] [] pos) (fun D σ H => tb (wHit X.K c i ts D) D σ H) := by
  refine ⟨fun pins s σ H D I h => wpAny_Try_except ?_⟩
  have fr2 : X.A.frames = some (X.env :: X.outer) := I.ok.frames.trans (congrArg some st)
  refine wpAny_mono ((hB _ (X.pn ++ pins) (fun e s₁ => wpAny (model X.prog X.w) X.A (noteFrame e X.env) (fun _ s₂ => wpAny (model X.prog X.w) X.A (setFlight e none) (fun _ s₃ => wpAny (model X.prog X.w) X.A
    (handleBy e X.env (.ExceptHandler (some (.Name x np)) (some n) (b₀ :: suite) pos' :: hds)) (SP X pins D) X.xe s₃) X.xe s₂) X.xe s₁) (fun u t xx => ?_) PassesOwn.looking).run [] s σ H D (I.toTry _) h) (fun f t q => ?_) (fun _ _ z => z)
  case refine_2 =>
    have q' := flow_out (pins := pins) I.ok q
    cases f with
    | next => exact wpAny_execs_nil q'
    | _ => exact q'
  obtain ⟨a, B, t0, ps, σ1, H1, cls, d, eu, J0, nB, u1, sk, na, eo, bare, hit, go⟩ := xx
  subst eu
  have J := J0.ofTry I.ok
  rw [show (X.tr (X.pn ++ pins) _).stack = X.env :: X.outer from st] at sk
  refine L2N.Sky.land L2N.Zn.steady fr2 fr sk fun h3 f3 u3 => ?_
  have J3 : Inv X pins σ1 H1 { t with heap := h3 } := J.landed nB f3.1 (u1.trans u3) eo bare
  obtain ⟨o3, v3, g3, z3, d3⟩ := f3.there
  have out := no_frame f3.2.2.1 g3 d3
  have aL : a ≠ X.env.locals := fun e => out (List.mem_filterMap.mpr ⟨X.env, .head _, by rw [e]; exact fr⟩)
  have aF : a ∉ X.fs := fun m => out (by rw [show frs (X.env :: X.outer) = X.env.locals :: frs X.outer from List.filterMap_cons_some fr]; exact .tail _ m)
  refine wpAny_handleBy_cons (codeAny_handlers_test (names_it nc (J3.suite g3 d3 na aL aF) ?_)) (by intro z; cases z)
  refine (PySem.W.exm_one (M := model X.prog X.w) J3.kIn (fun _ _ _ _ k z => wpAny_typeOf_ref (k _ _ g3) (by rw [z3.1]; exact z)) hit).here ?_
  refine codeAny_handlers_suite_as (HandSPX.lands_againZ f3 fun h4 f4 u4 => ?_)
  have J4 : Inv X pins σ1 H1 { t with heap := h4 } := J.landed nB f4.1 ((u1.trans u3).trans u4) eo bare
  obtain ⟨o4, v4, g4, z4, d4⟩ := f4.there
  refine store_ok (X := Cx.suite X a ((a, o4) :: (X.pn ++ pins))) (v := .ref a) (J4.suite g4 d4 na aL aF) ndN ni (.inl nl) rfl (fun t5 S5 => ?_) (.inr nl)
  refine wpAny_mono ((hS a o4 cls d (X.pn ++ pins) z4 ⟨_, d4⟩).run [] t5 _ H1 _ S5 (go a na)) (fun f t6 q => ?_) (fun _ _ z => z.elim)
  cases f with
  | ret u => exact let ⟨v6, σ6, H6, S6, r6, q6⟩ := q; gone_ok (S6.unsuite I.ok) ndN ni nl fun t7 J7 => ⟨v6, _, H6, J7, r6, q6⟩
  | next => exact let ⟨σ6, H6, S6, q6⟩ := q; gone_ok (S6.unsuite I.ok) ndN ni nl fun t7 J7 => ⟨_, H6, J7, q6⟩
  | brk => exact let ⟨σ6, H6, S6, q6⟩ := q; gone_ok (S6.unsuite I.ok) ndN ni nl fun t7 J7 => ⟨_, H6, J7, q6⟩
  | cont => exact let ⟨σ6, H6, S6, q6⟩ := q; gone_ok (S6.unsuite I.ok) ndN ni nl fun t7 J7 => ⟨_, H6, J7, q6⟩
/-- the suite's context bears the error -/
theorem hot_suite {a : Addr} {o : Obj} {cls : Value} {d : Option Addr} {ps : List (Addr × Obj)} (z : L2N.Zn cls d o) (h : ∃ vs, o.data = .fields vs) : L2H.HotC (X.suite a ((a, o) :: ps)) :=
  let ⟨vs, e⟩ := h
  ⟨(a, o), ⟨rfl, vs, e, z.2.2 vs e⟩, List.mem_cons_self⟩
theorem passN : Passes (L2N.CX X.prog X.w) X E0 := fun _ _ _ _ _ _ _ h => let ⟨_, _, _, _, _, _, _, _, _, _, _, _, z⟩ := h; z.elim
/-- nothing leaves a suite -/
theorem pass_at0 {σ : L2.St} : PassesAt CX0 X σ (fun _ _ _ => False) := fun _ _ _ _ _ _ h => h.elim
end
theorem unitsH {k : Nat} {A : Around} (r : L2H.RoomH k A) : A.units + 64 < cLine := by
  have := r.un
  omega
end RK

namespace RK
open PySem PySem.Spec PyProof.Rows L2 PySem.Builtin.Str
/-! ### {n:04x} of a word -/
def hx (k : Nat) : Nat := if k < 10 then 48 + k else 87 + k
def hexd (n : Nat) : List Nat := [hx (n / 4096), hx (n / 256 % 16), hx (n / 16 % 16), hx (n % 16)]
theorem hx_char : ∀ k : _root_.Fin 16, (Nat.digitChar k.val).toNat = hx k.val := by decide +kernel
theorem tod16 {n : Nat} (h : n < 65536) : (Nat.toDigits 16 n).length ≤ 4 ∧ List.replicate (4 - (Nat.toDigits 16 n).length) 48 ++ (Nat.toDigits 16 n).map Char.toNat = hexd n := by
  have hc : ∀ k, k < 16 → (Nat.digitChar k).toNat = hx k := fun k hk => hx_char ⟨k, hk⟩
  have z : hx 0 = 48 := rfl
  have base : ∀ k, k < 16 → Nat.toDigits 16 k = [Nat.digitChar k] := fun k hk => Nat.toDigits_of_lt_base hk
  have step : ∀ k, 16 ≤ k → Nat.toDigits 16 k = Nat.toDigits 16 (k / 16) ++ [Nat.digitChar (k % 16)] := fun k hk => Nat.toDigits_of_base_le (by decide) hk
  unfold hexd
  by_cases h1 : n < 16
  · rw [base n h1, show n / 4096 = 0 by omega, show n / 256 % 16 = 0 by omega, show n / 16 % 16 = 0 by omega, show n % 16 = n by omega]
    refine ⟨show 1 ≤ 4 by decide, ?_⟩
    show List.replicate 3 48 ++ [(Nat.digitChar n).toNat] = _
    rw [hc n h1]
    rfl
  rw [step n (by omega)]
  by_cases h2 : n / 16 < 16
  · rw [base (n / 16) h2, show n / 4096 = 0 by omega, show n / 256 % 16 = 0 by omega, show n / 16 % 16 = n / 16 by omega]
    refine ⟨show 2 ≤ 4 by decide, ?_⟩
    show List.replicate 2 48 ++ [(Nat.digitChar (n / 16)).toNat, (Nat.digitChar (n % 16)).toNat] = _
    rw [hc _ h2, hc _ (Nat.mod_lt _ (by decide))]
    rfl
  rw [step (n / 16) (by omega)]
  by_cases h3 : n / 16 / 16 < 16
  · rw [base (n / 16 / 16) h3, show n / 4096 = 0 by omega, show n / 256 % 16 = n / 16 / 16 by omega]
    refine ⟨show 3 ≤ 4 by decide, ?_⟩
    show List.replicate 1 48 ++ [(Nat.digitChar (n / 16 / 16)).toNat, (Nat.digitChar (n / 16 % 16)).toNat, (Nat.digitChar (n % 16)).toNat] = _
    rw [hc _ h3, hc _ (Nat.mod_lt _ (by decide)), hc _ (Nat.mod_lt _ (by decide))]
    rfl
  rw [step (n / 16 / 16) (by omega), base (n / 16 / 16 / 16) (by omega), show n / 4096 = n / 16 / 16 / 16 by omega, show n / 256 = n / 16 / 16 by omega]
  refine ⟨show 4 ≤ 4 by decide, ?_⟩
  show List.replicate 0 48 ++ [(Nat.digitChar (n / 16 / 16 / 16)).toNat, (Nat.digitChar (n / 16 / 16 % 16)).toNat, (Nat.digitChar (n / 16 % 16)).toNat, (Nat.digitChar (n % 16)).toNat] = _
  rw [hc _ (by omega), hc _ (Nat.mod_lt _ (by decide)), hc _ (Nat.mod_lt _ (by decide)), hc _ (Nat.mod_lt _ (by decide))]
  rfl
section
variable {X : Cx}
open Builtin PySem.W Builtin.Float
abbrev sp4 : Str := ⟨#[48, 52, 120]⟩
theorem ret_text2 {M : Model} {A : Around} {E : Value → Shared → Prop} {s : Shared} {X T : PySem.Str} {Q : Fin → Shared → Prop} (e : X = T) (hL : T.length ≤ sizeLine) (h : ∀ t k, Q (.done (.ret (.str T t))) { s with toks := k }) : wpAny M A (retStr X) Q E s := by
  subst e
  exact KXf.ret_text rfl hL h
def f4 : Builtin.Float.FormatSpec := { fill := 48, align := 61, width := some 4, type := some 120 }
theorem fmt4_meets {n : Nat} (h : n < 65536) (t u : Tok) : Meets («int.__format__» ⟨[.int (n : Int) t, .str sp4 u], []⟩) (fun _ R s => ∀ t' k, R (.ok (.ret (.str (sO (hexd n)) t'))) { s with toks := k }) := by
  apply KPc.meets_of
  intro prog w A s Q E hq
  unfold Builtin.«int.__format__»
  refine wpAny_bind (wpAny_of_eq (a := (_, _)) rfl ?_)
  refine wpAny_bind (wpAny_of_eq (a := _) rfl ?_)
  refine wpAny_ite (KPc.ite_no Bool.false_ne_true ?_)
  refine wpAny_bind (wpAny_typeNameOf (T := "str") (typeIs_str _ _ _) (by decide) fun _ => ?_)
  refine wpAny_bind (wpAny_of_eq (a := some _) rfl ?_)
  refine wpAny_ite (KPc.ite_no (by decide) ?_)
  refine wpAny_ite (KPc.ite_no (by decide) ?_)
  refine wpAny_bind (wpAny_typeNameOfCut_int ?_)
  have hp : parseFormatSpec sp4.cps.toList "int" 62 = .ok f4 := rfl
  have hty : f4.type.getD (if (sp4.cps.back? == some 0) = true then 0 else 100) = 120 := rfl
  have h1 : f4.precision = none := rfl
  have h2 : f4.noNeg0 = false := rfl
  have h3 : f4.alt = false := rfl
  have h4 : f4.width = some 4 := rfl
  have h5 : f4.grouping = none := rfl
  have h6 : f4.sign = none := rfl
  have h7 : f4.fill = 48 := rfl
  have h8 : f4.align = 61 := rfl
  obtain ⟨f, hf⟩ : ∃ f, f = f4 := ⟨_, rfl⟩
  rw [← hf] at hp hty h1 h2 h3 h4
  simp only [hp, hty]
  rw [if_pos (by decide)]
  show wpAny _ _ (if _ then _ else _) _ _ _
  rw [if_neg (by simp [h1])]
  show wpAny _ _ (if _ then _ else _) _ _ _
  rw [if_neg (by simp [h2])]
  show wpAny _ _ (if _ then _ else _) _ _ _
  rw [if_neg (by decide)]
  show wpAny _ _ (if _ then _ else _) _ _ _
  rw [if_neg (by decide)]
  show wpAny _ _ (if _ then _ else _) _ _ _
  rw [if_neg (by simp [h4])]
  refine ret_text2 (T := sO (hexd n)) ?_ ?_ hq
  case refine_1 =>
    obtain ⟨hl, ht⟩ := tod16 h
    simp only [h3, Bool.false_eq_true, if_false, Int.natAbs_natCast, decide_eq_false (by omega : ¬ (n : Int) < 0), show ((120 : Nat) == 88) = false by decide, show ((16 : Nat) == 10) = false by decide]
    generalize Nat.toDigits 16 n = ds at hl ht
    subst hf
    conv => lhs; whnf
    simp only [h4, h5, h6, h7, h8, List.length_nil, Bool.false_eq_true, if_false, beq_self_eq_true, Bool.and_self, if_true]
    have e4 : ((4 : Nat) : Int) - (((0 : Nat) : Int) + ((0 : Nat) : Int) + ((0 : Nat) : Int)) = 4 := by decide
    rw [e4]
    clear h1 h2 h3 h4 h5 h6 h7 h8 hty hp hq
    cases ds with
    | nil =>
      show _ = sO (hexd n)
      rw [← ht]
      rfl
    | cons c r =>
      have hm : ((c :: r).map Char.toNat).length = (c :: r).length := List.length_map ..
      show (⟨(([] ++ [] ++ [] ++ List.replicate (4 - ((List.replicate (4 - ((c :: r).map Char.toNat).length) 48 ++ (c :: r).map Char.toNat).length : Int)).toNat 48 ++ (List.replicate (4 - ((c :: r).map Char.toNat).length) 48 ++ (c :: r).map Char.toNat)) ++ [] ++ []).toArray⟩ : Str) = _
      rw [hm, ht]
      rfl
  case refine_2 => exact Nat.le_trans (show 4 ≤ 100 by decide) (by decide)
/-- {e:04x} of a word -/
def tF4 (te : TE) : TE := fun σ H Q => te σ H fun x H1 => ∃ n : Nat, x = .int (n : Int) ∧ n < 65536 ∧ Q (.str (sO (hexd n))) H1
theorem pe_fmt4 {e spec : Expr} {te : TE} {pos : Pos} (he : PE X e te) (hs : PE X spec (tC (.str (Str.ofString "04x")))) : PE X (.FormattedValue e (-1) (some spec) pos) (tF4 te) := by
  refine ⟨fun pins s σ H Q I h => ?_⟩
  refine wpAny_FormattedValue_spec (thn (he.run pins s σ H _ I h) fun v s1 ⟨x, H1, I1, r1, q⟩ => ?_)
  obtain ⟨n, rfl, hn, q⟩ := q
  obtain ⟨t, rfl⟩ := r1
  refine thn (hs.run pins s1 σ H1 (fun x H2 => x = .str (Str.ofString "04x") ∧ Q (.str (sO (hexd n))) H2) I1 ⟨rfl, q⟩) fun u s2 ⟨y, H2, I2, r2, ey, q2⟩ => ?_
  subst ey
  obtain ⟨t2, rfl⟩ := r2
  refine ⟨_, _, rfl, KXf.field_int (spec' := sp4) (by decide +kernel) rfl (by decide) (fun u => fmt4_meets hn _ u) fun t' k => ⟨.str _, H2, I2.tok _, ⟨_, rfl⟩, q2⟩⟩
end
/-! digits -/
abbrev HXD : List Nat := (Str.ofString "0123456789abcdef").cps.toList
/-- a digit's value -/
def dv (c : Nat) : Nat := if c ≤ 57 then c - 48 else c - 87
theorem HXD_eq : HXD = (List.range 16).map hx := by decide +kernel
theorem hx_mem {k : Nat} (h : k < 16) : hx k ∈ HXD := by
  rw [HXD_eq]
  exact List.mem_map.mpr ⟨k, List.mem_range.mpr h, rfl⟩
theorem hxd_of {c : Nat} (h : c ∈ HXD) : ∃ k, k < 16 ∧ c = hx k := by
  rw [HXD_eq] at h
  obtain ⟨k, h1, h2⟩ := List.mem_map.mp h
  exact ⟨k, List.mem_range.mp h1, h2.symm⟩
theorem hx_dv : ∀ k : _root_.Fin 16, dv (hx k.val) = k.val := by decide +kernel
theorem hx_find : ∀ k : _root_.Fin 16, Txt.find (Str.ofString "0123456789abcdef") (sO [hx k.val]) = (k.val : Int) := by decide +kernel
theorem hx_occ : ∀ k : _root_.Fin 16, occurrences (Str.ofString "0123456789abcdef") (sO [hx k.val]) 0 (Str.ofString "0123456789abcdef").length 1 = [k.val] := by decide +kernel
theorem hx_at : ∀ k : _root_.Fin 16, (Str.ofString "0123456789abcdef").cps.toList[k.val]? = some (hx k.val) := by decide +kernel
theorem find_dv {c : Nat} (h : c ∈ HXD) : Txt.find (Str.ofString "0123456789abcdef") (sO [c]) = (dv c : Int) := by
  obtain ⟨k, hk, rfl⟩ := hxd_of h
  rw [hx_find ⟨k, hk⟩, hx_dv ⟨k, hk⟩]
theorem occ_dv {c : Nat} (h : c ∈ HXD) : occurrences (Str.ofString "0123456789abcdef") (sO [c]) 0 (Str.ofString "0123456789abcdef").length 1 = [dv c] := by
  obtain ⟨k, hk, rfl⟩ := hxd_of h
  rw [hx_occ ⟨k, hk⟩, hx_dv ⟨k, hk⟩]
/-- the first place that is no digit | the length, if it is no multiple of four -/
def fbad (l : List Nat) : Option Nat := match l.findIdx? (fun c => !decide (c ∈ HXD)) with
  | some i => some i
  | none => if l.length % 4 = 0 then none else some l.length
theorem fbad_at {l : List Nat} {i : Nat} (hi : i < l.length) (h : l.getD i 0 ∉ HXD) (hp : ∀ j, j < i → l.getD j 0 ∈ HXD) : fbad l = some i := by
  have e : l.findIdx? (fun c => !decide (c ∈ HXD)) = some i := by
    rw [List.findIdx?_eq_some_iff_getElem]
    refine ⟨hi, ?_, fun j hj => ?_⟩
    · rw [List.getD_eq_getElem?_getD, List.getElem?_eq_getElem hi] at h
      have h2 : l[i] ∉ HXD := h
      rw [decide_eq_false h2]
      rfl
    · have := hp j hj
      rw [List.getD_eq_getElem?_getD, List.getElem?_eq_getElem (by omega)] at this
      have h2 : l[j] ∈ HXD := this
      rw [decide_eq_true h2]
      decide
  unfold fbad
  rw [e]
theorem fbad_all {l : List Nat} (h : ∀ j, j < l.length → l.getD j 0 ∈ HXD) : fbad l = if l.length % 4 = 0 then none else some l.length := by
  have e : l.findIdx? (fun c => !decide (c ∈ HXD)) = none := by
    rw [List.findIdx?_eq_none_iff]
    intro c hc
    obtain ⟨j, hj, rfl⟩ := List.mem_iff_getElem.mp hc
    have := h j hj
    rw [List.getD_eq_getElem?_getD, List.getElem?_eq_getElem hj] at this
    have h2 : l[j] ∈ HXD := this
    rw [decide_eq_true h2]
    rfl
  unfold fbad
  rw [e]
theorem fbad_none {l : List Nat} (h : fbad l = none) : (∀ c ∈ l, c ∈ HXD) ∧ l.length % 4 = 0 := by
  unfold fbad at h
  cases e : l.findIdx? (fun c => !decide (c ∈ HXD)) with
  | some i => rw [e] at h; cases h
  | none =>
    rw [e] at h
    have h2 : (if l.length % 4 = 0 then none else some l.length) = none := h
    refine ⟨fun c hc => ?_, ?_⟩
    · have := List.findIdx?_eq_none_iff.mp e c hc
      apply Decidable.byContradiction
      intro z
      rw [decide_eq_false z] at this
      cases this
    · apply Decidable.byContradiction
      intro z
      rw [if_neg z] at h2
      cases h2
def val4 (l : List Nat) : Nat := l.foldl (fun a c => a * 16 + dv c) 0
theorem val4_app (l : List Nat) (c : Nat) : val4 (l ++ [c]) = val4 l * 16 + dv c := by
  unfold val4
  rw [List.foldl_append]
  rfl
/-- the words of a text of digits -/
def rdw (l : List Nat) : List Nat := (List.range (l.length / 4)).map fun k => val4 ((l.drop (4 * k)).take 4)
theorem val4_hexd {w : Nat} (h : w ≤ 65535) : val4 (hexd w) = w := by
  have e : ∀ k, k < 16 → dv (hx k) = k := fun k hk => hx_dv ⟨k, hk⟩
  show (((0 * 16 + dv (hx (w / 4096))) * 16 + dv (hx (w / 256 % 16))) * 16 + dv (hx (w / 16 % 16))) * 16 + dv (hx (w % 16)) = w
  rw [e _ (by omega), e _ (by omega), e _ (by omega), e _ (by omega)]
  omega
theorem flat_hexd (ws : List Nat) : (ws.flatMap hexd).length = 4 * ws.length := by
  induction ws with
  | nil => rfl
  | cons x r ih =>
    rw [List.flatMap_cons, List.length_append, ih, List.length_cons]
    show 4 + _ = _
    omega
theorem rdw_flat {ws : List Nat} (h : ∀ w ∈ ws, w ≤ 65535) : rdw (ws.flatMap hexd) = ws := by
  unfold rdw
  rw [flat_hexd, show 4 * ws.length / 4 = ws.length by omega]
  apply List.ext_getElem?
  intro i
  by_cases hi : i < ws.length
  · rw [List.getElem?_map, List.getElem?_range hi]
    have e : ∀ (ws : List Nat) (i : Nat), i < ws.length → ((ws.flatMap hexd).drop (4 * i)).take 4 = hexd (ws.getD i 0) := fun ws => by
      induction ws with
      | nil => intro i hi; exact absurd hi (Nat.not_lt_zero _)
      | cons x r ih =>
        intro i hi
        cases i with
        | zero => rfl
        | succ i =>
          rw [List.flatMap_cons, show 4 * (i + 1) = 4 * i + 4 by omega]
          have := ih i (by simpa using hi)
          show ((hexd x ++ _).drop (4 * i + 4)).take 4 = _
          rw [show 4 * i + 4 = (hexd x).length + 4 * i from by show _ = 4 + 4 * i; omega, List.drop_length_add_append]
          exact this
    show some (val4 _) = _
    rw [e ws i hi, List.getD_eq_getElem?_getD, List.getElem?_eq_getElem hi]
    exact congrArg some (val4_hexd (h _ (List.getElem_mem hi)))
  · rw [List.getElem?_eq_none (by simp; omega), List.getElem?_eq_none (by omega)]
theorem fbad_flat {ws : List Nat} (hw : ∀ w ∈ ws, w ≤ 65535) : fbad (ws.flatMap hexd) = none := by
  have hm : ∀ c ∈ ws.flatMap hexd, c ∈ HXD := fun c hc => by
    obtain ⟨w, h1, h⟩ := List.mem_flatMap.mp hc
    have := hw w h1
    unfold hexd at h
    rcases List.mem_cons.mp h with z | h
    · rw [z]; exact hx_mem (by omega)
    rcases List.mem_cons.mp h with z | h
    · rw [z]; exact hx_mem (by omega)
    rcases List.mem_cons.mp h with z | h
    · rw [z]; exact hx_mem (by omega)
    rw [List.mem_singleton.mp h]
    exact hx_mem (by omega)
  rw [fbad_all fun j hj => by rw [List.getD_eq_getElem?_getD, List.getElem?_eq_getElem hj]; exact hm _ (List.getElem_mem hj), flat_hexd, if_pos (by omega)]
theorem cut_mid (l : List Nat) (a b : Nat) (h : a ≤ b) : cutS (sO l) (some (a : Int)) (some (b : Int)) = sO ((l.drop a).take (b - a)) := by
  show (⟨((l.drop (HT.sIx l.length 0 (some (a : Int)))).take (HT.sIx l.length l.length (some (b : Int)) - HT.sIx l.length 0 (some (a : Int)))).toArray⟩ : Str) = _
  rw [HT.sIx_nat, HT.sIx_nat]
  have e : (l.drop (min a l.length)).take (min b l.length - min a l.length) = (l.drop a).take (b - a) := by
    by_cases h1 : a ≤ l.length
    · rw [Nat.min_eq_left h1]
      by_cases h2 : b ≤ l.length
      · rw [Nat.min_eq_left h2]
      · rw [Nat.min_eq_right (by omega), List.take_of_length_le (by rw [List.length_drop]; omega), List.take_of_length_le (by rw [List.length_drop]; omega)]
    · have h3 : min a l.length = l.length := by omega
      rw [h3, List.drop_length, List.drop_of_length_le (by omega)]
      simp
  rw [e]
  rfl
end RK

namespace RK
open PySem PySem.Spec PyProof.Rows L2 PySem.Builtin.Str
/-! ### enumerate(text) -/
def Itse (x : Str) : It := ⟨fun i _ => i < x.cps.size, fun i H v H' => ∃ T c, v = .ref T ∧ H T = none ∧ H' = upd H T (.tup [.int (i : Nat), .str ⟨#[c]⟩]) ∧ x.cps[i]? = some c, fun i _ => x.cps.size ≤ i⟩
theorem draws_str {prog : Program} {w : World} {A : Around} (hh : A.handled = none) (it : Addr) (x : Str) (t : Tok) :
    Draws prog w A it [it] x.cps.size (fun i v => ∃ c u, x.cps[i]? = some c ∧ v = .str ⟨#[c]⟩ u) (fun i h => h.IsStrIter it (strIterType x) x t i) := by
  unfold strIterType
  cases x.cps.all (· < 128)
  · exact Draws.strWide hh it x t
  · exact Draws.strAscii hh it x t
theorem turn_enumS {P : Program} {w : World} {K : PySem.W.Frag} {elts : List Expr} {kk : Nat} {tpos : Pos} (x : Str) (t : Tok) (e it : Addr) :
    Turn P w K (.Tuple elts kk tpos) (Itse x) [e, it] e (fun i h => (∃ old, IsEnum h e it ((i : Nat) : Int) old) ∧ h.IsStrIter it (strIterType x) x t i ∧ e ≠ it ∧ i ≤ x.cps.size) where
  mem := by simp
  obj := fun i h st b hb => by
    obtain ⟨⟨old, he⟩, ⟨o, ho, hc, hd⟩, _⟩ := st
    have e' : b = e ∨ b = it := by simpa using hb
    rcases e' with z | z
    · rw [z]; exact ⟨_, he, fun v q => nomatch q⟩
    · rw [z]; exact ⟨o, ho, fun v q => by rw [hd] at q; cases q⟩
  keep := fun i h h' st k => let ⟨⟨old, he⟩, ⟨o, ho, r⟩, hne, hle⟩ := st; ⟨⟨old, k e (by simp) _ he⟩, ⟨o, k it (by simp) o ho, r⟩, hne, hle⟩
  item := by
    intro X hP hw hK hc i pins s σ H E I hf st hg
    subst hP hw hK
    obtain ⟨⟨old, he⟩, hit, hne, hle⟩ := st
    have hel : e < s.heap.objs.size := Heap.lt_size he
    have hil : it < s.heap.objs.size := by obtain ⟨_, q, _⟩ := hit; exact Heap.lt_size q
    have D := draws_str (A := X.A.in1) (prog := X.prog) (w := X.w) (show X.A.in1.handled = none from I.ok.hd hc) it x t
    refine wpAny_pyNext_enum_itemD D he hit hg hne (by simpa using hne) fun u h' tk hu ho hit' hT hsz hk => ?_
    obtain ⟨c, tc, hcx, rfl⟩ := hu
    refine ⟨_, rfl, wpAny_letOwnedTupleGo_enum (s := { s with heap := h', toks := tk + 1 }) ho fun h'' he' sb => ?_⟩
    have hT2 : h''.get? s.heap.objs.size = some { cls := .type "tuple", data := .seq #[.int i tk, .str ⟨#[c]⟩ tc] } := (sb.2 _ (Nat.ne_of_gt hel)).trans hT
    have new : ObjOk X.prog X.w (upd H s.heap.objs.size (.tup [.int (i : Nat), .str ⟨#[c]⟩])) h'' s.heap.objs.size (.tup [.int (i : Nat), .str ⟨#[c]⟩]) :=
      ⟨by show 2 ≤ sizeLine; decide, [.int i tk, .str ⟨#[c]⟩ tc], .cons ⟨_, rfl⟩ (.cons ⟨_, rfl⟩ .nil), ⟨_, hT2, rfl, _, rfl⟩⟩
    have I1 : Inv X pins σ (upd H s.heap.objs.size (.tup [.int (i : Nat), .str ⟨#[c]⟩])) { s with heap := h'', toks := tk + 1 } :=
      I.turnedNew (ch := [e, it]) (fun b ob hb q => (sb.2 b (fun z => hb (by simp [z]))).trans (hk b ob (fun z => hb (by simp [z])) (fun z => hb (by simp [z])) q)) hf (Nat.le_refl _) new
    refine ⟨.ref s.heap.objs.size, _, I1, rfl, ⟨_, c, rfl, I.hok.fresh (Nat.le_refl _), rfl, hcx⟩, ⟨⟨.str ⟨#[c]⟩ tc, ?_⟩, ?_, hne, hg⟩, fun b hb => ?_⟩
    · have e1 : ((i + 1 : Nat) : Int) = (i : Int) + 1 := by omega
      rw [e1]; exact he'
    · obtain ⟨o, ho2, r⟩ := hit'
      exact ⟨o, (sb.2 it (Ne.symm hne)).trans ho2, r⟩
    · have hb' : b < s.heap.objs.size := by
        have e' : b = e ∨ b = it := by simpa using hb
        rcases e' with z | z
        · rw [z]; exact hel
        · rw [z]; exact hil
      rw [upd_ne (Nat.ne_of_lt hb')]
      exact (hf b hb).1
  done := by
    intro X hP hw hK hc i pins s σ H E I hf st hg
    subst hP hw hK
    obtain ⟨⟨old, he⟩, hit, hne, hle⟩ := st
    obtain ⟨f0, f1, f2, f3, f4, f5⟩ := hf it (by simp)
    have ei : i = x.cps.size := Nat.le_antisymm hle hg
    have D := draws_str (A := X.A.in1) (prog := X.prog) (w := X.w) (show X.A.in1.handled = none from I.ok.hd hc) it x t
    subst ei
    exact wpAny_pyNext_enum_endD D he hit fun h' eb => ⟨rfl, I.turned (t' := s.toks) (fun b o hb q => eb b o hb q) f0 f1 f3 f4 f5⟩
  self := fun A i s Q E st h => let ⟨⟨_, he⟩, _⟩ := st; wpAny_pyIter_enum he h
/-- the text at each turn, each sign in a new pair -/
def iEnS (ta : TA) : TI := fun σ H R => ta σ H fun vs H1 => ∃ x, vs = [.str x] ∧ R (Itse x) H1
theorem pi_enumS {X : Cx} {e : Expr} {ta : TA} {p pos tpos : Pos} {elts : List Expr} {kk : Nat} (hg : Gl X "enumerate") (hm : X.mg "enumerate" = none) (ha : PA X [e] ta) (hs : starEach [e] X.env = [(false, eval e X.env)] := by rfl) :
    PI X (.Tuple elts kk tpos) (.Call (.Name "enumerate" p) [e] [] pos) (iEnS ta) := by
  refine ⟨fun pins s σ H R I h => ?_⟩
  refine Call_ (ld_blt I hg hm boot_enumerate (PyProof.Rows.callWith_type1 (thn (ha.run pos pins s σ H _ I h) fun us s1 ⟨vs, H1, I1, r1, q1⟩ => ?_) hs rfl))
  obtain ⟨x, ex, q⟩ := q1
  subst ex
  cases r1 with
  | cons r rr =>
    cases rr
    obtain ⟨t, rfl⟩ := r
    refine call_enumerate_str fun h' he hit hsz hk => wpAny_pyIter_enum he ?_
    have I2 : Inv X pins σ H1 { s1 with heap := h' } := I1.kept (t' := s1.toks) hk
    refine ⟨s1.heap.objs.size + 1, [s1.heap.objs.size + 1, s1.heap.objs.size], _, _, H1, rfl, I2, turn_enumS x t (s1.heap.objs.size + 1) s1.heap.objs.size, ⟨⟨.none, he⟩, hit, Nat.succ_ne_self _, Nat.zero_le _⟩, fun b hb => ?_, q⟩
    have e' : b = s1.heap.objs.size + 1 ∨ b = s1.heap.objs.size := by simpa using hb
    have hge : s1.heap.objs.size ≤ b := by
      rcases e' with z | z
      · rw [z]; omega
      · rw [z]; omega
    exact I1.fpOk hge (I1.hok.fresh hge)
theorem walk_enumS {x : Str} : Walk (Itse x) x.cps.size (fun _ => True) (fun i H v H' => ∃ T c, v = .ref T ∧ H T = none ∧ H' = upd H T (.tup [.int (i : Nat), .str ⟨#[c]⟩]) ∧ x.cps[i]? = some c) :=
  ⟨fun i H hi _ => hi, fun H _ => Nat.le_refl _, fun i H v H' _ _ y => y⟩
theorem rg4 {n : Nat} (h : n ≤ 10000) (hm : n % 4 = 0) : RgC 0 (n : Int) 4 (n / 4) := by
  have e : Builtin.Range.rangeSize 0 (n : Int) 4 = ((n / 4 : Nat) : Int) := by
    rw [rangeSize_pos (by decide) (by omega)]
    omega
  have fl : ∀ i : Int, -100000 ≤ i → i ≤ 100000 → Builtin.Range.rangeFitsLong i = true := fun i h1 h2 => by
    unfold Builtin.Range.rangeFitsLong
    rw [decide_eq_true (show -(2 ^ 63) ≤ i by omega), decide_eq_true (show i < 2 ^ 63 by omega)]
    rfl
  refine ⟨by decide, by decide, ?_, e⟩
  unfold Builtin.Range.small
  rw [e, fl 0 (by decide) (by decide), fl (n : Int) (by omega) (by omega), fl 4 (by decide) (by decide), fl _ (by omega) (by omega)]
  rw [if_pos (by decide), fl _ (by omega) (by omega), Bool.or_true]
  rfl
end RK

namespace RK
open PySem PySem.Spec PyProof.Rows L2 StX
/-! ### defs with *rest that may raise where nothing is handled -/
theorem cxUpN {P : Program} {w : World} : CXUp (L2N.CX P w) := by
  rintro outer s H s2 H2 E e s' un kp ho ⟨a, B, H', cls, d, ea, fl, hok, ub, na, os, ag, he⟩
  refine ⟨a, B, H', cls, d, ea, fl, hok, ⟨fun b o q n hb => ub.keep b o (kp b o q) (un.free b o q n (by simp)) hb, fun b o q hb => ub.slot b o (kp b o q) hb, fun b o q n => ub.free b o (kp b o q) (un.free b o q n (by simp)),
    fun b o q hb => ub.there b o (kp b o q) hb, fun b xs q => ub.tups b xs (un.tups b xs q), fun b o xs q => ub.frzs b o xs (un.frzs b o xs q), fun b ps q => ?_⟩, na, os.trans ho, ag, he⟩
  obtain ⟨m1, e1⟩ := un.tbls b ps q
  obtain ⟨m2, e2⟩ := ub.tbls b _ e1
  exact ⟨m1 ++ m2, by rw [e2, Array.append_assoc]⟩
section
variable {X : Cx} {CX : CXT} {k : Nat} {f : Addr} {sp : Sp} {x : Str} {e : Expr} {es : List Expr} {t : TA} {p pos : Pos} {E : L2.St → XK}
theorem run_fnRS {pins : List (Addr × Obj)} {σ : L2.St} {H : Hp} {s : Shared} {Q : VK} {us : List Value} {vs : List V} (F : FnR X.prog X.w X.K X.mg X.base CX k f sp) (hr : Room k X.A) (hx : PassesAt CX X σ (E σ))
    (I : Inv X pins σ H s) (r : Vals vs us) (h : sp vs H Q (E σ)) : wpAny (model X.prog X.w) X.A (call (.ref f) us) (EP X pins σ Q) X.xe s := by
  refine wpAny_call (codeAny_mono (F X.A X.stack s H us vs Q (E σ) hr I.env0 r h) fun r s' hq => ?_)
  cases r with
  | error e => exact hx pins H s e s' I hq
  | ok fl =>
    cases fl with
    | ret u => exact I.after hq
    | next => exact False.elim hq
    | brk => exact False.elim hq
    | cont => exact False.elim hq
theorem pe_callRS (F : FnR X.prog X.w X.K X.mg X.base CX k f sp) (hr : Room k X.A) (hg : Gl X x) (hm : X.mg x = some (.ref f)) (hk : PySem.W.keepIn X.K (.ref f) = true) (hx : ∀ σ, PassesAt CX X σ (E σ))
    (ha : PA X (e :: es) t) (hdb : (x == ("__debug__" : Str)) = false := by decide) (he : starEach (e :: es) X.env = (false, eval e X.env) :: starEach es X.env := by rfl) (hpl : (backTo pos (starEach es X.env)).any (·.1) = false := by rfl) :
    PE X (.Call (.Name x p) (e :: es) [] pos) (tCallS sp E t) := by
  refine ⟨fun pins s σ H Q I h => ?_⟩
  refine wpAny_Call_Name_kw (ld_glob I hg hm ?_ hdb)
  refine PySem.W.callWith_K (h₀ := X.base) I.ok.mod.kin hk (thn (ha.run pos pins s σ H _ I h) fun us s1 ⟨vs, H1, I1, r, q⟩ => ⟨I1.kIn, ?_⟩) he hpl
  exact run_fnRS F hr (hx σ) I1 r q
theorem passAtN {σ : L2.St} : PassesAt (L2N.CX X.prog X.w) X σ (fun _ _ _ => False) := fun _ _ _ _ _ _ h => let ⟨_, _, _, _, _, _, _, _, _, _, _, _, z⟩ := h; z.elim
end
/-- a def with *rest: its promise speaks of the bound names, the call's of all that is handed on -/
def spStar (n : Nat) (sp : Sp) : Sp := fun vs H Q E => ∃ ws rest, vs = ws ++ rest ∧ ws.length = n ∧ rest.length ≤ sizeLine ∧ ∀ p, H p = none → sp (ws ++ [V.ref p]) (upd H p (.tup rest)) Q E
theorem Fun.starN {P : Program} {w : World} {K : PySem.W.Frag} {mg : Str → Option Value} {base : Heap} {x qual pv : Str} {st : Stmt} {f : Addr} {fd : FuncData} {N ps : List Str} {k : Nat} {sp : Sp} (F : Fun K x qual st f fd) (S : FnScope N (ps ++ [pv]) (defScope st))
    (hb : ∀ us rest : List Value, us.length = ps.length → bindArgs fd ⟨us ++ rest, []⟩ = (newTuple rest >>= fun t => pure (ps.zip us ++ [(pv, t)])))
    (body : ∀ (cdv : Value) (A : Around) (outer : List Env) (s : Shared) (H : Hp) (vs : List V) (Q : VK) (E : XK), Room k (A.deeper (envOfC qual (defScope st) s.heap.objs.size f cdv)) → sp vs H Q E →
      ∃ t, PSs (cxOf (L2N.CX P w) P w K mg base N qual (defScope st) f cdv A outer s H E) (defBody st) t ∧ t { nx := fun _ H' => Q .non H', rt := Q } (start N vs) H) : FnR P w K mg base (L2N.CX P w) (k + 1) f (spStar ps.length sp) := by
  obtain ⟨oc, od, kV, doc, pm, an, cdv, ct, osl, rfl, lk, hcd⟩ := F.ex
  exact fn_star lk hcd S cxUpN hb fun A outer s H vs Q E hr z => body cdv A outer s H vs Q E hr z
section
variable {X : Cx}
/-- t.index(x), x a text, ahead of it texts and None -/
theorem mt_tupIdx : MtR X "tuple.index" (fun x xs H Q => ∃ p, ∃ ys : List V, ∃ z j, x = .ref p ∧ xs = [.str z] ∧ SqT X.K H p ys ∧ (∀ v ∈ ys, v = .non ∨ ∃ y, v = .str y) ∧ ys[j]? = some (.str z) ∧ (∀ m, m < j → ys[m]? ≠ some (.str z)) ∧ Q (.int (j : Nat)) H) := by
  intro pins s σ H x xs v us Q I rx rs h
  obtain ⟨p, ys, z, j, rfl, rfl, hq, hfl, hy, hno, q⟩ := h
  cases rx
  obtain ⟨u, rfl, t, rfl⟩ := vals1 rs
  obtain ⟨its, r, pl, hz⟩ := I.tuple hq
  obtain ⟨⟨cls, dd, dt, sl⟩, ho, hc, n, hd⟩ := pl
  simp only at hc hd
  subst hc
  subst hd
  have hl : its.toArray.size = ys.length := by rw [List.size_toArray, ← r.length]
  have hj : j < its.toArray.size := by rw [hl]; exact (List.getElem?_eq_some_iff.mp hy).1
  have at' : ∀ (m : Nat) (hm : m < its.toArray.size), (∃ y t', ys[m]? = some (.str y) ∧ its.toArray[m] = Value.str y t') ∨ (ys[m]? = some .non ∧ its.toArray[m] = Value.none) := fun m hm => by
    have hm' : m < ys.length := by rw [← hl]; exact hm
    have hg : ys[m]? = some ys[m] := List.getElem?_eq_getElem hm'
    obtain ⟨w, hw, hr⟩ := r.get hg
    have e := (List.getElem?_eq_some_iff.mp hw).2
    rcases hfl ys[m] (List.getElem_mem hm') with e2 | ⟨y, e2⟩
    · rw [e2] at hr hg
      refine .inr ⟨hg, ?_⟩
      have : w = Value.none := hr
      rw [← this, ← e]
      simp
    · rw [e2] at hr hg
      obtain ⟨t', hw'⟩ := hr
      refine .inl ⟨y, t', hg, ?_⟩
      rw [← hw', ← e]
      simp
  refine call_meets PySem.F.slot_tuple_index ⟨_, ho, rfl⟩ PySem.F.entry_tuple_index (PySem.F.args_tuple_index_2 _ _) (TI.tuple_indexAt p its.toArray n dd sl (.str z t) (eqU (.str z)) j hj ?_ ?_)
    ⟨ho, fun w hw => mem_eqAt (x := .str z) ⟨t, rfl⟩ rfl r ?_ w (by simpa using hw), ⟨.int (j : Nat), H, I.tok _, ⟨_, rfl⟩, q⟩⟩
  · rcases at' j hj with ⟨y, t', h1, h2⟩ | ⟨h1, h2⟩
    · rw [hy] at h1
      cases h1
      rw [h2]
      show (z == z) = true
      exact beq_self_eq_true z
    · rw [hy] at h1
      cases h1
  · intro m hm hmj
    rcases at' m hm with ⟨y, t', h1, h2⟩ | ⟨h1, h2⟩
    · rw [h2]
      show (y == z) = false
      exact beq_eq_false_iff_ne.mpr fun e => hno m hmj (by rw [h1, e])
    · rw [h2]
      rfl
  · rw [List.all_eq_true]
    intro v hv
    rcases hfl v hv with e | ⟨y, e⟩
    · rw [e]; rfl
    · rw [e]; rfl
end
/-- a tuple behind a tuple, whatever the two are -/
theorem catA_of {K : PySem.W.Frag} {H : Hp} {a b : Addr} {xs ys : List V} {Q : VK} (ha : SqT K H a xs) (hb : SqT K H b ys) (hl : xs.length + ys.length ≤ 100000) (q : ∀ p H', Same H H' → SqT K H' p (xs ++ ys) → Q (.ref p) H') : rCatA K (.ref a) (.ref b) H Q := by
  refine ⟨a, b, xs, ys, rfl, rfl, ha, hb, Nat.le_trans hl (lenOk (xs := List.replicate 100000 ()) (n := 100000) (List.length_replicate ..) (Nat.le_refl _) |> fun h => by rw [List.length_replicate] at h; exact h), fun e => q b H (Same.refl _) (by rw [e]; exact hb), fun _ e => q a H (Same.refl _) (by rw [e, List.append_nil]; exact ha), fun _ _ p hp => q p _ (same_new hp) (SqT.of upd_same)⟩
end RK

namespace RK
open PySem PySem.Spec PyProof.Rows L2
section
variable {J : It} {n : Nat} {G : Hp → Prop} {Y : Nat → Hp → V → Hp → Prop}
/-- a comprehension with one test, whose elements have a value each; the target is the name at k -/
theorem lc_filt (w : Walk J n G Y) {tt : TT} {te : TE} {σ : L2.St} {H1 : Hp} {D : Addr} {Qd : Hp → Prop} {k : Nat} (I : Nat → V → Prop) (c : Nat → Bool) (f : Nat → V) (hD : H1 D = none) (hG : ∀ H, Same H1 H → G H) (hn : n ≤ 1000000)
    (hY : ∀ i H x H', i < n → Y i H x H' → H' = H ∧ I i x)
    (ht : ∀ i x H, i < n → Same H1 H → I i x → ∀ Q : Bool → Hp → Prop, Q (c i) H → tt ((σ.set k none).set k (some x)) H Q)
    (hs : ∀ i x H, i < n → c i = true → Same H1 H → I i x → ∀ Q : VK, (∀ H3, Same H H3 → Q (f i) H3) → te ((σ.set k none).set k (some x)) H Q) (hd : ∀ H, Same H1 H → H D = some (.lst (((List.range n).filter c).map f)) → Qd H) :
    ∃ W : Nat → Nat → Hp → Prop, (∃ m, W 0 m (upd H1 D (.lst []))) ∧ ∀ i m H, W i m H →
      (J.stop i H ∧ Qd H) ∨ (J.go i H ∧ ∃ Nx : Hp → Prop, (∀ H', Nx H' → ∃ m', m' < m ∧ W (i + 1) m' H') ∧ ∀ x H', J.yld i H x H' → gName k x (wipe σ [k]) H' fun σ2 H2 => wipe σ2 [k] = wipe σ [k] ∧ tt σ2 H2 fun b H3 =>
        if b = true then te σ2 H3 fun y H4 => ∃ acc, H4 D = some (.lst acc) ∧ acc.length < sizeLine ∧ Nx (upd H4 D (.lst (acc ++ [y]))) else Nx H3) := by
  refine lc_it w (fun i H => Same H1 H ∧ H D = some (.lst (((List.range i).filter c).map f))) ⟨same_new hD, upd_same⟩ (fun i H _ h => hG H h.1) (fun i x H H' hi hp y => ?_) fun H h => hd H h.1 h.2
  obtain ⟨sm, e⟩ := hp
  obtain ⟨rfl, hx⟩ := hY i H x H' hi y
  refine ⟨?_, ?_⟩
  · show ((σ.set k none).set k (some x)).set k none = σ.set k none
    rw [List.set_set, List.set_set]
  show tt ((σ.set k none).set k (some x)) H' _
  refine ht i x H' hi sm hx _ ?_
  by_cases hc : c i = true
  · rw [if_pos hc]
    refine hs i x H' hi hc sm hx _ fun H3 s3 => ?_
    have e3 := s3 _ _ e
    refine ⟨_, e3, ?_, same_mut (sm.trans s3) hD, ?_⟩
    · rw [List.length_map]
      refine Nat.lt_of_le_of_lt (List.length_filter_le _ _) ?_
      rw [List.length_range]
      exact Nat.lt_of_lt_of_le (Nat.lt_of_lt_of_le hi hn) (by decide)
    · rw [upd_same, List.range_succ, List.filter_append, List.map_append]
      rw [show [i].filter c = [i] by simp only [List.filter, hc]]
      rfl
  · rw [if_neg hc]
    refine ⟨sm, ?_⟩
    rw [e, List.range_succ, List.filter_append, List.map_append]
    rw [show [i].filter c = [] by simp only [List.filter, hc]]
    rw [List.map_nil, List.append_nil]
end
end RK

namespace RK
open PySem PySem.Spec PyProof.Rows L2
/-! ### tuples where the rules know lists alone: xs.extend(t), sum(t), enumerate(t) -/
theorem meets_extendT (l b : Addr) (items items2 : Array Value) (n n2 : Nat) (dd : Option Addr) (sl : Array (Option Value)) (hz : items.size + items2.size ≤ sizeLine) :
    Meets (Builtin.«list.extend» ⟨[Value.ref l, Value.ref b], []⟩) fun x R s => s.heap.get? l = some { cls := Value.type "list", data := Data.seq items n } ∧
      s.heap.get? b = some { cls := Value.type "tuple", dict := dd, data := Data.seq items2 n2, slots := sl } ∧
      R (Except.ok (Flow.ret Value.none)) { s with heap := s.heap.update l (Obj.mapSeq fun x => x ++ items2) } := by
  refine Meets.of_wp fun prog w A R s h => ?_
  obtain ⟨hl, hb, h⟩ := h
  show wpAny _ _ (Builtin.List.listExtendWith (.ref l) (.ref b) .none) _ _ _
  unfold Builtin.List.listExtendWith
  refine wpAny_bind (wpAny_typeOf_ref hb ?_)
  refine wpAny_ite_true (by simp) ?_
  refine wpAny_bind ?_
  unfold Builtin.List.listItems
  refine wpAny_bind (wpAny_seqItems hb rfl (wpAny_pure ?_))
  refine wpAny_bind (wpAny_bind (wpAny_seqItems hl rfl (wpAny_pure ?_)))
  have hbig : Builtin.List.listTooLong (items.size + items2.size) = false := notLongL hz
  refine wpAny_ite_false (by rw [hbig, Bool.and_false]; rfl) ?_
  refine wpAny_bind ?_
  show wpAny _ _ (updateSeq l (fun x => x ++ items2)) _ _ _
  refine wpAny_updateSeq hl rfl (wpAny_pure ⟨_, rfl, h⟩) (by omega) (by rw [Array.size_append]; omega)
/-! enumerate over a tuple -/
theorem meets_enumerate_newT (l : Addr) (items : Array Value) (n : Nat) (dct : Option Addr) (sl : Array (Option Value)) :
    Meets (Builtin.«enumerate.__new__» ⟨[Value.type "enumerate", Value.ref l], []⟩) fun x R s => s.heap.get? l = some { cls := Value.type "tuple", dict := dct, data := Data.seq items n, slots := sl } ∧
      R (Except.ok (Flow.ret (Value.ref (s.heap.push { cls := Value.type "tuple_iterator", data := Data.fields #[Value.ref l, Value.int 0 0] }).objs.size)))
        { s with heap := (s.heap.push { cls := Value.type "tuple_iterator", data := Data.fields #[Value.ref l, Value.int 0 0] }).push { cls := Value.type "enumerate", data := Data.fields #[Value.none, Value.bool false, Value.ref s.heap.objs.size, rawInt 0, Value.none, Value.none] } } := by
  refine Meets.of_wp fun prog w A R s h => ?_
  obtain ⟨hl, h⟩ := h
  have hsub := sub_enumerate
  have hL : s.heap.IsTuple l items := ⟨_, hl, rfl, n, rfl⟩
  unfold Builtin.«enumerate.__new__»
  refine wpAny_bind ?_
  unfold Builtin.SmallTypes.newClass
  refine wpAny_bind (wpAny_pure (wpAny_ite_false rfl (wpAny_bind (wpAny_of_eq hsub (wpAny_ite_false rfl (wpAny_pure ?_))))))
  refine wpAny_ite_true rfl (wpAny_bind ?_)
  unfold Builtin.SmallTypes.calledThroughType
  refine wpAny_bind (wpAny_stack_any fun st => wpAny_pure ?_)
  have fin : wpAny (model prog w) A.in1 (pyIter (Value.ref l) >>= fun it => Builtin.SmallTypes.newRecord (Value.type "enumerate") (Builtin.SmallTypes.ownedTupleFields ++ [it, rawInt 0, Value.none, Value.none]) >>= fun v => ret v) (fun fin s' => ∃ v, fin = Fin.done (Flow.ret v) ∧ R (Except.ok (Flow.ret v)) s') (fun e s' => R (Except.error e) s') s := by
    refine wpAny_bind (wpAny_pyIter_tuple hL ?_)
    refine wpAny_bind ?_
    unfold Builtin.SmallTypes.newRecord
    show wpAny _ _ (newObj (Value.type "enumerate") (Data.fields #[Value.none, Value.bool false, Value.ref s.heap.objs.size, rawInt 0, Value.none, Value.none])) _ _ _
    exact wpAny_newObj_type (wpAny_pure ⟨_, rfl, h⟩) (by show 6 ≤ sizeLine + 2; decide)
  split
  · rename_i c tail kw snd tl heq
    generalize (c == Value.type "enumerate") = short
    cases short with
    | false =>
      refine wpAny_ite_false rfl (wpAny_bind (wpAny_of_eq (a := (Value.ref l, none)) rfl ?_))
      exact fin
    | true =>
      refine wpAny_ite_true rfl (wpAny_bind (wpAny_of_eq (a := (Value.ref l, none)) rfl ?_))
      exact fin
  · refine wpAny_ite_false rfl (wpAny_bind (wpAny_of_eq (a := (Value.ref l, none)) rfl ?_))
    exact fin
section
variable {prog : Program} {w : World} {A : Around} {E : Value → Shared → Prop} {s : Shared}
theorem nextOf_tup_item {it l : Addr} {i : Nat} {items : Array Value} {x : Value} {Q : Value → Shared → Prop} (hit : s.heap.IsTupleIter it l i) (hl : s.heap.IsTuple l items) (hx : items[i]? = some x)
    (hQ : ∀ h', h'.IsTupleIter it l (i + 1) → Heap.SameBut it s.heap h' → Q x { s with heap := h' }) : wpAny (model prog w) A (Builtin.SmallTypes.nextOf (Value.ref it)) Q E s := by
  obtain ⟨⟨oc, od, odt, osl⟩, gi, ci, di⟩ := id hit
  simp only at ci di
  subst ci
  subst di
  obtain ⟨ol, gl, _, nl, dl⟩ := hl
  unfold Builtin.SmallTypes.nextOf
  refine wpAny_bind (wpAny_callSpecial?_slot (name := "__next__") hit.typeIs F.slot_tuple_iterator_next (wpAny_call_entry F.slot_tuple_iterator_next hit.typeIs F.entry_tuple_iterator_next ?_ (F.args_tuple_iterator_next_1 _)))
  refine wpAny_bind (m := field (.ref it) 0) (wpAny_field gi rfl (x := .ref l) rfl ?_)
  refine (if_neg (Bool.false_ne_true : ¬ ((Value.ref l == Value.none) = true))).symm ▸ ?_
  refine wpAny_bind (m := field (.ref it) 1) (wpAny_field gi rfl (x := .int i 0) rfl (wpAny_bind (m := seqItems? (.ref l)) (wpAny_seqItems gl dl ?_)))
  simp only [Int.toNat_natCast, hx]
  refine wpAny_bind (wpAny_setField gi rfl (by simp) (wpAny_pure ⟨x, rfl, wpAny_pure (hQ _ ⟨_, Heap.get?_update_self _ gi rfl, rfl, rfl⟩ ⟨?_, fun b n => Heap.get?_update_other _ _ (Ne.symm n)⟩)⟩))
  exact Heap.size_update _ _ _
theorem nextOf_tup_end {it l : Addr} {i : Nat} {items : Array Value} {Q : Value → Shared → Prop} (hh : A.handled = none) (hit : s.heap.IsTupleIter it l i) (hl : s.heap.IsTuple l items) (hx : items[i]? = none)
    (hQ : ∀ (h' : Heap) (e : Addr), Heap.ExtBut it s.heap h' → (∃ o, h'.get? e = some o ∧ o.cls = Value.type "StopIteration") → E (Value.ref e) { s with heap := h' }) : wpAny (model prog w) A (Builtin.SmallTypes.nextOf (Value.ref it)) Q E s := by
  obtain ⟨oi, gi, ci, di⟩ := id hit
  obtain ⟨ol, gl, _, nl, dl⟩ := hl
  unfold Builtin.SmallTypes.nextOf
  refine wpAny_bind (wpAny_callSpecial?_slot (name := "__next__") hit.typeIs F.slot_tuple_iterator_next (wpAny_call_entry F.slot_tuple_iterator_next hit.typeIs F.entry_tuple_iterator_next ?_ (F.args_tuple_iterator_next_1 _)))
  refine wpAny_bind (m := field (.ref it) 0) (wpAny_field gi di (x := .ref l) rfl ?_)
  refine (if_neg (Bool.false_ne_true : ¬ ((Value.ref l == Value.none) = true))).symm ▸ ?_
  refine wpAny_bind (m := field (.ref it) 1) (wpAny_field gi di (x := .int i 0) rfl (wpAny_bind (m := seqItems? (.ref l)) (wpAny_seqItems gl dl ?_)))
  simp only [Int.toNat_natCast, hx]
  refine wpAny_bind (wpAny_rule (wpAny_bind (wpAny_setField gi di (by simp) ?_)))
  unfold Builtin.SmallTypes.stopIteration
  refine wpAny_bind (m := newExc (.type "StopIteration") []) ?_
  simp only [newExc, newTuple]
  refine wpAny_bind (wpAny_newObj_type (wpAny_bind (m := firstArgMember _ _) (wpAny_of_eq (a := Value.none) (by first | rfl | (simp only [firstArgMember]; rfl)) (wpAny_newObj_type ?_ (by size_fits)))) (by size_fits))
  unfold raiseNew
  refine wpAny_bind (wpAny_handled ?_)
  rw [show A.in1.handled = none from hh]
  refine wpAny_throw (hQ _ _ (fun b o n e => ?_) ⟨_, Heap.get?_push_size _ rfl, rfl⟩)
  refine Heap.get?_push_of_some _ (Heap.get?_push_of_some _ ?_)
  rw [Heap.get?_update_other _ _ (Ne.symm n)]
  exact e
theorem draws_tup (hh : A.handled = none) (it l : Addr) (ne : l ≠ it) (items : Array Value) :
    Draws prog w A it [it, l] items.size (fun i v => items[i]? = some v) fun i h => h.IsTupleIter it l i ∧ h.IsTuple l items := by
  refine ⟨fun i h st => let ⟨⟨o, g, _⟩, _⟩ := st; ⟨o, g⟩, fun i h h' st k => let ⟨⟨o, g, r⟩, ⟨o2, g2, r2⟩⟩ := st; ⟨⟨o, k it (by simp) o g, r⟩, ⟨o2, k l (by simp) o2 g2, r2⟩⟩, fun i s Q E hi st h => ?_, fun s Q E st h => ?_⟩
  · obtain ⟨h1, h2⟩ := st
    have hx : items[i]? = some items[i] := Array.getElem?_eq_getElem hi
    refine nextOf_tup_item h1 h2 hx fun h' st' sb => ?_
    obtain ⟨o2, g2, r2⟩ := h2
    exact h _ _ s.toks hx ⟨st', ⟨o2, (sb.2 l ne).trans g2, r2⟩⟩ sb
  · obtain ⟨h1, h2⟩ := st
    exact nextOf_tup_end hh h1 h2 (by simp) fun h' e eb he => h h' e eb he
theorem call_enumerate_tup {l : Addr} {items : Array Value} {Q : Value → Shared → Prop} (hL : s.heap.IsTuple l items)
    (h : ∀ h', IsEnum h' (s.heap.objs.size + 1) s.heap.objs.size 0 Value.none → h'.IsTupleIter s.heap.objs.size l 0 → h'.objs.size = s.heap.objs.size + 2 → (∀ b o, s.heap.get? b = some o → h'.get? b = some o) → Q (Value.ref (s.heap.objs.size + 1)) { s with heap := h' }) :
    wpAny (model prog w) A (call (Value.type "enumerate") [Value.ref l]) Q E s := by
  obtain ⟨⟨c, dct, dt, sl⟩, hl, hc, n, hd⟩ := hL
  simp only at hc hd
  subst hc
  subst hd
  have hz := Heap.size_push s.heap { cls := .type "tuple_iterator", data := Data.fields #[Value.ref l, Value.int 0 0] }
  refine callType_new F.called_enumerate (by decide) (F.typeCall_enumerate_1 (Value.ref l)) (F.newCall_enumerate_1 (Value.ref l)) (fun obj => F.args_object_init_2 obj (Value.ref l)) F.entry_enumerate_new (meets_enumerate_newT l items n dct sl) ⟨hl, ?_⟩
  have he := Heap.get?_push_size (s.heap.push { cls := Value.type "tuple_iterator", data := Data.fields #[Value.ref l, Value.int 0 0] }) (o := { cls := Value.type "enumerate", data := Data.fields #[Value.none, Value.bool false, Value.ref s.heap.objs.size, rawInt 0, Value.none, Value.none] }) rfl
  rw [hz] at he
  show Shared.TypeIs _ (Value.ref (Heap.objs _).size) "enumerate" ∧ Q (Value.ref (Heap.objs _).size) _
  rw [hz]
  refine ⟨⟨_, he, rfl⟩, h _ he ⟨_, Heap.get?_push_of_some _ (Heap.get?_push_size _ rfl), rfl, rfl⟩ ?_ fun b o e => Heap.get?_push_of_some _ (Heap.get?_push_of_some _ e)⟩
  rw [Heap.size_push, hz]
theorem draws_tup_end (hh : A.handled = none) (it l : Addr) (ne : l ≠ it) (items : Array Value) (i0 : Nat) (hx : items[i0]? = none) :
    Draws prog w A it [it, l] i0 (fun _ _ => False) fun i h => i = i0 ∧ h.IsTupleIter it l i ∧ h.IsTuple l items := by
  refine ⟨fun i h st => let ⟨_, ⟨o, g, _⟩, _⟩ := st; ⟨o, g⟩, fun i h h' st k => let ⟨e, ⟨o, g, r⟩, ⟨o2, g2, r2⟩⟩ := st; ⟨e, ⟨o, k it (by simp) o g, r⟩, ⟨o2, k l (by simp) o2 g2, r2⟩⟩, fun i s Q E hi st h => ?_, fun s Q E st h => ?_⟩
  · exact absurd st.1 (Nat.ne_of_lt hi)
  · obtain ⟨_, h1, h2⟩ := st
    exact nextOf_tup_end hh h1 h2 hx fun h' e eb he => h h' e eb he
end
def IteT (K : PySem.W.Frag) (a : Addr) : It := ⟨fun i H => ∃ xs x, SqT K H a xs ∧ xs[i]? = some x, fun i H v H' => ∃ T x, v = V.ref T ∧ H T = none ∧ H' = upd H T (.tup [.int (i : Nat), x]) ∧ ∀ xs, SqT K H a xs → xs[i]? = some x, fun i H => ∃ xs, SqT K H a xs ∧ xs.length ≤ i⟩
theorem tup_ne {h : Heap} {a it : Addr} {i : Nat} {items : Array Value} (hit : h.IsTupleIter it a i) (pl : h.IsTuple a items) : a ≠ it := fun z => by
  subst z
  obtain ⟨o, h1, c1, _⟩ := hit
  obtain ⟨o2, h2, c2, _⟩ := pl
  rw [h1] at h2
  cases h2
  rw [c1] at c2
  exact absurd c2 (by decide)
theorem enum_ne {h : Heap} {a e it : Addr} {i : Int} {old : Value} {items : Array Value} (he : IsEnum h e it i old) (pl : h.IsTuple a items) : e ≠ a := fun z => by
  subst z
  obtain ⟨o2, h2, c2, _⟩ := pl
  rw [show h.get? e = _ from he] at h2
  cases h2
  exact absurd (show Value.type "enumerate" = Value.type "tuple" from c2) (by decide)
theorem turn_enumT {P : Program} {w : World} {K : PySem.W.Frag} {elts : List Expr} {kk : Nat} {tpos : Pos} (a e it : Addr) :
    Turn P w K (.Tuple elts kk tpos) (IteT K a) [e, it] e (fun i h => (∃ old, IsEnum h e it ((i : Nat) : Int) old) ∧ h.IsTupleIter it a i ∧ e ≠ it) where
  mem := by simp
  obj := fun i h st b hb => by
    obtain ⟨⟨old, he⟩, ⟨o, ho, hc, hd⟩, _⟩ := st
    have e' : b = e ∨ b = it := by simpa using hb
    rcases e' with z | z
    · rw [z]; exact ⟨_, he, fun v q => nomatch q⟩
    · rw [z]; exact ⟨o, ho, fun v q => by rw [hd] at q; cases q⟩
  keep := fun i h h' st k => let ⟨⟨old, he⟩, ⟨o, ho, r⟩, hne⟩ := st; ⟨⟨old, k e (by simp) _ he⟩, ⟨o, k it (by simp) o ho, r⟩, hne⟩
  item := by
    intro X hP hw hK hc i pins s σ H E I hf st hg
    subst hP hw hK
    obtain ⟨⟨old, he⟩, hit, hne⟩ := st
    obtain ⟨xs, x, hq, hx⟩ := hg
    obtain ⟨its, rv, pl, _⟩ := I.tuple hq
    have pl' : s.heap.IsTuple a its.toArray := pl
    have hel : e < s.heap.objs.size := Heap.lt_size he
    have hil : it < s.heap.objs.size := by obtain ⟨_, q, _⟩ := hit; exact Heap.lt_size q
    have ne := tup_ne hit pl'
    have ne2 := enum_ne he pl'
    have D := draws_tup (A := X.A.in1) (prog := X.prog) (w := X.w) (show X.A.in1.handled = none from I.ok.hd hc) it a ne its.toArray
    have hlt : i < its.toArray.size := by
      rw [List.size_toArray, ← rv.length]
      exact (List.getElem?_eq_some_iff.mp hx).1
    obtain ⟨u0, hu0, ru⟩ := rv.get hx
    refine wpAny_pyNext_enum_itemD D he ⟨hit, pl'⟩ hlt hne (by simp [hne, ne2]) fun u h' tk hu ho hst hT hsz hk => ?_
    have eu : u = u0 := by
      have h1 : its[i]? = some u := by simpa using hu
      rw [hu0] at h1
      exact (Option.some.inj h1).symm
    subst eu
    obtain ⟨hit', pl2⟩ := hst
    refine ⟨_, rfl, wpAny_letOwnedTupleGo_enum (s := { s with heap := h', toks := tk + 1 }) ho fun h'' he' sb => ?_⟩
    have hT2 : h''.get? s.heap.objs.size = some { cls := .type "tuple", data := .seq #[.int i tk, u] } := (sb.2 _ (Nat.ne_of_gt hel)).trans hT
    have new : ObjOk X.prog X.w (upd H s.heap.objs.size (.tup [.int (i : Nat), x])) h'' s.heap.objs.size (.tup [.int (i : Nat), x]) :=
      ⟨by show 2 ≤ sizeLine; decide, [.int i tk, u], .cons ⟨_, rfl⟩ (.cons ru .nil), ⟨_, hT2, rfl, _, rfl⟩⟩
    have I1 : Inv X pins σ (upd H s.heap.objs.size (.tup [.int (i : Nat), x])) { s with heap := h'', toks := tk + 1 } :=
      I.turnedNew (ch := [e, it]) (fun b ob hb q => (sb.2 b (fun z => hb (by simp [z]))).trans (hk b ob (fun z => hb (by simp [z])) (fun z => hb (by simp [z])) q)) hf (Nat.le_refl _) new
    refine ⟨.ref s.heap.objs.size, _, I1, rfl, ⟨_, x, rfl, I.hok.fresh (Nat.le_refl _), rfl, fun ys hy => by rw [I.tuple_inj hy hq, hx]⟩, ⟨⟨u, ?_⟩, ?_, hne⟩, fun b hb => ?_⟩
    · have e1 : ((i + 1 : Nat) : Int) = (i : Int) + 1 := by omega
      rw [e1]; exact he'
    · obtain ⟨o, ho2, r⟩ := hit'
      exact ⟨o, (sb.2 it (Ne.symm hne)).trans ho2, r⟩
    · have hb' : b < s.heap.objs.size := by
        have e' : b = e ∨ b = it := by simpa using hb
        rcases e' with z | z
        · rw [z]; exact hel
        · rw [z]; exact hil
      rw [upd_ne (Nat.ne_of_lt hb')]
      exact (hf b hb).1
  done := by
    intro X hP hw hK hc i pins s σ H E I hf st hg
    subst hP hw hK
    obtain ⟨⟨old, he⟩, hit, hne⟩ := st
    obtain ⟨xs, hq, hx⟩ := hg
    obtain ⟨its, rv, pl, _⟩ := I.tuple hq
    have pl' : s.heap.IsTuple a its.toArray := pl
    obtain ⟨f0, f1, f2, f3, f4, f5⟩ := hf it (by simp)
    have D := draws_tup_end (A := X.A.in1) (prog := X.prog) (w := X.w) (show X.A.in1.handled = none from I.ok.hd hc) it a (tup_ne hit pl') its.toArray i (by
      have := rv.length
      simp
      omega)
    exact wpAny_pyNext_enum_endD D he ⟨rfl, hit, pl'⟩ fun h' eb => ⟨rfl, I.turned (t' := s.toks) (fun b o hb q => eb b o hb q) f0 f1 f3 f4 f5⟩
  self := fun A i s Q E st h => let ⟨⟨_, he⟩, _⟩ := st; wpAny_pyIter_enum he h
def iEnumT (K : PySem.W.Frag) (ta : TA) : TI := fun σ H R => ta σ H fun vs H1 => ∃ a xs, vs = [V.ref a] ∧ SqT K H1 a xs ∧ R (IteT K a) H1
theorem pi_enumT {X : Cx} {e : Expr} {ta : TA} {p pos tpos : Pos} {elts : List Expr} {kk : Nat} (hg : Gl X "enumerate") (hm : X.mg "enumerate" = none) (ha : PA X [e] ta) (hs : starEach [e] X.env = [(false, eval e X.env)] := by rfl) :
    PI X (.Tuple elts kk tpos) (.Call (.Name "enumerate" p) [e] [] pos) (iEnumT X.K ta) := by
  refine ⟨fun pins s σ H R I h => ?_⟩
  refine Call_ (ld_blt I hg hm boot_enumerate (PyProof.Rows.callWith_type1 (thn (ha.run pos pins s σ H _ I h) fun us s1 ⟨vs, H1, I1, r1, q1⟩ => ?_) hs rfl))
  obtain ⟨a, xs, ex, hq, q⟩ := q1
  subst ex
  cases r1 with
  | cons r rr =>
    cases rr
    cases r
    obtain ⟨its, rv, pl, _⟩ := I1.tuple hq
    refine call_enumerate_tup (show s1.heap.IsTuple a its.toArray from pl) fun h' he hit hsz hk => wpAny_pyIter_enum he ?_
    have I2 : Inv X pins σ H1 { s1 with heap := h' } := I1.kept (t' := s1.toks) hk
    refine ⟨s1.heap.objs.size + 1, [s1.heap.objs.size + 1, s1.heap.objs.size], _, _, H1, rfl, I2, turn_enumT a (s1.heap.objs.size + 1) s1.heap.objs.size, ⟨⟨.none, he⟩, hit, Nat.succ_ne_self _⟩, fun b hb => ?_, q⟩
    have e' : b = s1.heap.objs.size + 1 ∨ b = s1.heap.objs.size := by simpa using hb
    have hge : s1.heap.objs.size ≤ b := by
      rcases e' with z | z
      · rw [z]; omega
      · rw [z]; omega
    exact I1.fpOk hge (I1.hok.fresh hge)
theorem walk_enumT {K : PySem.W.Frag} {a : Addr} {xs : List V} : Walk (IteT K a) xs.length (fun H => SqT K H a xs) (fun i H v H' => ∃ T x, v = V.ref T ∧ H T = none ∧ H' = upd H T (.tup [.int (i : Nat), x]) ∧ xs[i]? = some x) :=
  ⟨fun i H hi h => ⟨xs, xs[i], h, List.getElem?_eq_getElem hi⟩, fun H h => ⟨xs, h, Nat.le_refl _⟩, fun i H v H' _ h y => let ⟨T, x, a, b, c, d⟩ := y; ⟨T, x, a, b, c, d xs h⟩⟩
section
variable {X : Cx}
def rExtendT (K : PySem.W.Frag) : V → List V → Hp → VK → Prop := fun x vs H Q => ∃ l b xs zs, x = .ref l ∧ vs = [.ref b] ∧ H l = some (.lst xs) ∧ SqT K H b zs ∧ xs.length + zs.length ≤ sizeLine ∧ Q .non (upd H l (.lst (xs ++ zs)))
theorem mt_extendT : MtR X "list.extend" (rExtendT X.K) := by
  intro pins s σ H x xs v us Q I rx rs h
  obtain ⟨l, b, ys, zs, rfl, rfl, hl, hb, hz, q⟩ := h
  cases rx
  obtain ⟨u, rfl, ru⟩ := rs.one
  cases ru
  obtain ⟨z1, its, n, r1, l1, e1⟩ := I.lstM hl
  obtain ⟨its2, r2, pl2, _⟩ := I.tuple hb
  obtain ⟨⟨cls, dd, dt, sl⟩, ho, hc, n2, hd⟩ := pl2
  simp only at hc hd
  subst hc
  subst hd
  have l2 := r2.length
  refine call_meets PySem.F.slot_list_extend ⟨_, e1, rfl⟩ PySem.F.entry_list_extend (PySem.F.args_list_extend_2 _ _) (meets_extendT l b its.toArray its2.toArray n n2 dd sl (by rw [List.size_toArray, List.size_toArray]; omega)) ⟨e1, ho, ?_⟩
  refine ⟨.non, upd H l (.lst (ys ++ zs)), ?_, rfl, q⟩
  exact I.lset (t' := s.toks) hl e1 (by simp) (r1.append r2) (by rw [List.length_append]; omega)
theorem ints_get : ∀ {vs : List Value} {ns : List Int} {i : Nat} {v : Value}, IntsAre vs ns → vs[i]? = some v → ∃ t, v = .int (ns.getD i 0) t
  | _, _, _, _, .nil, e => by simp at e
  | _, _, 0, _, .cons n t _, e => by
    simp at e
    exact ⟨t, e.symm⟩
  | _, _, i + 1, v, .cons n t r, e => by
    obtain ⟨t', e'⟩ := ints_get (i := i) (v := v) r (by simpa using e)
    exact ⟨t', by simpa using e'⟩
theorem preSum_getD : ∀ (ns : List Int) (m : Nat), m ≤ ns.length → preSum (fun i => ns.getD i 0) m = (ns.take m).sum := fun ns m => by
  induction m with
  | zero => intro _; rfl
  | succ m ih =>
    intro h
    show preSum _ m + ns.getD m 0 = _
    rw [ih (by omega), List.take_add_one, List.getElem?_eq_getElem (by omega), List.sum_append, List.getD_eq_getElem?_getD, List.getElem?_eq_getElem (by omega)]
    simp
def rSumT (K : PySem.W.Frag) : List V → Hp → VK → Prop := fun vs H Q => ∃ (a : Addr) (ns : List Int), vs = [V.ref a] ∧ SqT K H a (ns.map V.int) ∧ Q (.int ns.sum) H
theorem cr_sumT (hc : X.calm = true) : CallR X (.builtin "sum") (rSumT X.K) := by
  intro pins s σ H vs us Q I rv h
  obtain ⟨a, ns, rfl, ha, q⟩ := h
  obtain ⟨u, rfl, ru⟩ := rv.one
  cases ru
  obtain ⟨its, r, pl, _⟩ := I.tuple ha
  have hi := ints_of_vals r
  have hlen := r.length
  rw [List.length_map] at hlen
  have pl' : s.heap.IsTuple a its.toArray := pl
  have la : a < s.heap.objs.size := by obtain ⟨o, ho, _⟩ := pl'; exact Heap.lt_size ho
  refine call_sum_walkG (wpAny_pyIter_tuple pl' ?_)
  refine ⟨s.heap.objs.size, [s.heap.objs.size, a], [s.heap.objs.size], its.toArray.size, _, _, fun i => ns.getD i 0, rfl, Walks.tuple (by exact I.ok.hd hc) _ a (Nat.ne_of_lt la) its.toArray, ⟨⟨_, Heap.get?_push_size _ rfl, rfl, rfl⟩, ?_⟩, fun b hb => ?_, fun i v hv => ints_get (i := i) hi (by simpa using hv), fun h' tk t' k => ?_⟩
  · obtain ⟨o, ho, r⟩ := pl'
    exact ⟨o, Heap.get?_push_of_some _ ho, r⟩
  · rw [Heap.size_push]
    have e' : b = s.heap.objs.size ∨ b = a := by simpa using hb
    rcases e' with z | z
    · rw [z]; exact Nat.lt_succ_self _
    · rw [z]; exact Nat.lt_succ_of_lt la
  · refine ⟨.int ns.sum, H, ?_, ?_, q⟩
    · refine I.kept (t' := tk) fun b o e => k b o ?_ (Heap.get?_push_of_some _ e)
      have := Heap.lt_size e
      intro z
      have e' : b = s.heap.objs.size := by simpa using z
      exact absurd e' (Nat.ne_of_lt this)
    · rw [preSum_getD _ _ (by rw [List.size_toArray]; omega), List.size_toArray, ← hlen, List.take_length]
      exact ⟨_, rfl⟩
end
end RK

namespace RK
open PySem PySem.Spec PyProof.Rows L2
/-! words as text: each a comma and four digits -/
def txW (ws : List Nat) : List Nat := ws.flatMap fun w => 44 :: hexd w
theorem txW_nil : txW [] = [] := rfl
theorem txW_cons (w : Nat) (ws : List Nat) : txW (w :: ws) = 44 :: (hexd w ++ txW ws) := by
  unfold txW
  rw [List.flatMap_cons]
  rfl
theorem hexd_len (w : Nat) : (hexd w).length = 4 := rfl
theorem txW_len : ∀ ws : List Nat, (txW ws).length = 5 * ws.length
  | [] => rfl
  | w :: r => by
    rw [txW_cons, List.length_cons, List.length_append, hexd_len, txW_len r, List.length_cons]
    omega
theorem txW_app (a b : List Nat) : txW (a ++ b) = txW a ++ txW b := by
  unfold txW
  rw [List.flatMap_append]
theorem txW_drop (ws : List Nat) (k : Nat) : (txW ws).drop (5 * k) = txW (ws.drop k) := by
  by_cases h : k ≤ ws.length
  · have e : txW ws = txW (ws.take k) ++ txW (ws.drop k) := by rw [← txW_app, List.take_append_drop]
    have l : (txW (ws.take k)).length = 5 * k := by rw [txW_len, List.length_take, Nat.min_eq_left h]
    rw [e, List.drop_append_of_le_length (by omega), List.drop_of_length_le (by omega)]
    rfl
  · rw [List.drop_of_length_le (by rw [txW_len]; omega), List.drop_of_length_le (by omega)]
    rfl
theorem txW_take (ws : List Nat) (k : Nat) : (txW ws).take (5 * k) = txW (ws.take k) := by
  by_cases h : k ≤ ws.length
  · have e : txW ws = txW (ws.take k) ++ txW (ws.drop k) := by rw [← txW_app, List.take_append_drop]
    have l : (txW (ws.take k)).length = 5 * k := by rw [txW_len, List.length_take, Nat.min_eq_left h]
    rw [e, List.take_append_of_le_length (by omega), List.take_of_length_le (by omega)]
  · rw [List.take_of_length_le (by rw [txW_len]; omega), List.take_of_length_le (by omega)]
theorem hexd_inj {a b : Nat} (ha : a ≤ 65535) (hb : b ≤ 65535) (h : hexd a = hexd b) : a = b := by
  rw [← val4_hexd ha, ← val4_hexd hb, h]
theorem txW_inj : ∀ {a b : List Nat}, (∀ w ∈ a, w ≤ 65535) → (∀ w ∈ b, w ≤ 65535) → txW a = txW b → a = b
  | [], [], _, _, _ => rfl
  | [], b :: r, _, _, h => by rw [txW_cons] at h; cases h
  | a :: r, [], _, _, h => by rw [txW_cons] at h; cases h
  | a :: r, b :: t, ha, hb, h => by
    rw [txW_cons, txW_cons] at h
    have h1 := List.cons.inj h
    have h2 := List.append_inj h1.2 rfl
    rw [hexd_inj (ha _ List.mem_cons_self) (hb _ List.mem_cons_self) h2.1, txW_inj (fun w hw => ha w (List.mem_cons_of_mem _ hw)) (fun w hw => hb w (List.mem_cons_of_mem _ hw)) h2.2]
theorem hx_no (k : Nat) : hx k ≠ 44 := by
  unfold hx
  split <;> omega
theorem txW_comma : ∀ (ws : List Nat) (j : Nat), (txW ws)[j]? = some 44 → j % 5 = 0
  | [], j, h => by cases h
  | w :: r, j, h => by
    rw [txW_cons] at h
    match j, h with
    | 0, _ => rfl
    | 1, h => exact absurd (Option.some.inj h) (hx_no _)
    | 2, h => exact absurd (Option.some.inj h) (hx_no _)
    | 3, h => exact absurd (Option.some.inj h) (hx_no _)
    | 4, h => exact absurd (Option.some.inj h) (hx_no _)
    | j + 5, h =>
      have := txW_comma r j h
      omega
/-- the words stand at a place -/
def occW (E w : List Nat) (a : Nat) : Prop := (E.drop a).take w.length = w
instance (E w : List Nat) (a : Nat) : Decidable (occW E w a) := by unfold occW; infer_instance
theorem subAt_txW {E w : List Nat} {i : Nat} : Builtin.Str.subAt (sO (txW E)) (sO (txW w)) i = true ↔ ((txW E).drop i).take (5 * w.length) = txW w := by
  rw [StrLaws.subAt_eq]
  show (((txW E).drop i).take (txW w).length == txW w) = true ↔ _
  rw [beq_iff_eq, txW_len]
theorem at_txW {E w : List Nat} {i : Nat} (hE : ∀ x ∈ E, x ≤ 65535) (hw : ∀ x ∈ w, x ≤ 65535) (hne : w ≠ []) : StrLaws.At (sO (txW E)) (sO (txW w)) (sO (txW E)).length i ↔ ∃ a, i = 5 * a ∧ occW E w a := by
  constructor
  · rintro ⟨_, h2⟩
    have h := subAt_txW.mp h2
    obtain ⟨x, r, rfl⟩ := List.exists_cons_of_ne_nil hne
    have hc : (txW E)[i]? = some 44 := by
      have e1 : (((txW E).drop i).take (5 * (x :: r).length))[0]? = some 44 := by rw [h, txW_cons]; rfl
      rw [List.getElem?_take_of_lt (by rw [List.length_cons]; omega), List.getElem?_drop] at e1
      exact e1
    have h5 := txW_comma _ _ hc
    obtain ⟨a, rfl⟩ : ∃ a, i = 5 * a := ⟨i / 5, by omega⟩
    refine ⟨a, rfl, ?_⟩
    rw [txW_drop, txW_take] at h
    exact txW_inj (fun y hy => hE y (List.mem_of_mem_drop (List.mem_of_mem_take hy))) hw h
  · rintro ⟨a, rfl, h⟩
    unfold occW at h
    refine ⟨?_, subAt_txW.mpr ?_⟩
    · rw [sO_len, sO_len, txW_len, txW_len]
      have := congrArg List.length h
      rw [List.length_take, List.length_drop] at this
      have : 0 < w.length := List.length_pos_iff.mpr hne
      omega
    · rw [txW_drop, txW_take, h]
theorem find_none {E w : List Nat} (hE : ∀ x ∈ E, x ≤ 65535) (hw : ∀ x ∈ w, x ≤ 65535) (hne : w ≠ []) (h : ∀ a, ¬ occW E w a) : Txt.find (sO (txW E)) (sO (txW w)) = -1 := by
  unfold Txt.find
  rcases StrLaws.occ_head (sO (txW E)) (sO (txW w)) 1 (Nat.le_refl _) with ⟨h0, _⟩ | ⟨i, r, _, h1, _⟩
  · rw [h0]
  · obtain ⟨a, _, ha⟩ := (at_txW hE hw hne).mp h1
    exact absurd ha (h a)
theorem find_some {E w : List Nat} {a : Nat} (hE : ∀ x ∈ E, x ≤ 65535) (hw : ∀ x ∈ w, x ≤ 65535) (hne : w ≠ []) (h : occW E w a) (hb : ∀ b, b < a → ¬ occW E w b) : Txt.find (sO (txW E)) (sO (txW w)) = ((5 * a : Nat) : Int) := by
  unfold Txt.find
  rcases StrLaws.occ_head (sO (txW E)) (sO (txW w)) 1 (Nat.le_refl _) with ⟨_, h0⟩ | ⟨i, r, e, h1, h2⟩
  · exact absurd ((at_txW hE hw hne).mpr ⟨a, rfl, h⟩) (h0 _)
  · rw [e]
    obtain ⟨b, rfl, hb2⟩ := (at_txW hE hw hne).mp h1
    have h3 : ¬ b < a := fun z => hb b z hb2
    have h4 : ¬ a < b := fun z => h2 (5 * a) (by omega) ((at_txW hE hw hne).mpr ⟨a, rfl, h⟩)
    show ((5 * b : Nat) : Int) = _
    rw [show a = b by omega]
theorem find_nil (E : List Nat) : Txt.find (sO E) (sO []) = 0 := by
  unfold Txt.find
  rcases StrLaws.occ_head (sO E) (sO []) 1 (Nat.le_refl _) with ⟨_, h0⟩ | ⟨i, r, e, h1, h2⟩
  · refine absurd ⟨Nat.zero_le _, ?_⟩ (h0 0)
    rw [StrLaws.subAt_eq]
    rfl
  · rw [e]
    have : ¬ 0 < i := fun z => h2 0 z ⟨Nat.zero_le _, by rw [StrLaws.subAt_eq]; rfl⟩
    show ((i : Nat) : Int) = 0
    omega
end RK

/-! own __len__, __contains__, __eq__, __iter__ (handing back a tuple's iterator), list(o) -/
namespace DK
open PySem PySem.Spec PyProof.Rows L2

section
variable {X : Cx} {pins : List (Addr × Obj)} {σ : L2.St} {H : Hp} {s : Shared} {CX : CXT} {k : Nat} {f C : Addr} {sp : Sp} {E : XK}

/-- the callee runs below the running body -/
theorem run_sub {A1 : Around} {Q : VK} {us : List Value} {vs : List V} (F : FnR X.prog X.w X.K X.mg X.base CX k f sp) (sb : Sub X k A1) (hx : Passes CX X E) (I : Inv X pins σ H s) (r : Vals vs us) (h : sp vs H Q E) :
    wpAny (model X.prog X.w) A1 (call (.ref f) us) (EP X pins σ Q) X.xe s := by
  have e0 : Env0 X.prog X.w X.K X.mg X.base A1 X.stack s H := by
    have e := I.env0
    exact ⟨by rw [sb.fr]; exact e.frames, e.mod, e.bs, e.bsz, e.funs, e.frf, e.hok, e.bare⟩
  refine wpAny_call (codeAny_mono (F A1 X.stack s H us vs Q E sb.room e0 r h) fun r s' hq => ?_)
  cases r with
  | error e => exact hx pins σ H s e s' I hq
  | ok fl =>
    cases fl with
    | ret u => exact I.after hq
    | next => exact False.elim hq
    | brk => exact False.elim hq
    | cont => exact False.elim hq

/-- the def at f stands in the class at C under this name -/
structure Own (K : PySem.W.Frag) (C : Addr) (name : Str) (f : Addr) : Prop where
  at_ : PySem.W.findIn K (.ref C) name = some (some (.ref f))
  fn : PySem.W.isFn K (.ref f) = true

/-! ### len(o) -/
def rLenO (C : Addr) (sp : Sp) (E : XK) : List V → Hp → VK → Prop := fun xs H Q => ∃ a dx fs, xs = [V.ref a] ∧ H a = some (.ins C dx fs) ∧
  sp [.ref a] H (fun v H' => ∃ n : Int, v = .int n ∧ (0 ≤ n ∧ n < 2 ^ 63) ∧ Q (.int n) H') E
theorem call_lenO_at {A1 : Around} {Q : VK} {a dx : Addr} {fs : List (Str × V)} (c : Own X.K C "__len__" f) (F : FnR X.prog X.w X.K X.mg X.base CX k f sp) (hx : Passes CX X E) (sb : Sub X (k + 1) A1) (I : Inv X pins σ H s) (ha : H a = some (.ins C dx fs))
    (hsp : sp [.ref a] H (fun v H' => ∃ n : Int, v = .int n ∧ (0 ≤ n ∧ n < 2 ^ 63) ∧ Q (.int n) H') E) : wpAny (model X.prog X.w) A1 (call (.builtin "len") [.ref a]) (EP X pins σ Q) X.xe s := by
  obtain ⟨mA, J, _⟩ := ins_get I.hok ha
  obtain ⟨od, J, _⟩ := J.look
  obtain ⟨m, hF⟩ := I.fr
  refine PySem.W.len_K hF I.ok.mod.kin J c.at_ c.fn ?_
  refine wpAny_mono (run_sub (us := [.ref a]) (vs := [V.ref a]) F sb.in1 hx I (.cons rfl .nil) hsp) (fun r s' hq => ?_) fun _ _ z => z
  obtain ⟨v, H', I', rv, n, rfl, hn, q⟩ := hq
  obtain ⟨t, rfl⟩ := rv
  exact ⟨hn, .int n, H', I'.tok _, ⟨_, rfl⟩, q⟩
theorem call_lenO (c : Own X.K C "__len__" f) (F : FnR X.prog X.w X.K X.mg X.base CX k f sp) (hx : Passes CX X E) (hr : Room (k + 1) X.A) : CallR X (.builtin "len") (rLenO C sp E) := by
  intro pins s σ H xs us Q I r h
  obtain ⟨a, dx, fs, rfl, ha, hsp⟩ := h
  obtain ⟨u, rfl, ru⟩ := r.one
  cases ru
  exact call_lenO_at c F hx ⟨hr, rfl⟩ I ha hsp

/-! ### x in o -/
def rInO (neg : Bool) (C : Addr) (sp : Sp) (E : XK) : R2 := fun x y H Q => ∃ a dx fs, y = V.ref a ∧ H a = some (.ins C dx fs) ∧
  sp [.ref a, x] H (fun v H' => ∃ b : Bool, v = .bl b ∧ Q (.bl (b ^^ neg)) H') E
theorem op_inO (c : Own X.K C "__contains__" f) (F : FnR X.prog X.w X.K X.mg X.base CX k f sp) (hx : Passes CX X E) (hr : Room k X.A) : OpR X (compareOp .In) (rInO false C sp E) := by
  intro pins s σ H x y v u Q I rx ry h
  obtain ⟨a, dx, fs, rfl, ha, hsp⟩ := h
  cases ry
  obtain ⟨mA, J, _⟩ := ins_get I.hok ha
  obtain ⟨od, J, _⟩ := J.look
  obtain ⟨m, hF⟩ := I.fr
  refine PySem.W.in_K hF I.ok.mod.kin J c.at_ c.fn ?_
  refine wpAny_mono (run_sub (us := [.ref a, v]) (vs := [V.ref a, x]) F ⟨hr, rfl⟩ hx I (.cons rfl (.cons rx .nil)) hsp) (fun r s' hq => ?_) fun _ _ z => z
  obtain ⟨w', H', I', rv, b, rfl, q⟩ := hq
  cases rv
  refine wpAny_truthy_bool ?_
  exact ⟨.bl b, H', I', rfl, by simpa using q⟩
theorem op_notInO (c : Own X.K C "__contains__" f) (F : FnR X.prog X.w X.K X.mg X.base CX k f sp) (hx : Passes CX X E) (hr : Room k X.A) : OpR X (compareOp .NotIn) (rInO true C sp E) := by
  intro pins s σ H x y v u Q I rx ry h
  obtain ⟨a, dx, fs, rfl, ha, hsp⟩ := h
  cases ry
  obtain ⟨mA, J, _⟩ := ins_get I.hok ha
  obtain ⟨od, J, _⟩ := J.look
  obtain ⟨m, hF⟩ := I.fr
  refine PySem.W.notIn_K hF I.ok.mod.kin J c.at_ c.fn ?_
  refine wpAny_mono (run_sub (us := [.ref a, v]) (vs := [V.ref a, x]) F ⟨hr, rfl⟩ hx I (.cons rfl (.cons rx .nil)) hsp) (fun r s' hq => ?_) fun _ _ z => z
  obtain ⟨w', H', I', rv, b, rfl, q⟩ := hq
  cases rv
  refine wpAny_truthy_bool ?_
  exact ⟨.bl (!b), H', I', rfl, by simpa using q⟩

/-! ### o == p, both of the class at C; the own __eq__ says which -/
def rEqO (C : Addr) (sp : Sp) (E : XK) : R2 := fun x y H Q => ∃ a dx fs b dy gs, x = V.ref a ∧ y = V.ref b ∧ H a = some (.ins C dx fs) ∧ H b = some (.ins C dy gs) ∧
  sp [.ref a, .ref b] H (fun v H' => ∃ k : Bool, v = .bl k ∧ Q (.bl k) H') E
theorem op_eqO (c : Own X.K C "__eq__" f) (F : FnR X.prog X.w X.K X.mg X.base CX k f sp) (hx : Passes CX X E) (hr : Room k X.A) : OpR X (compareOp .Eq) (rEqO C sp E) := by
  intro pins s σ H x y v u Q I rx ry h
  obtain ⟨a, dx, fs, b, dy, gs, rfl, rfl, ha, hb, hsp⟩ := h
  cases rx
  cases ry
  obtain ⟨mA, J, _⟩ := ins_get I.hok ha
  obtain ⟨mB, J', _⟩ := ins_get I.hok hb
  obtain ⟨od, J, _⟩ := J.look
  obtain ⟨od', J', _⟩ := J'.look
  obtain ⟨m, hF⟩ := I.fr
  show wpAny (model X.prog X.w) X.A (richCompare .Eq (.ref a) (.ref b)) (EP X pins σ Q) X.xe s
  refine PySem.W.cmp_K (op := .Eq) (tb := .ref C) hr.units0 hF I.ok.mod.kin J J'.type (by simp [PySem.W.notFirst]) c.at_ c.fn ?_
  refine wpAny_mono (run_sub (us := [.ref a, .ref b]) (vs := [V.ref a, V.ref b]) F ⟨hr, rfl⟩ hx I (.cons rfl (.cons rfl .nil)) hsp) (fun r s' hq => ?_) fun _ _ z => z
  obtain ⟨w', H', I', rv, b', rfl, q⟩ := hq
  cases rv
  exact ⟨.bl b', H', I', rfl, q⟩
end

/-! ### a tuple's iterator as a tracked thing -/
def TiO (t it : Addr) (i : Nat) : HO := .ext fun h => h.IsTupleIter it t i
theorem tiO_ok {P : Program} {w : World} {H : Hp} {h : Heap} {t it : Addr} {i : Nat} (e : h.IsTupleIter it t i) : ObjOk P w H h it (TiO t it i) :=
  ⟨e, (let ⟨o, ho, _⟩ := e; ⟨o, ho⟩), fun h1 h2 q k => q.at k⟩
section
variable {X : Cx} {pins : List (Addr × Obj)} {σ : L2.St} {H : Hp} {s : Shared} {t it : Addr} {i : Nat}
theorem tiO_get (I : Inv X pins σ H s) (e : H it = some (TiO t it i)) : s.heap.IsTupleIter it t i := (I.hok it _ e).1
end
section
variable {prog : Program} {w : World} {A : Around} {E : Value → Shared → Prop} {s : Shared} {t : Addr} {items : Array Value}
theorem call_iter_tup {Q : Value → Shared → Prop} (hl : s.heap.IsTuple t items) (h : Q (.ref s.heap.objs.size) { s with heap := s.heap.push { cls := .type "tuple_iterator", data := .fields #[.ref t, .int 0 0] } }) :
    wpAny (model prog w) A (call (.builtin "iter") [.ref t]) Q E s := by
  refine Calls.call_function_entry (by decide +kernel) (by decide +kernel) PySem.W.kdk_entry_iter (PySem.W.kdk_args_iter _) ?_
  unfold Builtin.«iter»
  refine wpAny_bind (m := someArgs "iter" 1 2 _) (wpAny_of_eq (a := [Value.ref t]) (by first | rfl | kernel_rfl!) ?_)
  show wpAny _ _ (pyIter (.ref t) >>= _) _ _ _
  refine wpAny_bind (wpAny_pyIter_tuple hl ?_)
  exact wpAny_pure ⟨_, rfl, h⟩
end
/-- iter(t), t a tuple: a new iterator, younger than the entry -/
def rIterT (K : PySem.W.Frag) (n : Nat) : List V → Hp → VK → Prop := fun xs H Q => ∃ (t : Addr) (zs : List V), xs = [V.ref t] ∧ SqT K H t zs ∧ ∀ it, H it = none → n ≤ it → Q (.ref it) (upd H it (TiO t it 0))
theorem call_iterT {X : Cx} : CallR X (.builtin "iter") (rIterT X.K X.s_0.heap.objs.size) := by
  intro pins s σ H xs us Q I r h
  obtain ⟨t, zs, rfl, hq, q⟩ := h
  obtain ⟨u, rfl, ru⟩ := r.one
  cases ru
  obtain ⟨its, rv, pl, hz⟩ := I.tuple hq
  refine call_iter_tup (show s.heap.IsTuple t its.toArray from pl) ?_
  exact ⟨.ref s.heap.objs.size, _, I.laid (t' := s.toks) (fun b u e => Heap.get?_push_of_some _ e) (Nat.le_refl _) (tiO_ok ⟨_, Heap.get?_push_size _ rfl, rfl, rfl⟩), rfl, q _ (I.hok.fresh (Nat.le_refl _)) I.sz⟩

/-! ### a def whose promise may speak of the heap's size at its entry -/
def FnS (P : Program) (w : World) (K : PySem.W.Frag) (mg : Str → Option Value) (base : Heap) (CX : CXT) (k : Nat) (f : Addr) (spN : Nat → Sp) : Prop :=
  ∀ (A : Around) (outer : List Env) (s : Shared) (H : Hp) (us : List Value) (vs : List V) (Q : VK) (E : XK), Room k A → Env0 P w K mg base A outer s H → Vals vs us → spN s.heap.objs.size vs H Q E →
    codeAny (model P w) A (.call (.ref f) ⟨us, []⟩) (CR CX outer P w H s Q E) s
theorem fn_ofS {CX : CXT} {P : Program} {w : World} {K : PySem.W.Frag} {mg : Str → Option Value} {base : Heap} {k : Nat} {f : Addr} {name qual : Str} {params : Arguments} {body : List Stmt} {scope : Scope} {dV kV doc pm cdv ct oc : Value} {an od : Option Addr}
    {osl : Array (Option Value)} {N ps : List Str} {spN : Nat → Sp} (lk : K.lookup f = some ⟨oc, od, .func (PySem.W.fnOf name qual params body scope dV kV doc pm an cdv ct), osl⟩) (hcd : PySem.W.codeIn K cdv qual = true) (S : FnScope N ps scope)
    (hbd : Binds K (PySem.W.fnOf name qual params body scope dV kV doc pm an cdv ct) ps [])
    (len : ∀ n vs H Q E, spN n vs H Q E → vs.length = ps.length)
    (hbody : ∀ (A : Around) (outer : List Env) (s : Shared) (H : Hp) (vs : List V) (Q : VK) (E : XK), Room k (A.deeper (envOfC qual scope s.heap.objs.size f cdv)) → spN s.heap.objs.size vs H Q E →
      ∃ t, PSs (cxOf CX P w K mg base N qual scope f cdv A outer s H E) body t ∧ t { nx := fun _ H' => Q .non H', rt := Q } (start N vs) H) :
    FnS P w K mg base CX (k + 1) f spN := by
  intro A outer s H us vs Q E hr e0 r hsp
  have below : ∀ b o, base.get? b = some o → s.heap.get? b = some o := fun b o z => (e0.bs b o z).1
  have KX := e0.mod.kin.keeps below
  have nl := len _ _ _ _ _ hsp
  have cellsOf : ∀ y ∈ ps.zip us, scope.names.lookup y.1 = some .local ∨
      (scope.names.lookup y.1 = some .cell ∧ ((cellsFrom (s.heap.objs.size + 1) scope.names []).lookup y.1).isSome = true) := by
    rintro ⟨n, v⟩ hy
    exact (S.par n (List.of_mem_zip hy).1).imp id fun q => ⟨q, PySem.W.cellsFrom_some _ _ _ (.inl q)⟩
  have hb : BindsTo s (PySem.W.fnOf name qual params body scope dV kV doc pm an cdv ct) ⟨us, []⟩ (ps.zip us) := by
    have z := hbd s us KX (by rw [List.append_nil, ← r.length, nl])
    simpa using z
  refine codeAny_call_function hr.depth (KX _ _ lk) rfl S.co S.gen rfl
    (PySem.W.codeRec_of KX hcd) (hb _ _ _ _ ?_)
  refine wpAny_newFunctionEnv_cells S.kind cellsOf
    fun env he s1 x => ?_
  cases he
  refine ⟨(e0.mod.nolimit.keeps below).keeps x.toInCall.keep, codeAny_func ?_⟩
  obtain ⟨t, ht, hq⟩ := hbody A outer s H vs Q E
    (hr.deeper _) hsp
  have I : Inv (cxOf CX P w K mg base N qual scope f cdv A outer s H E)
      [] (L2.start N vs) H s1 :=
    inv_start S hr.hd e0 nl r x
  refine wpAny_mono (ht.run [] s1 (start N vs) H _ I hq)
    (fun fl s' hs => ?_) fun _ _ z => z
  cases fl with
  | ret u => exact (let ⟨v, σ', H', J, rv, q⟩ := hs; ⟨v, H', J.os, J.bare, J.base, J.hok, rv, q⟩)
  | next => exact (let ⟨σ', H', J, q⟩ := hs; ⟨V.non, H', J.os, J.bare, J.base, J.hok, rfl, q⟩)
  | brk => exact (let ⟨_, _, _, q⟩ := hs; False.elim q)
  | cont => exact (let ⟨_, _, _, q⟩ := hs; False.elim q)
/-- what __iter__ of the class promises: P says which tuple -/
def spIterN (P : Addr → Addr → Hp → Prop) (K : PySem.W.Frag) (n : Nat) : Sp := fun vs H Q _ => ∃ a t, vs = [V.ref a] ∧ P a t H ∧ ∀ it, H it = none → n ≤ it → Q (.ref it) (upd H it (TiO t it 0))
/-- own things that hand back a tuple's iterator -/
structure OwnI (X : Cx) (CX : CXT) (C f : Addr) (k : Nat) (P : Addr → Addr → Hp → Prop) : Prop where
  own : Own X.K C "__iter__" f
  run : FnS X.prog X.w X.K X.mg X.base CX k f (spIterN P X.K)
section
variable {X : Cx} {pins : List (Addr × Obj)} {σ : L2.St} {H : Hp} {s : Shared} {CX : CXT} {k : Nat} {f C : Addr} {E : XK} {P : Addr → Addr → Hp → Prop}
/-- the iterator comes: it is forgotten at once, and may turn -/
theorem iter_own {A1 : Around} {a t dx : Addr} {fs : List (Str × V)} {Q : Value → Shared → Prop} (o : OwnI X CX C f k P) (sb : Sub X k A1) (hx : Passes CX X E) (I : Inv X pins σ H s) (ha : H a = some (.ins C dx fs)) (hP : P a t H)
    (h : ∀ it s', Inv X pins σ H s' → s'.heap.IsTupleIter it t 0 → FpOk X pins H it → Q (.ref it) s') : wpAny (model X.prog X.w) A1 (pyIter (.ref a)) Q X.xe s := by
  obtain ⟨mA, J, _⟩ := ins_get I.hok ha
  obtain ⟨od, J, _⟩ := J.look
  obtain ⟨m, hF⟩ := I.fr
  refine PySem.W.owit_iter hF I.ok.mod.kin J o.own.at_ o.own.fn ?_
  have e0 : Env0 X.prog X.w X.K X.mg X.base A1 X.stack s H := by
    have e := I.env0
    exact ⟨by rw [sb.fr]; exact e.frames, e.mod, e.bs, e.bsz, e.funs, e.frf, e.hok, e.bare⟩
  have r2 : Vals [V.ref a] [Value.ref a] := .cons rfl .nil
  have hsp : spIterN P X.K s.heap.objs.size [V.ref a] H (fun v H' => ∃ it, v = .ref it ∧ H it = none ∧ s.heap.objs.size ≤ it ∧ H' = upd H it (TiO t it 0)) E :=
    ⟨a, t, rfl, hP, fun it n g => ⟨it, rfl, n, g, rfl⟩⟩
  refine wpAny_call (codeAny_mono (o.run A1 X.stack s H [.ref a] [.ref a] _ E sb.room e0 r2 hsp) fun r s' hq => ?_)
  cases r with
  | error e => exact hx pins σ H s e s' I hq
  | ok fl =>
    cases fl with
    | next => exact False.elim hq
    | brk => exact False.elim hq
    | cont => exact False.elim hq
    | ret u =>
      obtain ⟨v, H', I', rv, it, ev, hn, hg, eH⟩ := I.after hq
      subst ev
      cases rv
      rw [eH] at I'
      have st := tiO_get I' upd_same
      have hT : s'.TypeIs (.ref it) "tuple_iterator" := (let ⟨o, ho, hc, _⟩ := st; ⟨o, ho, hc⟩)
      have hd : (upd H it (TiO t it 0)) it = some (.ext fun h => h.IsTupleIter it t 0) := upd_same
      have I2 := ItX.inv_drop I' hd
      have fp := ItX.inv_fp I' hd (Nat.le_trans I.sz hg)
      rw [ItX.dropH_upd hn] at I2 fp
      show wpAny _ _ (specialOf (.ref it) "__next__") _ _ _
      exact wpAny_specialOf hT slot_tupleiter_next.lookup (h it s' I2 st fp)
/-- for x in o; a comprehension over o -/
def iOwnI (K : PySem.W.Frag) (C : Addr) (P : Addr → Addr → Hp → Prop) (te : TE) : TI := fun σ H R => te σ H fun x H1 => ∃ a t dx fs, x = V.ref a ∧ H1 a = some (.ins C dx fs) ∧ P a t H1 ∧ R (Itt K t) H1
theorem pi_ownI {tg e : Expr} {te : TE} (he : PE X e te) (o : OwnI X CX C f k P) (hx : Passes CX X E) (hr : Room k X.A) : PI X tg e (iOwnI X.K C P te) := by
  refine ⟨fun pins s σ H R I h => ?_⟩
  refine thn (he.run pins s σ H _ I h) fun v s1 ⟨x, H1, I1, r1, q1⟩ => ?_
  obtain ⟨a, t, dx, fs, rfl, ha, hP, q⟩ := q1
  cases r1
  refine iter_own (E := E) o ⟨hr, rfl⟩ hx I1 ha hP fun it s' I2 st fp => ?_
  exact ⟨it, [it], _, Itt X.K t, H1, rfl, I2, turn_tuple t it, st, fun b hb => by
    have e : b = it := by simpa using hb
    subst e
    exact fp, q⟩
end

/-! ### list(o) -/
section
variable {X : Cx} {pins : List (Addr × Obj)} {σ : L2.St} {H : Hp} {s : Shared} {CX CXl : CXT} {k kl : Nat} {f g C t it q : Addr} {E El : XK} {P : Addr → Addr → Hp → Prop} {A1 : Around} {xs : List V} {spl : Sp}
theorem tup_loop {Rs : Result → Shared → Prop} (hh : A1.in1.handled = none) (hdone : ∀ s, Inv X pins σ (upd H q (.lst xs)) s → Rs (.ok (.ret .none)) s) (ht : SqT X.K H t xs) (hq : H q = none)
    (hfp : ∀ b, b = it → FpOk X pins (upd H q (.lst [])) b) :
    ∀ (m i : Nat) (s : Shared), m = xs.length - i → i ≤ xs.length → Inv X pins σ (upd H q (.lst (xs.take i))) s → s.heap.IsTupleIter it t i →
      codeAny (model X.prog X.w) A1 (.builtin "list.extend.loop" ⟨[.ref q, .ref it, .none], []⟩) Rs s := by
  have hqt : ∀ {ys : List V}, SqT X.K (upd H q (.lst ys)) t xs := fun {ys} => SqT.ext ht fun a o z => by
    rw [upd_ne (ne_of_none z hq)]
    exact z
  have nq : it ≠ q := fun z => by
    have z2 := (hfp it rfl).1
    rw [z, upd_same] at z2
    cases z2
  have fpn : ∀ ys, FpOk X pins (upd H q (.lst ys)) it := fun ys => by
    obtain ⟨f0, f1⟩ := hfp it rfl
    refine ⟨?_, f1⟩
    rw [upd_ne nq] at f0 ⊢
    exact f0
  intro m
  induction m with
  | zero =>
    intro i s hm hi I st
    have hi' : i = xs.length := by omega
    subst hi'
    refine codeAny_builtin PySem.F.entry_extend_loop ?_
    rw [Around.under_plainId PySem.F.plain_extend_loop _]
    show wpAny _ A1.in1 (pyNext (.ref it) >>= _) _ _ s
    obtain ⟨its, rv, pl, hz⟩ := I.tuple hqt
    obtain ⟨f0, f1, f2, f3, f4, f5⟩ := fpn (xs.take xs.length)
    have hl := rv.length
    refine wpAny_bind (wpAny_pyNext_tuple_end hh st (show s.heap.IsTuple t its.toArray from pl) (by simp; omega) fun h' eb => ?_)
    refine wpAny_pure (hdone _ ?_)
    have I2 : Inv X pins σ _ { s with heap := h' } := I.turned (t' := s.toks) (fun b o hb e => eb b o hb e) f0 f1 f3 f4 f5
    rw [List.take_length] at I2
    exact I2
  | succ m ih =>
    intro i s hm hi I st
    have hlt : i < xs.length := by omega
    refine codeAny_builtin PySem.F.entry_extend_loop ?_
    rw [Around.under_plainId PySem.F.plain_extend_loop _]
    show wpAny _ A1.in1 (pyNext (.ref it) >>= _) _ _ s
    obtain ⟨its, rv, pl, hz⟩ := I.tuple hqt
    obtain ⟨f0, f1, f2, f3, f4, f5⟩ := fpn (xs.take i)
    obtain ⟨u, hu, ru⟩ := rv.get (List.getElem?_eq_getElem hlt)
    refine wpAny_bind (wpAny_pyNext_tuple_item st (show s.heap.IsTuple t its.toArray from pl) (x := u) (by simpa using hu) fun h' st' sb => ?_)
    have I1 : Inv X pins σ (upd H q (.lst (xs.take i))) { s with heap := h' } := I.turned (t' := s.toks) (fun b o hb e => (sb.2 b hb).trans e) f0 f1 f3 f4 f5
    show wpAny _ A1.in1 (updateSeq q (·.push u) >>= _) _ _ _
    obtain ⟨z, its2, k2, r2, hl2, e2⟩ := I1.lstM upd_same
    have hlen : (xs.take i).length < sizeLine := by rw [List.length_take]; omega
    refine wpAny_bind (wpAny_updateSeq e2 rfl (wpAny_pure ⟨plainId_quiet PySem.F.plain_extend_loop _, ?_⟩) (by rw [List.size_toArray]; omega) (by show (its2.toArray.push u).size ≤ sizeLine + 1; rw [Array.size_push, List.size_toArray]; omega))
    have I3 := I1.lset (f := (·.push u)) (its' := its2 ++ [u]) (t' := s.toks) upd_same e2 (by simp) (r2.append (.cons ru .nil)) (by rw [List.length_append, List.length_singleton]; omega)
    rw [upd_upd] at I3
    have et : xs.take i ++ [xs[i]] = xs.take (i + 1) := by rw [List.take_add_one, List.getElem?_eq_getElem hlt]; rfl
    rw [et] at I3
    refine ih (i + 1) _ (by omega) (by omega) I3 ?_
    obtain ⟨o, ho, hc, hd⟩ := st'
    exact ⟨o, (Heap.get?_update_other h' _ (Ne.symm nq)).trans ho, hc, hd⟩
/-- room is made by the own length -/
theorem hint_own {a dx : Addr} {fs : List (Str × V)} {Q : Bool → Shared → Prop} (c : Own X.K C "__len__" g) (F : FnR X.prog X.w X.K X.mg X.base CX0 kl g spl) (sb : Sub X (kl + 1) A1) (I : Inv X pins σ H s) (ha : H a = some (.ins C dx fs))
    {n : Nat} (hn : n ≤ sizeLine) (hsp : spl [.ref a] H (fun v H' => ∃ k : Int, v = .int k ∧ (0 ≤ k ∧ k < 2 ^ 63) ∧ k = n ∧ H' = H) El)
    (h : ∀ b s', Inv X pins σ H s' → Q b s') : wpAny (model X.prog X.w) A1 (Builtin.List.listLengthHint (.ref a)) Q X.xe s := by
  obtain ⟨mA, J, _⟩ := ins_get I.hok ha
  obtain ⟨od, J, _⟩ := J.look
  have hK := I.kIn
  unfold Builtin.List.listLengthHint
  refine wpAny_bind (wpAny_bind (J.type.here ((PySem.W.looks_findIn hK c.at_).here ?_)))
  refine PySem.W.KFB.if_not rfl ?_
  refine PySem.W.KFB.if_so rfl ?_
  refine wpAny_bind (wpAny_rule ?_)
  refine wpAny_bind (wpAny_attempt ?_)
  have J0 : Inv X.nox pins σ H s := I.wish _
  have q := call_lenO_at (X := X.nox) (E := El) (Q := fun v H' => v = .int n ∧ H' = H) (A1 := A1) c F (fun _ _ _ _ _ _ _ z => False.elim z) ⟨sb.room, sb.fr⟩ J0 ha (by simpa using hsp)
  refine wpAny_mono q (fun r s' hq => ?_) fun _ _ z => False.elim z
  obtain ⟨v, H', I', rv, rfl, rfl⟩ := hq
  obtain ⟨t, rfl⟩ := rv
  refine wpAny_bind (wpAny_pure ?_)
  refine PySem.W.KFB.if_not (by unfold Builtin.List.listTooLong; simp; omega) ?_
  exact wpAny_pure (h _ _ I'.unwish)
/-- a list's first filling by such a thing -/
theorem extend_own {Rs : Result → Shared → Prop} {a dx : Addr} {fs : List (Str × V)} (o : OwnI X CX C f k P) (hx : Passes CX X E) (c : Own X.K C "__len__" g) (F : FnR X.prog X.w X.K X.mg X.base CX0 kl g spl)
    (sb : Sub X k A1.in1) (sbl : Sub X (kl + 1) A1.in1) (ht : SqT X.K H t xs) (hq : H q = none) (hqn : X.s_0.heap.objs.size ≤ q) (ha : H a = some (.ins C dx fs)) (hP : P a t (upd H q (.lst [])))
    (hsp : ∀ H, (∃ dx fs, H a = some (.ins C dx fs)) → P a t H → spl [.ref a] H (fun v H' => ∃ k : Int, v = .int k ∧ (0 ≤ k ∧ k < 2 ^ 63) ∧ k = xs.length ∧ H' = H) El)
    (hdone : ∀ s, Inv X pins σ (upd H q (.lst xs)) s → Rs (.ok (.ret .none)) s) (herr : ∀ e s, X.xe e s → Rs (.error e) s) (I : Inv X pins σ (upd H q (.lst [])) s) :
    wpAny (model X.prog X.w) A1.in1 (Builtin.List.listExtendWith (.ref q) (.ref a) .none)
      (fun fin s' => match fin with | .done f => Rs (.ok f) s' | .again c' => c'.quiet = true ∧ codeAny (model X.prog X.w) A1 c' Rs s') (fun e s' => Rs (.error e) s') s := by
  have hne : q ≠ a := fun z => by rw [← z, hq] at ha; cases ha
  have ha2 : upd H q (.lst []) a = some (.ins C dx fs) := by rw [upd_ne (Ne.symm hne)]; exact ha
  obtain ⟨mA, J, _⟩ := ins_get I.hok ha2
  obtain ⟨od, J, _⟩ := J.look
  have htq : SqT X.K (upd H q (.lst [])) t xs := SqT.ext ht fun b u z => by
    rw [upd_ne (ne_of_none z hq)]
    exact z
  obtain ⟨_, _, _, hz⟩ := I.tuple htq
  unfold Builtin.List.listExtendWith
  refine wpAny_bind (J.type.here ?_)
  simp only [show Builtin.List.listSameRef (.ref q) (.ref a) = false by simp [Builtin.List.listSameRef, hne], show (Value.ref C == Value.type "list") = false from rfl, show (Value.ref C == Value.type "tuple") = false from rfl, Bool.or_false, Bool.false_eq_true, if_false]
  refine wpAny_bind (wpAny_mono (iter_own (E := E) (Q := fun v s' => ∃ it, v = .ref it ∧ Inv X pins σ (upd H q (.lst [])) s' ∧ s'.heap.IsTupleIter it t 0 ∧ FpOk X pins (upd H q (.lst [])) it) o sb hx I ha2 hP
    fun it s' I' st fp => ⟨it, rfl, I', st, fp⟩) (fun v s' hv => ?_) herr)
  obtain ⟨it, rfl, I', st, fp⟩ := hv
  have I1 := I'.pinned (fp := [it]) (fun b hb => by
    have e : b = it := by simpa using hb
    subst e
    exact fp) (fun b hb => by
    have e : b = it := by simpa using hb
    subst e
    obtain ⟨oo, ho, hc, hd⟩ := st
    exact ⟨oo, ho, fun v z => by rw [hd] at z; cases z⟩)
  refine wpAny_bind (wpAny_holding (hint_own (Q := fun b s2 => Inv X pins σ (upd H q (.lst [])) s2 ∧ s2.heap.IsTupleIter it t 0) c F sbl I1 ha2 hz (hsp _ ⟨_, _, ha2⟩ hP) fun b s2 I2 => ⟨I2.unpinned, by
    obtain ⟨oo, ho, hc, hd⟩ := st
    exact ⟨oo, (I2.pin (it, oo) (List.mem_append_right _ (List.mem_append_right _ (mem_pinsAt (by simp) ho)))).1, hc, hd⟩⟩) |> fun w => wpAny_mono w (fun b s2 h2 => ?_) herr)
  obtain ⟨I2, st2⟩ := h2
  have loop : ∀ s3, Inv X pins σ (upd H q (.lst [])) s3 → s3.heap.IsTupleIter it t 0 → codeAny (model X.prog X.w) A1 (.builtin "list.extend.loop" ⟨[.ref q, .ref it, .none], []⟩) Rs s3 := fun s3 I3 st3 =>
    tup_loop (q := q) sb.room.hd hdone ht hq (fun b hb => by rw [hb]; exact fp) (xs.length - 0) 0 s3 rfl (Nat.zero_le _) I3 st3
  have nq : it ≠ q := fun z => by
    have z2 := fp.1
    rw [z, upd_same] at z2
    cases z2
  obtain ⟨z, its, k2, r3, hl3, e3⟩ := I2.lstM upd_same
  cases r3
  refine wpAny_ite_split (fun _ => ?_) (fun _ => wpAny_pure ⟨plainId_quiet PySem.F.plain_extend_loop _, loop _ I2 st2⟩)
  refine wpAny_bind (wpAny_rule ?_)
  refine wpAny_bind ?_
  show wpAny _ _ (updateSeq q (·.push .none) >>= fun _ => updateSeq q (·.pop)) _ _ _
  refine wpAny_bind (wpAny_updateSeq e3 rfl ?_)
  have I4 := I2.lset (f := (·.push Value.none)) (its' := [Value.none]) (ys := [.non]) (t' := s2.toks) upd_same e3 (by simp) (.cons rfl .nil) (by rw [List.length_singleton, sizeLine_eq]; decide)
  rw [upd_upd] at I4
  obtain ⟨z4, its4, k4, r4, hl4, e4⟩ := I4.lstM upd_same
  obtain ⟨u4, rfl, ru4⟩ := r4.one
  refine wpAny_updateSeq e4 rfl ?_ (by show 1 ≤ sizeLine; rw [sizeLine_eq]; decide) (by show 0 ≤ sizeLine + 1; exact Nat.zero_le _)
  have I5 := I4.lset (f := (·.pop)) (its := [u4]) (its' := []) (ys := []) (t' := s2.toks) upd_same e4 (by rfl) .nil (Nat.zero_le _)
  rw [upd_upd] at I5
  refine wpAny_pure ⟨plainId_quiet PySem.F.plain_extend_loop _, loop _ I5 ?_⟩
  obtain ⟨oo, ho, hc, hd⟩ := st2
  exact ⟨oo, (Heap.get?_update_other _ _ (Ne.symm nq)).trans ((Heap.get?_update_other _ _ (Ne.symm nq)).trans ho), hc, hd⟩
/-- list(o) -/
def rListO (K : PySem.W.Frag) (C : Addr) (P : Addr → Addr → Hp → Prop) (spl : Sp) (El : XK) : List V → Hp → VK → Prop := fun vs H Q => ∃ a dx fs t xs, vs = [V.ref a] ∧ H a = some (.ins C dx fs) ∧ SqT K H t xs ∧
  (∀ q, H q = none → P a t (upd H q (.lst []))) ∧ (∀ H, (∃ dx fs, H a = some (.ins C dx fs)) → P a t H → spl [.ref a] H (fun v H' => ∃ k : Int, v = .int k ∧ (0 ≤ k ∧ k < 2 ^ 63) ∧ k = xs.length ∧ H' = H) El) ∧
  ∀ q, H q = none → Q (.ref q) (upd H q (.lst xs))
theorem call_listO (o : OwnI X CX C f k P) (hx : Passes CX X E) (c : Own X.K C "__len__" g) (F : FnR X.prog X.w X.K X.mg X.base CX0 kl g spl) (hr : Room (k + 2) X.A) (hrl : Room (kl + 3) X.A) : CallR X (.type "list") (rListO X.K C P spl El) := by
  intro pins s σ H vs us Q I rv h
  obtain ⟨a, dx, fs, t, xs, rfl, ha, ht, hP, hsp, hQ⟩ := h
  obtain ⟨u, rfl, ru⟩ := rv.one
  cases ru
  have sb : Sub X k X.A.in1.in1 := Sub.in1 (Sub.in1 (⟨hr, rfl⟩ : Sub X (k + 2) X.A))
  have sbl : Sub X (kl + 1) X.A.in1.in1 := Sub.in1 (Sub.in1 (⟨hrl, rfl⟩ : Sub X (kl + 3) X.A))
  refine callType_codes (Q₁ := fun obj s₁ => obj = .ref s.heap.objs.size ∧ s₁ = { s with heap := s.heap.push { cls := .type "list", data := .seq #[] } }) PySem.F.called_list (PySem.F.typeCall_list_1 _) PySem.F.entry_list_init
    (code_list_new _ ⟨rfl, rfl⟩) fun obj s₁ h₁ => ?_
  obtain ⟨rfl, rfl⟩ := h₁
  have hS : (s.heap.push { cls := .type "list", data := .seq #[] }).get? s.heap.objs.size = some { cls := .type "list", data := .seq #[] } := Heap.get?_push_size _ rfl
  refine ⟨⟨_, hS, rfl⟩, PySem.F.args_list_init_2 _ _, ?_⟩
  have fr : H s.heap.objs.size = none := I.hok.fresh (Nat.le_refl _)
  have I1 : Inv X pins σ (upd H s.heap.objs.size (.lst [])) { s with heap := s.heap.push { cls := .type "list", data := .seq #[] } } := I.lnew (its := []) (t' := s.toks) .nil (Nat.zero_le _)
  show wpAny _ _ (do let old ← Builtin.List.listItems (.ref s.heap.objs.size); Builtin.List.listUpdate (.ref s.heap.objs.size) (fun _ => #[]); letGo old.toList.reverse; Builtin.List.listExtendWith (.ref s.heap.objs.size) (.ref a) .none) _ _ _
  refine wpAny_bind ?_
  unfold Builtin.List.listItems
  refine wpAny_bind (wpAny_seqItems hS rfl (wpAny_pure ?_))
  show wpAny _ _ (updateSeq s.heap.objs.size (fun _ => #[]) >>= fun _ => letGo (#[] : Array Value).toList.reverse >>= fun _ => Builtin.List.listExtendWith (.ref s.heap.objs.size) (.ref a) .none) _ _ _
  refine wpAny_bind (wpAny_updateSeq hS rfl ?_)
  have I2 := I1.lset (f := fun _ => #[]) (its := []) (its' := []) (ys := []) (t' := s.toks) upd_same hS rfl .nil (Nat.zero_le _)
  rw [upd_upd] at I2
  refine wpAny_bind (wpAny_letGo ?_)
  exact extend_own (A1 := X.A.in1) (El := El) (Rs := wants (fun r s₂ => r = .none ∧ EP X pins σ Q (.ref s.heap.objs.size) s₂) X.xe) o hx c F sb sbl ht fr I.sz ha (hP _ fr) hsp
    (fun s' I' => ⟨rfl, .ref s.heap.objs.size, _, I', rfl, hQ _ fr⟩) (fun e s' he => he) I2
end
end DK

/-! len(set(t)) of a tuple of ints; a new instance within a try -/
namespace DK
open PySem PySem.Spec PyProof.Rows L2 StX

theorem mem_len : ∀ (ks ns : List Int), ks.Nodup → (∀ k, k ∈ ks → k ∈ ns) → ks.length ≤ ns.length
  | [], _, _, _ => Nat.zero_le _
  | k :: ks, ns, hn, h => by
    have h1 : k ∈ ns := h k List.mem_cons_self
    have h2 := mem_len ks (ns.erase k) (List.nodup_cons.mp hn).2 fun j hj => (List.mem_erase_of_ne fun e => (List.nodup_cons.mp hn).1 (by rw [← e]; exact hj)).mpr (h j (List.mem_cons_of_mem _ hj))
    rw [List.length_erase_of_mem h1] at h2
    have : 0 < ns.length := List.length_pos_of_mem h1
    simp only [List.length_cons]
    omega
theorem nodup_len {ks ns : List Int} (hk : ks.Nodup) (h : ∀ k, k ∈ ks ↔ k ∈ ns) : ks.length = ns.length ↔ ns.Nodup := by
  refine ⟨fun e => ?_, fun hn => Nat.le_antisymm (mem_len _ _ hk fun k => (h k).mp) (mem_len _ _ hn fun k => (h k).mpr)⟩
  apply Decidable.byContradiction
  intro hn
  have : ∃ k rest, ns.Perm (k :: k :: rest) := by
    clear h e hk
    induction ns with
    | nil => exact absurd List.nodup_nil hn
    | cons a r ih =>
      by_cases ha : a ∈ r
      · exact ⟨a, r.erase a, (List.perm_cons_erase ha).cons a⟩
      · obtain ⟨k, rest, p⟩ := ih fun z => hn (List.nodup_cons.mpr ⟨ha, z⟩)
        exact ⟨k, a :: rest, (p.cons a).trans ((List.Perm.swap k a (k :: rest)).trans ((List.Perm.swap k a rest).cons k))⟩
  obtain ⟨k, rest, p⟩ := this
  have := mem_len ks (k :: rest) hk fun j hj => by
    have := p.mem_iff.mp ((h j).mp hj)
    simpa using this
  have := p.length_eq
  simp only [List.length_cons] at *
  omega
def tLenSetT (K : PySem.W.Frag) (ta : TE) : TE := fun σ H Q => ta σ H fun x H1 => ∃ (l : Addr) (ns : List Int), x = V.ref l ∧ SqT K H1 l (ns.map V.int) ∧ ns.length ≤ 1000 ∧ ∀ c : Nat, (c = ns.length ↔ ns.Nodup) → Q (.int c) H1
theorem pe_lenSetT {X : Cx} {a : Expr} {ta : TE} {p p2 q pos : Pos} (hc : X.calm = true) (hg : Gl X "len") (hm : X.mg "len" = none) (hg2 : Gl X "set") (hm2 : X.mg "set" = none) (ha : PE X a ta)
    (na : starEach [a] X.env = (false, eval a X.env) :: starEach [] X.env := by rfl) : PE X (.Call (.Name "len" p) [.Call (.Name "set" p2) [a] [] q] [] pos) (tLenSetT X.K ta) := by
  refine ⟨fun pins s σ H Q I h => ?_⟩
  refine Call_ (ld_blt I hg hm PySem.boot_len ?_)
  refine PyProof.Rows.callWith_builtin1 (PyProof.Rows.args_cons ?_ rfl) rfl rfl
  refine Call_ (ld_blt I hg2 hm2 PyProof.Rows.boot_set ?_)
  refine PyProof.Rows.callWith_type1 (PyProof.Rows.args_cons (thn (ha.run pins s σ H _ I h) fun v s1 ⟨x, H1, I1, r1, l, ns, ex, hq, hl, q1⟩ => PyProof.Rows.args_nil ?_) na) na rfl
  subst ex
  cases r1
  obtain ⟨its, rv, pt, hz⟩ := I1.tuple hq
  refine call_set_tupI ns (I1.ok.hd hc) (show s1.heap.IsTuple l its.toArray from pt) (ints_of_vals rv) (by unfold scanBound; omega) fun h' tk c R1 hcn k => ?_
  obtain ⟨o, es, ep, t, ho, hex, hdt, g, nd, hm3, hb, hf, hn, hr, hl2⟩ := R1
  have I2 : Inv X pins σ H1 { s1 with heap := h', toks := tk } := I1.kept k
  refine PyProof.Rows.args_nil ?_
  have hsz : (es.toList.map keyOf).length = es.size := by simp
  have key := nodup_len (ns := ns) nd fun j => (hm3 j).symm.trans (by simp)
  rw [hsz] at key
  have small : es.size ≤ ns.length := by omega
  exact call_len_set ho hex hdt hf (by omega) ⟨.int es.size, H1, I2.tok _, ⟨_, rfl⟩, q1 _ key⟩
/-- C(e, ..) where what is raised is wished for at the maker's slots -/
def tMakeS (C : Addr) (sp : Sp) (E : L2.St → XK) (t : TA) : TE := fun σ H Q => t σ H fun vs H1 => ∀ x dx, H1 x = Option.none → H1 dx = Option.none → dx ≠ x →
  sp (V.ref x :: vs) (upd (upd H1 dx (.own x)) x (.ins C dx [])) (fun v H2 => v = .non ∧ Q (.ref x) H2) (E σ)
section
variable {X : Cx} {CX : CXT} {k : Nat} {f C : Addr} {sp : Sp} {E : L2.St → XK} {x : Str} {e : Expr} {es : List Expr} {t : TA} {p pos : Pos}
theorem pe_makeS (M : Mk X.K C f) (F : FnR X.prog X.w X.K X.mg X.base CX k f sp) (hr : Room (k + 1) X.A) (hg : Gl X x) (hm : X.mg x = some (.ref C)) (hx : ∀ σ, PassesAt CX X σ (E σ)) (ha : PA X (e :: es) t) (hdb : (x == ("__debug__" : Str)) = false := by decide)
    (he : starEach (e :: es) X.env = (false, eval e X.env) :: starEach es X.env := by rfl) (hpl : (backTo pos (starEach es X.env)).any (·.1) = false := by rfl) : PE X (.Call (.Name x p) (e :: es) [] pos) (tMakeS C sp E t) := by
  refine ⟨fun pins s σ H Q I h => ?_⟩
  refine wpAny_Call_Name_kw (ld_glob I hg hm ?_ hdb)
  refine PySem.W.callWith_K (h₀ := X.base) I.ok.mod.kin M.kp (thn (ha.run pos pins s σ H _ I h) fun us s1 ⟨vs, H1, I1, r, h1⟩ => ⟨I1.kIn, ?_⟩) he hpl
  have hq := h1 (s1.heap.objs.size + 1) s1.heap.objs.size (I1.hok.fresh (Nat.le_succ _)) (I1.hok.fresh (Nat.le_refl _)) (Nat.ne_of_lt (Nat.lt_succ_self _))
  have I2 := Inv.made (C := C) I1
  have r2 : Vals (V.ref (s1.heap.objs.size + 1) :: vs) (Value.ref (s1.heap.objs.size + 1) :: us) := .cons rfl r
  refine wpAny_call (make_map (f := f) I1.kIn M.makes M.init (beq_iff_eq.mp M.fn) (codeAny_mono (F _ X.stack _ _ (Value.ref (s1.heap.objs.size + 1) :: us) _ _ (E σ) (hr.make C us []) (I2.env0.make C us []) r2 hq) fun r s' hq' => ?_))
  cases r with
  | error e => exact hx σ pins _ _ e s' I2 hq'
  | ok fl =>
    cases fl with
    | ret u =>
      obtain ⟨v, H', I3, rv, ev, q3⟩ := I2.after hq'
      subst ev
      exact ⟨rv, ⟨V.ref (s1.heap.objs.size + 1), H', I3, rfl, q3⟩⟩
    | next => exact False.elim hq'
    | brk => exact False.elim hq'
    | cont => exact False.elim hq'
end
end DK

namespace RK
open PySem PySem.Spec PyProof.Rows L2
/-- a comprehension with two for, both targets names (at k and k1), no tests -/
theorem lc2_it {J : It} {n : Nat} {G : Hp → Prop} {Y : Nat → Hp → V → Hp → Prop} (w : Walk J n G Y) {wi1 : TI} {te : TE} {σ : L2.St} {H1 : Hp} {D : Addr} {Qd : Hp → Prop} {k k1 : Nat} (hk : k ≠ k1) (Pv : Nat → Hp → Prop) (h0 : Pv 0 (upd H1 D (.lst []))) (hG : ∀ i H, i ≤ n → Pv i H → G H)
    (hs : ∀ (i : Nat) (x : V) (H H' : Hp), i < n → Pv i H → Y i H x H' → ∀ R : It → Hp → Prop, (∀ (J1 : It) (H4 : Hp) (n1 : Nat) (G1 : Hp → Prop) (Y1 : Nat → Hp → V → Hp → Prop) (P1 : Nat → Hp → Prop), Walk J1 n1 G1 Y1 → P1 0 H4 → (∀ j H, j ≤ n1 → P1 j H → G1 H) →
      (∀ (j : Nat) (y : V) (H H' : Hp), j < n1 → P1 j H → Y1 j H y H' → te (((((σ.set k1 none).set k none).set k (some x)).set k1 none).set k1 (some y)) H' fun z H7 => ∃ acc, H7 D = some (.lst acc) ∧ acc.length < sizeLine ∧ P1 (j + 1) (upd H7 D (.lst (acc ++ [z])))) →
      (∀ H, P1 n1 H → Pv (i + 1) H) → R J1 H4) → wi1 (((σ.set k1 none).set k none).set k (some x)) H' R)
    (hd : ∀ H, Pv n H → Qd H) :
    ∃ W : Nat → Nat → Hp → Prop, (∃ m, W 0 m (upd H1 D (.lst []))) ∧ ∀ (i m : Nat) (H : Hp), W i m H → (J.stop i H ∧ Qd H) ∨ (J.go i H ∧ ∃ Nx : Hp → Prop, (∀ H', Nx H' → ∃ m', m' < m ∧ W (i + 1) m' H') ∧ ∀ (x : V) (H' : Hp), J.yld i H x H' →
      gName k x (wipe σ [k, k1]) H' fun σ2 H2 => wipe σ2 [k, k1] = wipe σ [k, k1] ∧ tYes σ2 H2 fun b H3 => if b = true then wi1 σ2 H3 fun J1 H4 => ∃ W1 : Nat → Nat → Hp → Prop, (∃ m, W1 0 m H4) ∧ ∀ (j k' : Nat) (H : Hp), W1 j k' H → (J1.stop j H ∧ Nx H) ∨ (J1.go j H ∧ ∃ Nx1 : Hp → Prop, (∀ H', Nx1 H' → ∃ k2, k2 < k' ∧ W1 (j + 1) k2 H') ∧
        ∀ (x : V) (H' : Hp), J1.yld j H x H' → gName k1 x (wipe σ2 [k1]) H' fun σ3 H5 => wipe σ3 [k1] = wipe σ2 [k1] ∧ tYes σ3 H5 fun b H6 => if b = true then te σ3 H6 fun y H7 => ∃ acc, H7 D = some (.lst acc) ∧ acc.length < sizeLine ∧ Nx1 (upd H7 D (.lst (acc ++ [y]))) else Nx1 H6) else Nx H3) := by
  refine ⟨fun i m H => i ≤ n ∧ m = n - i ∧ Pv i H, ⟨n, Nat.zero_le _, rfl, h0⟩, fun i m H hW => ?_⟩
  obtain ⟨hi, rfl, hp⟩ := hW
  rcases Nat.lt_or_ge i n with hlt | hge
  · refine .inr ⟨w.goes i H hlt (hG i H hi hp), fun H' => Pv (i + 1) H', fun H' h => ⟨n - (i + 1), by omega, by omega, rfl, h⟩, fun x H' y => ?_⟩
    have y' := w.yields i H x H' hlt (hG i H hi hp) y
    refine ⟨?_, ?_⟩
    · show ((((σ.set k1 none).set k none).set k (some x)).set k1 none).set k none = (σ.set k1 none).set k none
      rw [List.set_set, List.set_comm _ _ hk, List.set_set, List.set_set]
    show wi1 (((σ.set k1 none).set k none).set k (some x)) H' _
    refine hs i x H H' hlt hp y' _ fun J1 H4 n1 G1 Y1 P1 w1 p0 hG1 st en => ?_
    refine ⟨fun j m H => j ≤ n1 ∧ m = n1 - j ∧ P1 j H, ⟨n1, Nat.zero_le _, rfl, p0⟩, fun j m Hj hW1 => ?_⟩
    obtain ⟨hj, rfl, hp1⟩ := hW1
    rcases Nat.lt_or_ge j n1 with hlt1 | hge1
    · refine .inr ⟨w1.goes j Hj hlt1 (hG1 j Hj hj hp1), fun H' => P1 (j + 1) H', fun H' h => ⟨n1 - (j + 1), by omega, by omega, rfl, h⟩, fun y H'' yy => ?_⟩
      have yy' := w1.yields j Hj y H'' hlt1 (hG1 j Hj hj hp1) yy
      refine ⟨?_, ?_⟩
      · show (((((σ.set k1 none).set k none).set k (some x)).set k1 none).set k1 (some y)).set k1 none = (((σ.set k1 none).set k none).set k (some x)).set k1 none
        rw [List.set_set, List.set_set]
      exact st j y Hj H'' hlt1 hp1 yy'
    · have : j = n1 := Nat.le_antisymm hj hge1
      subst this
      exact .inl ⟨w1.stops Hj (hG1 j Hj hj hp1), en Hj hp1⟩
  · have : i = n := Nat.le_antisymm hi hge
    subst this
    exact .inl ⟨w.stops H (hG i H hi hp), hd H hp⟩
theorem xt_sq {K : PySem.W.Frag} {H : Hp} {S : ASet} {r : Addr} {xs : List V} (h : SqT K H r xs) (n : ∀ a, S a → ∃ ys, H a = some (.lst ys)) : XT K H S r xs := by
  rcases h with h | h
  · refine .inl ⟨fun z => ?_, h⟩
    obtain ⟨ys, e⟩ := n r z
    rcases h with h | ⟨o, h⟩ <;> rw [e] at h <;> cases h
  · exact .inr (.inr h)
/-- a tuple and a new one behind it -/
theorem catA_xt {K : PySem.W.Frag} {H : Hp} {S : ASet} {a b : Addr} {xs ys : List V} {Q : VK} (ha : SqT K H a xs) (hb : XT K H S b ys) (hy : ys ≠ []) (hS : ∀ c, S c → H c ≠ none) (hl : xs.length + ys.length ≤ 100000) (q : ∀ p H', Same H H' → XT K H' S p (xs ++ ys) → Q (.ref p) H') : rCatA K (.ref a) (.ref b) H Q :=
  ⟨a, b, xs, ys, rfl, rfl, ha, hb.sq, Nat.le_trans hl (show 100000 ≤ sizeLine by decide), fun e => q b H (Same.refl _) (by rw [e]; exact hb), fun _ e => absurd e hy, fun _ _ p hp => q p _ (same_new hp) (XT.of upd_same fun z => hS p z hp)⟩
/-! one thing by its place, three by keywords -/
def kw1_3 {α : Type} : List α → List α → List α
  | [a], [b, c, d] => [a, b, c, d]
  | _, _ => []
theorem kw1_3_rel {vs zs : List V} {us ws : List Value} (h : Vals vs us) (k : Vals zs ws) : Vals (kw1_3 vs zs) (kw1_3 us ws) := by
  match h, k with
  | .cons h0 .nil, .cons k0 (.cons k1 (.cons k2 .nil)) => exact .cons h0 (.cons k0 (.cons k1 (.cons k2 .nil)))
  | .nil, _ => exact .nil
  | .cons _ (.cons _ _), _ => exact .nil
  | .cons _ .nil, .nil => exact .nil
  | .cons _ .nil, .cons _ .nil => exact .nil
  | .cons _ .nil, .cons _ (.cons _ .nil) => exact .nil
  | .cons _ .nil, .cons _ (.cons _ (.cons _ (.cons _ _))) => exact .nil
theorem kbinds1_3 {K : PySem.W.Frag} {fd : FuncData} {p0 p1 p2 p3 : Str} (h : ∀ (a b c d : Value) (s : Shared), BindsTo s fd ⟨[a], [(p1, b), (p2, c), (p3, d)]⟩ [(p0, a), (p1, b), (p2, c), (p3, d)]) : KBinds K fd [p0, p1, p2, p3] [p1, p2, p3] kw1_3 kw1_3 := by
  refine ⟨fun s us ws _ hl => ?_, kw1_3_rel⟩
  match us, ws with
  | [a], [b, c, d] => exact h a b c d s
  | [], ws => cases hl
  | _ :: _ :: _, ws => cases hl
  | [_], [] => cases hl
  | [_], [_] => cases hl
  | [_], [_, _] => cases hl
  | [_], _ :: _ :: _ :: _ :: _ => cases hl
/-- a comprehension with one test over the pairs of an enumerated tuple -/
theorem lc_enumF {K : PySem.W.Frag} {a : Addr} {xs : List V} {tt : TT} {te : TE} {σ : L2.St} {H1 : Hp} {D : Addr} {Qd : Hp → Prop} {k k1 : Nat} (hk : k ≠ k1) (c : Nat → Bool) (f : Nat → V) (hD : H1 D = none) (ha : SqT K H1 a xs) (hn : xs.length ≤ 1000000)
    (ht : ∀ i x H, i < xs.length → Same H1 H → xs[i]? = some x → ∀ Q : Bool → Hp → Prop, Q (c i) H → tt ((((σ.set k1 none).set k none).set k (some (.int (i : Nat)))).set k1 (some x)) H Q)
    (hs : ∀ i x H, i < xs.length → c i = true → Same H1 H → xs[i]? = some x → ∀ Q : VK, (∀ H3, Same H H3 → Q (f i) H3) → te ((((σ.set k1 none).set k none).set k (some (.int (i : Nat)))).set k1 (some x)) H Q)
    (hd : ∀ H, Same H1 H → H D = some (.lst (((List.range xs.length).filter c).map f)) → Qd H) :
    ∃ W : Nat → Nat → Hp → Prop, (∃ m, W 0 m (upd H1 D (.lst []))) ∧ ∀ i m H, W i m H →
      ((IteT K a).stop i H ∧ Qd H) ∨ ((IteT K a).go i H ∧ ∃ Nx : Hp → Prop, (∀ H', Nx H' → ∃ m', m' < m ∧ W (i + 1) m' H') ∧ ∀ x H', (IteT K a).yld i H x H' → gTup K 2 (gCons (gName k) (gCons (gName k1) gNil)) x (wipe σ [k, k1]) H' fun σ2 H2 => wipe σ2 [k, k1] = wipe σ [k, k1] ∧ tt σ2 H2 fun b H3 =>
        if b = true then te σ2 H3 fun y H4 => ∃ acc, H4 D = some (.lst acc) ∧ acc.length < sizeLine ∧ Nx (upd H4 D (.lst (acc ++ [y]))) else Nx H3) := by
  refine lc_it (walk_enumT (K := K) (a := a) (xs := xs)) (fun i H => Same H1 H ∧ H D = some (.lst (((List.range i).filter c).map f))) ⟨same_new hD, upd_same⟩ (fun i H _ h => sqT_up ha h.1) (fun i x H H' hi hp y => ?_) fun H h => hd H h.1 h.2
  obtain ⟨sm, e⟩ := hp
  obtain ⟨T, z, rfl, nT, rfl, hz⟩ := y
  have sT := same_new (o := .tup [.int (i : Nat), z]) nT
  refine ⟨T, _, rfl, SqT.of upd_same, rfl, _, _, rfl, _, _, rfl, rfl, ?_, ?_⟩
  · show ((((((σ.set k1 none).set k none).set k (some (.int (i : Nat)))).set k1 (some z)).set k1 none).set k none) = (σ.set k1 none).set k none
    rw [List.set_set, List.set_set, List.set_comm _ _ hk, List.set_set, List.set_set]
  show tt ((((σ.set k1 none).set k none).set k (some (.int (i : Nat)))).set k1 (some z)) _ _
  refine ht i z _ hi (sm.trans sT) hz _ ?_
  by_cases hc : c i = true
  · rw [if_pos hc]
    refine hs i z _ hi hc (sm.trans sT) hz _ fun H3 s3 => ?_
    have e3 := s3 _ _ (sT _ _ e)
    refine ⟨_, e3, ?_, same_mut (sm.trans (sT.trans s3)) hD, ?_⟩
    · rw [List.length_map]
      refine Nat.lt_of_le_of_lt (List.length_filter_le _ _) ?_
      rw [List.length_range]
      exact Nat.lt_of_lt_of_le (Nat.lt_of_lt_of_le hi hn) (by decide)
    · rw [upd_same, List.range_succ, List.filter_append, List.map_append]
      rw [show [i].filter c = [i] by simp only [List.filter, hc]]
      rfl
  · rw [if_neg hc]
    refine ⟨sm.trans sT, ?_⟩
    rw [sT _ _ e, List.range_succ, List.filter_append, List.map_append]
    rw [show [i].filter c = [] by simp only [List.filter, hc]]
    rw [List.map_nil, List.append_nil]
end RK

/-! a try with several handlers, each with `as e` (the same name) -/
namespace RK
open PySem PySem.Spec PyProof.Rows L2
/-- the first handler whose class takes it -/
def wAs (K : PySem.W.Frag) (i : Nat) (D : Ends) : List (Value × (Addr → Value → Option Addr → TS)) → WX
  | [] => fun _ _ _ _ => False
  | (c, ts) :: r => fun cls d σ H => wHit K c i ts D cls d σ H ∨ (PySem.W.exmOne K cls c = some false ∧ wAs K i D r cls d σ H)
section
variable {X : Cx} {n : Str} {i : Nat} {body : List Stmt} {hds : List ExceptHandler} {pos : Pos} {tb : WX → TS} {pins : List (Addr × Obj)}
/-- the handlers and their readings -/
inductive AsH (X : Cx) (n : Str) : List ExceptHandler → List (Value × (Addr → Value → Option Addr → TS)) → Prop
  | nil : AsH X n [] []
  | cons {x : Str} {np pos' : Pos} {c : Value} {b₀ : Stmt} {suite : List Stmt} {hds : List ExceptHandler} {ts : Addr → Value → Option Addr → TS} {r : List (Value × (Addr → Value → Option Addr → TS))} (nc : Names X x c)
      (hS : ∀ (a : Addr) (o : Obj) (cls : Value) (d : Option Addr) (ps : List (Addr × Obj)), L2N.Zn cls d o → (∃ vs, o.data = .fields vs) → PSs (X.suite a ((a, o) :: ps)) (b₀ :: suite) (ts a cls d)) (t : AsH X n hds r) :
      AsH X n (.ExceptHandler (some (.Name x np)) (some n) (b₀ :: suite) pos' :: hds) ((c, ts) :: r)
theorem ps_try_asN {h : ExceptHandler} {r : List (Value × (Addr → Value → Option Addr → TS))} (st : X.stack = X.env :: X.outer) (fr : X.env.frame = some X.env.locals) (ndN : X.N.Nodup) (ni : X.N[i]? = some n) (nl : X.env.kindOf n = some .local) (hh : AsH X n (h :: hds) r)
    (hB : ∀ (W : WX) (ps : List (Addr × Obj)) (xe : Value → Shared → Prop), L2N.Takes (X.tr ps xe) W → PassesOwn (model X.prog X.w) X.A X.env xe → PSs (X.tr ps xe) body (tb W)) :
    PS X (.Try body (h :: hds) [] [] pos) (fun D σ H => tb (wAs X.K i D r) D σ H) := by
  refine ⟨fun pins s σ H D I h' => wpAny_Try_except ?_⟩
  have fr2 : X.A.frames = some (X.env :: X.outer) := I.ok.frames.trans (congrArg some st)
  refine wpAny_mono ((hB _ (X.pn ++ pins) (fun e s₁ => wpAny (model X.prog X.w) X.A (noteFrame e X.env) (fun _ s₂ => wpAny (model X.prog X.w) X.A (setFlight e none) (fun _ s₃ => wpAny (model X.prog X.w) X.A
    (handleBy e X.env (h :: hds)) (SP X pins D) X.xe s₃) X.xe s₂) X.xe s₁) (fun u t xx => ?_) PassesOwn.looking).run [] s σ H D (I.toTry _) h') (fun f t q => ?_) (fun _ _ z => z)
  case refine_2 =>
    have q' := flow_out (pins := pins) I.ok q
    cases f with
    | next => exact wpAny_execs_nil q'
    | _ => exact q'
  obtain ⟨a, B, t0, ps, σ1, H1, cls, d, eu, J0, nB, u1, sk, na, eo, bare, hw⟩ := xx
  subst eu
  have J := J0.ofTry I.ok
  rw [show (X.tr (X.pn ++ pins) _).stack = X.env :: X.outer from st] at sk
  refine L2N.Sky.land L2N.Zn.steady fr2 fr sk fun h3 f3 u3 => ?_
  generalize h :: hds = all at hh ⊢
  clear h'
  have J3 : Inv X pins σ1 H1 { t with heap := h3 } := J.landed nB f3.1 (u1.trans u3) eo bare
  obtain ⟨o3, v3, g3, z3, d3⟩ := f3.there
  have out := no_frame f3.2.2.1 g3 d3
  have aL : a ≠ X.env.locals := fun e => out (List.mem_filterMap.mpr ⟨X.env, .head _, by rw [e]; exact fr⟩)
  have aF : a ∉ X.fs := fun m => out (by rw [show frs (X.env :: X.outer) = X.env.locals :: frs X.outer from List.filterMap_cons_some fr]; exact .tail _ m)
  have look : PySem.W.Looks (model X.prog X.w) h3 (typeOf (.ref a)) cls := fun _ _ _ _ k z => wpAny_typeOf_ref (k _ _ g3) (by rw [z3.1]; exact z)
  induction hh with
  | nil => exact hw.elim
  | cons nc hS _ ih =>
    refine wpAny_handleBy_cons (codeAny_handlers_test (names_it nc (J3.suite g3 d3 na aL aF) ?_)) (by intro z; cases z)
    rcases hw with ⟨hit, go⟩ | ⟨miss, hw⟩
    · refine (PySem.W.exm_one (M := model X.prog X.w) J3.kIn look hit).here ?_
      refine codeAny_handlers_suite_as (HandSPX.lands_againZ f3 fun h4 f4 u4 => ?_)
      have J4 : Inv X pins σ1 H1 { t with heap := h4 } := J.landed nB f4.1 ((u1.trans u3).trans u4) eo bare
      obtain ⟨o4, v4, g4, z4, d4⟩ := f4.there
      refine store_ok (X := Cx.suite X a ((a, o4) :: (X.pn ++ pins))) (v := .ref a) (J4.suite g4 d4 na aL aF) ndN ni (.inl nl) rfl (fun t5 S5 => ?_) (.inr nl)
      refine wpAny_mono ((hS a o4 cls d (X.pn ++ pins) z4 ⟨_, d4⟩).run [] t5 _ H1 _ S5 (go a na)) (fun f t6 q => ?_) (fun _ _ z => z.elim)
      cases f with
      | ret u => exact let ⟨v6, σ6, H6, S6, r6, q6⟩ := q; gone_ok (S6.unsuite I.ok) ndN ni nl fun t7 J7 => ⟨v6, _, H6, J7, r6, q6⟩
      | next => exact let ⟨σ6, H6, S6, q6⟩ := q; gone_ok (S6.unsuite I.ok) ndN ni nl fun t7 J7 => ⟨_, H6, J7, q6⟩
      | brk => exact let ⟨σ6, H6, S6, q6⟩ := q; gone_ok (S6.unsuite I.ok) ndN ni nl fun t7 J7 => ⟨_, H6, J7, q6⟩
      | cont => exact let ⟨σ6, H6, S6, q6⟩ := q; gone_ok (S6.unsuite I.ok) ndN ni nl fun t7 J7 => ⟨_, H6, J7, q6⟩
    · refine (PySem.W.exm_one (M := model X.prog X.w) J3.kIn look miss).here ?_
      show wpAny _ X.A (handleBy (.ref a) X.env _) _ _ _
      exact ih hw
end
end RK
namespace DK
open PySem PySem.Spec PyProof.Rows L2
section
variable {X : Cx} {pins : List (Addr × Obj)} {σ : L2.St} {H : Hp} {s : Shared} {CX : CXT} {k : Nat} {f C : Addr} {sp : Sp}
/-- the callee runs below the running body; what leaves it may look at the slots -/
theorem run_subAt {E : XK} {A1 : Around} {Q : VK} {us : List Value} {vs : List V} (F : FnR X.prog X.w X.K X.mg X.base CX k f sp) (sb : Sub X k A1) (hx : PassesAt CX X σ E) (I : Inv X pins σ H s) (r : Vals vs us) (h : sp vs H Q E) :
    wpAny (model X.prog X.w) A1 (call (.ref f) us) (EP X pins σ Q) X.xe s := by
  have e0 : Env0 X.prog X.w X.K X.mg X.base A1 X.stack s H := by
    have e := I.env0
    exact ⟨by rw [sb.fr]; exact e.frames, e.mod, e.bs, e.bsz, e.funs, e.frf, e.hok, e.bare⟩
  refine wpAny_call (codeAny_mono (F A1 X.stack s H us vs Q E sb.room e0 r h) fun r s' hq => ?_)
  cases r with
  | error e => exact hx pins H s e s' I hq
  | ok fl =>
    cases fl with
    | ret u => exact I.after hq
    | next => exact False.elim hq
    | brk => exact False.elim hq
    | cont => exact False.elim hq
theorem passAt_of {E : XK} {σ : L2.St} (h : Passes CX X E) : PassesAt CX X σ E := fun pins H s e s' I c => h pins σ H s e s' I c
/-- x[i], by the own __getitem__ of x's class -/
def tIxO (C : Addr) (sp : Sp) (E : L2.St → XK) (ta tb : TE) : TE := fun σ H Q => ta σ H fun x H1 => tb σ H1 fun y H2 => ∃ o dx fs, x = V.ref o ∧ H2 o = some (.ins C dx fs) ∧ sp [.ref o, y] H2 Q (E σ)
theorem pe_ixO {E : L2.St → XK} {a b : Expr} {pos : Pos} {ta tb : TE} (ha : PE X a ta) (hb : PE X b tb) (own : Own X.K C "__getitem__" f) (hf : PySem.W.fnIn X.K f = true) (F : FnR X.prog X.w X.K X.mg X.base CX k f sp) (hx : ∀ σ, PassesAt CX X σ (E σ)) (hr : Room (k + 1) X.A)
    (hsl : ∀ (x : Addr) (i : Value), subscripted b true (.ref x) i = runValue (.builtin "lifetime.subscript" ⟨[.ref x, i], []⟩) := by intro _ _; with_unfolding_all rfl) : PE X (.Subscript a b pos) (tIxO C sp E ta tb) := by
  refine ⟨fun pins s σ H Q I h => ?_⟩
  refine Subscript_ (binT ha hb I h fun v u s2 x y H2 I2 rx ry q => ?_)
  obtain ⟨o, dx, fs, rfl, ho, hsp⟩ := q
  cases rx
  obtain ⟨mA, J, _⟩ := ins_get I2.hok ho
  obtain ⟨od, J, _⟩ := J.look
  obtain ⟨m, hF⟩ := I2.fr
  refine PySem.W.sub_K hF I2.ok.mod.kin J own.at_ hf own.fn ?_ (hsl o u)
  have sb : Sub X (k + 1) X.A := ⟨hr, rfl⟩
  exact run_subAt (us := [.ref o, u]) (vs := [V.ref o, y]) F sb.in1 (hx σ) I2 (.cons rfl (.cons ry .nil)) hsp
/-- o[i] = .., by the own __setitem__ of o's class -/
def gSubO (C : Addr) (sp : Sp) (E : L2.St → XK) (to ti : TE) : TG := fun v σ H Q => to σ H fun o H1 => ti σ H1 fun i H2 => ∃ a dx fs, o = V.ref a ∧ H2 a = some (.ins C dx fs) ∧ sp [.ref a, i, v] H2 (fun _ H3 => Q σ H3) (E σ)
theorem pg_subO {E : L2.St → XK} {o i : Expr} {pos : Pos} {to ti : TE} (ho : PE X o to) (hi : PE X i ti) (own : Own X.K C "__setitem__" f) (hq : PySem.W.noSeq X.K C = true) (F : FnR X.prog X.w X.K X.mg X.base CX k f sp) (hx : ∀ σ, PassesAt CX X σ (E σ)) (hr : Room k X.A)
    (ha : ∀ v, assign (.Subscript o i pos) X.env v = (do
      let ov ← holding [v] (eval o X.env)
      let iv ← holding [v, ov] (eval i X.env)
      standAt pos
      holding [v, ov, iv] (setItem ov iv v)
      release [v, ov, iv] []) := by intro _; rfl) : PG X (.Subscript o i pos) (gSubO C sp E to ti) := by
  refine ⟨fun pins s σ H v u Q I r h => ?_⟩
  rw [ha]
  refine wpAny_bind (wpAny_holding (thn (ho.run pins s σ H _ I h) fun ov s1 ⟨x, H1, I1, r1, q1⟩ => ?_))
  refine wpAny_bind (wpAny_holding (thn (hi.run pins s1 σ H1 _ I1 q1) fun iv s2 ⟨y, H2, I2, r2, q2⟩ => ?_))
  obtain ⟨a, dx, fs, rfl, hA, hsp⟩ := q2
  cases r1
  obtain ⟨mA, J, _⟩ := ins_get I2.hok hA
  obtain ⟨od, J, _⟩ := J.look
  obtain ⟨m, hF⟩ := I2.fr
  have sb : Sub X k X.A := ⟨hr, rfl⟩
  refine wpAny_bind (wpAny_standAt (wpAny_bind (wpAny_holding (PySem.W.ksp_setItem hF I2.ok.mod.kin J hq own.at_ own.fn (thn (run_subAt (us := [.ref a, iv, u]) (vs := [V.ref a, y, v]) F sb (hx σ) I2 (.cons rfl (.cons r2 (.cons r .nil))) hsp) fun rv s3 z => ?_)))))
  obtain ⟨w', H3, I3, _, q3⟩ := z
  exact wpAny_release ⟨σ, H3, I3, q3⟩
/-- x op y, both of the class at C, by its own method for op -/
theorem op_cmpO {op : CmpOp} {E : XK} (c : Own X.K C (cmpInfo op).2.1 f) (hop : ∀ v u, compareOp op v u = richCompare op v u) (F : FnR X.prog X.w X.K X.mg X.base CX k f sp) (hx : Passes CX X E) (hr : Room k X.A) : OpR X (compareOp op) (rEqO C sp E) := by
  intro pins s σ H x y v u Q I rx ry h
  obtain ⟨a, dx, fs, b, dy, gs, rfl, rfl, ha, hb, hsp⟩ := h
  cases rx
  cases ry
  obtain ⟨mA, J, _⟩ := ins_get I.hok ha
  obtain ⟨mB, J', _⟩ := ins_get I.hok hb
  obtain ⟨od, J, _⟩ := J.look
  obtain ⟨od', J', _⟩ := J'.look
  obtain ⟨m, hF⟩ := I.fr
  rw [hop]
  refine PySem.W.cmp_K (op := op) (tb := .ref C) hr.units0 hF I.ok.mod.kin J J'.type (by simp [PySem.W.notFirst]) c.at_ c.fn ?_
  refine wpAny_mono (run_sub (us := [.ref a, .ref b]) (vs := [V.ref a, V.ref b]) F ⟨hr, rfl⟩ hx I (.cons rfl (.cons rfl .nil)) hsp) (fun r s' hq => ?_) fun _ _ z => z
  obtain ⟨w', H', I', rv, b', rfl, q⟩ := hq
  cases rv
  exact ⟨.bl b', H', I', rfl, q⟩
/-- o.m(e, ..) where what is raised is wished for at the caller's slots -/
def tMethS (C : Addr) (m : Str) (sp : Sp) (E : L2.St → XK) (ta : TE) (t : TA) : TE := fun σ H Q => ta σ H fun x H1 => ∃ a dx fs, x = V.ref a ∧ H1 a = some (.ins C dx fs) ∧ fs.lookup m = Option.none ∧ t σ H1 fun vs H2 => sp (V.ref a :: vs) H2 Q (E σ)
theorem pe_methS {E : L2.St → XK} {m : Str} {o e : Expr} {es : List Expr} {apos pos : Pos} {ta : TE} {t : TA} {fd : FuncData} {ps : List Str} {pl : Sem Bool} (he : PE X o ta) (c : Cls X.K C) (hm : Meth X.K C m f) (F : FnOk X.prog X.w X.K X.mg X.base CX k f fd ps sp) (hr : Room k X.A) (hb : Binds X.K fd ps []) (hx : ∀ σ, PassesAt CX X σ (E σ)) (ha : PA X (e :: es) t)
    (hst : starEach (e :: es) X.env = (false, eval e X.env) :: starEach es X.env := by rfl) (hpl : (backTo pos (starEach es X.env)).any (·.1) = false := by rfl)
    (ht : eval (.Call (.Attribute o m apos) (e :: es) [] pos) X.env = (do let ov ← eval o X.env; standAt apos.atName; let (f, first) ← holding [ov] (getMethod ov m pl); callWith pos f first (backTo pos (starEach (e :: es) X.env)) (backToKw pos (keywordEach [] X.env))) := by rfl) :
    PE X (.Call (.Attribute o m apos) (e :: es) [] pos) (tMethS C m sp E ta t) := by
  refine ⟨fun pins s σ H Q I h => ?_⟩
  refine PySem.W.methodCall_KW (pl := pl) (thn (he.run pins s σ H _ I h) fun u s1 ⟨x, H1, I1, rx, a, dx, fs, ex, ea, l, q⟩ => ?_) ht
  cases ex
  cases rx
  refine getmeth_ok I1 ea c hm l ?_
  refine PySem.W.callWith_K (first := [Value.ref a]) (h₀ := X.base) I.ok.mod.kin hm.kp (thn (ha.run pos pins s1 σ H1 _ I1 q) fun us s2 ⟨vs, H2, I2, r, q2⟩ => ⟨I2.kIn, ?_⟩) hst hpl
  exact run_fnS (us := Value.ref a :: us) (vs := V.ref a :: vs) F hr hb (hx σ) I2 (.cons rfl r) q2
end
end DK

/-! a tuple times 0 or 1 -/
namespace L2
open PySem PySem.Spec PyProof.Rows
theorem mul_one_tup (tp : Addr) (its : Array Value) (m : Nat) (dz : Option Addr) (slo : Array (Option Value)) (tk : Tok) :
    Meets (Builtin.«tuple.__mul__» ⟨[.ref tp, .int 1 tk], []⟩) (fun _ R s => s.heap.get? tp = some { cls := .type "tuple", dict := dz, data := .seq its m, slots := slo } ∧ R (.ok (.ret (Value.ref tp))) s) :=
  .of_wp fun prog w A R s h => by
    obtain ⟨hp, g, d, tks, os⟩ := s
    obtain ⟨hl, h⟩ := h
    have f1 := AutoSeq1.idx_int
    have cc : (its.isEmpty || (1 : Int) == 1) = true := by rw [show ((1 : Int) == 1) = true from rfl, Bool.or_true]
    have c0 : (decide ((1 : Int) < -(2 ^ 63)) || decide ((1 : Int) ≥ 2 ^ 63)) = false := by decide
    wp_walk using wpAny_loadPart' hl
    repeat (first
      | (refine wpAny_ite_false (decide_eq_false (by rw [c0]; exact Bool.false_ne_true)) ?_; wp_walk using wpAny_loadPart' hl)
      | (refine wpAny_ite_true (decide_eq_true cc) ?_; wp_walk using wpAny_loadPart' hl))
    exact ⟨_, rfl, h⟩
theorem mul_zero_tup (tp : Addr) (its : Array Value) (m : Nat) (dz : Option Addr) (slo : Array (Option Value)) (tk : Tok) (hne : its.isEmpty = false) :
    Meets (Builtin.«tuple.__mul__» ⟨[.ref tp, .int 0 tk], []⟩) (fun _ R s => s.heap.get? tp = some { cls := .type "tuple", dict := dz, data := .seq its m, slots := slo } ∧ R (.ok (.ret (Value.ref s.heap.objs.size))) { s with heap := s.heap.push { cls := .type "tuple", data := .seq #[] } }) :=
  .of_wp fun prog w A R s h => by
    obtain ⟨hp, g, d, tks, os⟩ := s
    obtain ⟨hl, h⟩ := h
    have f1 := AutoSeq1.idx_int
    have cc : (its.isEmpty || (0 : Int) == 1) = false := by rw [hne]; rfl
    have c0 : (decide ((0 : Int) < -(2 ^ 63)) || decide ((0 : Int) ≥ 2 ^ 63)) = false := by decide
    have c2 : (decide ((0 : Int) ≤ 0) || its.isEmpty) = true := by rw [hne]; rfl
    wp_walk using wpAny_loadPart' hl
    repeat (first
      | (refine wpAny_ite_false (decide_eq_false (by rw [c0]; exact Bool.false_ne_true)) ?_; wp_walk using wpAny_loadPart' hl)
      | (refine wpAny_ite_false (decide_eq_false (by rw [cc]; exact Bool.false_ne_true)) ?_; wp_walk using wpAny_loadPart' hl)
      | (refine wpAny_ite_true (decide_eq_true c2) ?_; wp_walk using wpAny_loadPart' hl))
    exact ⟨_, rfl, h⟩
end L2
namespace RK
open PySem PySem.Spec PyProof.Rows L2
/-- a tuple times a number, none and one too -/
def rRepTA (K : PySem.W.Frag) : R2 := fun x y H Q => ∃ l k xs, x = .ref l ∧ y = .int k ∧ SqT K H l xs ∧ xs ≠ [] ∧ 0 ≤ k ∧ k ≤ 1000 ∧ xs.length ≤ 1000 ∧ ∀ p H', Same H H' → SqT K H' p (List.replicate k.toNat xs).flatten → Q (.ref p) H'
theorem op_repTA {X : Cx} : OpR X (binaryOp .Mult) (rRepTA X.K) := by
  intro pins s σ H x y v u Q I rx ry hw
  obtain ⟨tp, k, xs, rfl, rfl, hT, hne, k0, k1, hz, q⟩ := hw
  by_cases h2 : 2 ≤ k
  · exact op_repT pins s σ H _ _ v u Q I rx ry ⟨tp, k, xs, rfl, rfl, hT, hne, h2, k1, hz, fun p hp => q p _ (same_new hp) (SqT.of upd_same)⟩
  cases rx
  obtain ⟨tk, rfl⟩ := ry
  obtain ⟨its, rel, ⟨⟨cl, dz, da, slo⟩, got, hcl, m, hda⟩, _⟩ := I.tuple hT
  simp only at hcl hda
  subst hcl hda
  have hemp : its.toArray.isEmpty = false := by
    cases its with
    | nil =>
      cases rel
      exact absurd rfl hne
    | cons a b => rfl
  have : k = 0 ∨ k = 1 := by omega
  rcases this with rfl | rfl
  · refine wpAny_binaryOp_repeat_ref (T := "tuple") (U := "int") (by decide) ⟨_, got, rfl⟩ (fun s' => typeIs_int s' 0 tk) noFill_tuple_mul F.fills_int_mul F.slot_int_rmul repeat_tuple F.slot_int_index.lookup
      (call_meets F.slot_int_rmul (typeIs_int s 0 tk) F.entry_int_rmul (F.args_int_rmul_2 _ _) (int_rmul_tuple 0 tk tp its.toArray m dz slo) ⟨got, rfl, ⟨_, got, rfl⟩, ?_⟩)
    refine call_meets F.slot_tuple_mul ⟨_, got, rfl⟩ F.entry_tuple_mul (F.args_tuple_mul_2 _ _) (mul_zero_tup tp its.toArray m dz slo tk hemp) ⟨got, ?_⟩
    have fresh : H s.heap.objs.size = none := I.hok.fresh (Nat.le_refl _)
    refine ⟨.ref s.heap.objs.size, _, I.laid (t' := s.toks) (o := .tup []) (fun b ob e => Heap.get?_push_of_some _ e) (Nat.le_refl _) ⟨by decide, _, .nil, IsTup.new _ _⟩, rfl, q _ _ (same_new fresh) (SqT.of upd_same)⟩
  · refine wpAny_binaryOp_repeat_ref (T := "tuple") (U := "int") (by decide) ⟨_, got, rfl⟩ (fun s' => typeIs_int s' 1 tk) noFill_tuple_mul F.fills_int_mul F.slot_int_rmul repeat_tuple F.slot_int_index.lookup
      (call_meets F.slot_int_rmul (typeIs_int s 1 tk) F.entry_int_rmul (F.args_int_rmul_2 _ _) (int_rmul_tuple 1 tk tp its.toArray m dz slo) ⟨got, rfl, ⟨_, got, rfl⟩, ?_⟩)
    refine call_meets F.slot_tuple_mul ⟨_, got, rfl⟩ F.entry_tuple_mul (F.args_tuple_mul_2 _ _) (mul_one_tup tp its.toArray m dz slo tk) ⟨got, ?_⟩
    refine ⟨.ref tp, H, I, rfl, q _ _ (Same.refl _) ?_⟩
    show SqT X.K H tp ([xs].flatten)
    rw [List.flatten_singleton]
    exact hT
end RK

namespace R1
open PySem PySem.Spec PyProof.Rows L2 RK
local macro_rules | `(tactic| walk_at "sq") => `(tactic| first
  | exact SqL.of upd_same | exact upd_same | exact SqL.of (by assumption) | exact SqL.of (by rw [upd_ne (by assumption)]; assumption) | assumption)
local macro_rules | `(tactic| walk_at "sd") => `(tactic| first
  | assumption | omega | (refine Or.inl ⟨?_, ?_⟩ <;> omega) | (show _ ∧ _; constructor <;> omega) | (show _ ≠ _; simp; omega) | (exact Or.inl ⟨by decide, by decide⟩) | (exact Or.inr ⟨by decide, by decide⟩) | (show _ < _; decide) | (show _ ≤ _; decide))
local macro_rules | `(tactic| walk_at "at") => `(tactic| first | rfl | (refine atI_intV ?_ ?_ <;> omega) | assumption)
local macro_rules | `(tactic| walk_at "s1") => `(tactic| first
  | refine ⟨_, rfl, ?_⟩ | refine ⟨_, _, rfl, rfl, ?_⟩ | refine ⟨rfl, ?_⟩
  | refine ⟨_, _, _, _, rfl, rfl, by walk_at "sq", by walk_at "at", ?_⟩
  | refine Or.inl ⟨_, rfl, ?_⟩
  | refine ⟨_, _, rfl, Or.inl (by walk_at "sq"), ?_⟩
  | refine And.intro (by walk_at "sd") ?_)
local macro_rules | `(tactic| walk_at "s") => `(tactic| repeat walk_at "s1")

def topS (i : Nat) : Stmt := PySem.Challenge.pw_romwright_k65_flash_and_power.main.body.getD i (.Pass ⟨0, 0, 0, 0⟩)
abbrev s_TooLong_init : Stmt := inClass (topS 3) 0
abbrev N_TooLong_init : List Str := ["self", "length"]
theorem sc_TooLong_init : FnScope N_TooLong_init ["self", "length"] (defScope s_TooLong_init) := ⟨rfl, rfl, rfl, by decide +kernel, rfl, by decide +kernel, by decide +kernel⟩
abbrev s_NoPage_init : Stmt := inClass (topS 4) 0
abbrev N_NoPage_init : List Str := ["self", "page"]
theorem sc_NoPage_init : FnScope N_NoPage_init ["self", "page"] (defScope s_NoPage_init) := ⟨rfl, rfl, rfl, by decide +kernel, rfl, by decide +kernel, by decide +kernel⟩
abbrev s_Written_init : Stmt := inClass (topS 5) 0
abbrev N_Written_init : List Str := ["self", "page"]
theorem sc_Written_init : FnScope N_Written_init ["self", "page"] (defScope s_Written_init) := ⟨rfl, rfl, rfl, by decide +kernel, rfl, by decide +kernel, by decide +kernel⟩
abbrev s_NoBlock_init : Stmt := inClass (topS 6) 0
abbrev N_NoBlock_init : List Str := ["self", "block"]
theorem sc_NoBlock_init : FnScope N_NoBlock_init ["self", "block"] (defScope s_NoBlock_init) := ⟨rfl, rfl, rfl, by decide +kernel, rfl, by decide +kernel, by decide +kernel⟩
abbrev s_NoSlot_init : Stmt := inClass (topS 7) 0
abbrev N_NoSlot_init : List Str := ["self", "slot"]
theorem sc_NoSlot_init : FnScope N_NoSlot_init ["self", "slot"] (defScope s_NoSlot_init) := ⟨rfl, rfl, rfl, by decide +kernel, rfl, by decide +kernel, by decide +kernel⟩
abbrev s_BadPower_init : Stmt := inClass (topS 8) 0
abbrev N_BadPower_init : List Str := ["self", "power"]
theorem sc_BadPower_init : FnScope N_BadPower_init ["self", "power"] (defScope s_BadPower_init) := ⟨rfl, rfl, rfl, by decide +kernel, rfl, by decide +kernel, by decide +kernel⟩
abbrev s_PowerLost_init : Stmt := inClass (topS 9) 0
abbrev N_PowerLost_init : List Str := ["self", "seen"]
theorem sc_PowerLost_init : FnScope N_PowerLost_init ["self", "seen"] (defScope s_PowerLost_init) := ⟨rfl, rfl, rfl, by decide +kernel, rfl, by decide +kernel, by decide +kernel⟩
abbrev s_is_between : Stmt := topS 10
abbrev N_is_between : List Str := ["thing", "least", "most"]
theorem sc_is_between : FnScope N_is_between ["thing", "least", "most"] (defScope s_is_between) := ⟨rfl, rfl, rfl, by decide +kernel, rfl, by decide +kernel, by decide +kernel⟩
abbrev s_Flash_init : Stmt := inClass (topS 18) 0
abbrev N_Flash_init : List Str := ["self"]
theorem sc_Flash_init : FnScope N_Flash_init ["self"] (defScope s_Flash_init) := ⟨rfl, rfl, rfl, by decide +kernel, rfl, by decide +kernel, by decide +kernel⟩
abbrev s_Flash_getitem : Stmt := inClass (topS 18) 1
abbrev N_Flash_getitem : List Str := ["self", "at"]
theorem sc_Flash_getitem : FnScope N_Flash_getitem ["self", "at"] (defScope s_Flash_getitem) := ⟨rfl, rfl, rfl, by decide +kernel, rfl, by decide +kernel, by decide +kernel⟩
abbrev s_Flash_setitem : Stmt := inClass (topS 18) 2
abbrev N_Flash_setitem : List Str := ["self", "at", "worth"]
theorem sc_Flash_setitem : FnScope N_Flash_setitem ["self", "at", "worth"] (defScope s_Flash_setitem) := ⟨rfl, rfl, rfl, by decide +kernel, rfl, by decide +kernel, by decide +kernel⟩
abbrev s_Flash_erase : Stmt := inClass (topS 18) 4
abbrev N_Flash_erase : List Str := ["self", "block", "page"]
theorem sc_Flash_erase : FnScope N_Flash_erase ["self", "block"] (defScope s_Flash_erase) := ⟨rfl, rfl, rfl, by decide +kernel, rfl, by decide +kernel, by decide +kernel⟩
abbrev s_Flash_slot_words : Stmt := inClass (topS 18) 5
abbrev N_Flash_slot_words : List Str := ["self", "slot"]
theorem sc_Flash_slot_words : FnScope N_Flash_slot_words ["self", "slot"] (defScope s_Flash_slot_words) := ⟨rfl, rfl, rfl, by decide +kernel, rfl, by decide +kernel, by decide +kernel⟩
abbrev s_Flash_block_words : Stmt := inClass (topS 18) 6
abbrev N_Flash_block_words : List Str := ["self", "block"]
theorem sc_Flash_block_words : FnScope N_Flash_block_words ["self", "block"] (defScope s_Flash_block_words) := ⟨rfl, rfl, rfl, by decide +kernel, rfl, by decide +kernel, by decide +kernel⟩
abbrev s_Flash_put_in : Stmt := inClass (topS 18) 7
abbrev N_Flash_put_in : List Str := ["self", "page", "words", "rows", "number", "row", "due"]
theorem sc_Flash_put_in : FnScope N_Flash_put_in ["self", "page", "words"] (defScope s_Flash_put_in) := ⟨rfl, rfl, rfl, by decide +kernel, rfl, by decide +kernel, by decide +kernel⟩
abbrev s_Power_init : Stmt := inClass (topS 19) 0
abbrev N_Power_init : List Str := ["self", "flash", "units"]
theorem sc_Power_init : FnScope N_Power_init ["self", "flash", "units"] (defScope s_Power_init) := ⟨rfl, rfl, rfl, by decide +kernel, rfl, by decide +kernel, by decide +kernel⟩
abbrev s_check_page : Stmt := topS 20
abbrev N_check_page : List Str := ["page"]
theorem sc_check_page : FnScope N_check_page ["page"] (defScope s_check_page) := ⟨rfl, rfl, rfl, by decide +kernel, rfl, by decide +kernel, by decide +kernel⟩
abbrev s_check_block : Stmt := topS 21
abbrev N_check_block : List Str := ["block"]
theorem sc_check_block : FnScope N_check_block ["block"] (defScope s_check_block) := ⟨rfl, rfl, rfl, by decide +kernel, rfl, by decide +kernel, by decide +kernel⟩
abbrev s_check_power : Stmt := topS 22
abbrev N_check_power : List Str := ["units"]
theorem sc_check_power : FnScope N_check_power ["units"] (defScope s_check_power) := ⟨rfl, rfl, rfl, by decide +kernel, rfl, by decide +kernel, by decide +kernel⟩
abbrev s_use_power : Stmt := topS 23
abbrev N_use_power : List Str := ["flash"]
theorem sc_use_power : FnScope N_use_power ["flash"] (defScope s_use_power) := ⟨rfl, rfl, rfl, by decide +kernel, rfl, by decide +kernel, by decide +kernel⟩
abbrev s_limit_power : Stmt := topS 24
abbrev N_limit_power : List Str := ["flash", "units"]
theorem sc_limit_power : FnScope N_limit_power ["flash", "units"] (defScope s_limit_power) := ⟨rfl, rfl, rfl, by decide +kernel, rfl, by decide +kernel, by decide +kernel⟩
abbrev s_write_page : Stmt := topS 25
abbrev N_write_page : List Str := ["flash", "page", "words", "count", "place"]
theorem sc_write_page : FnScope N_write_page ["flash", "page", "words"] (defScope s_write_page) := ⟨rfl, rfl, rfl, by decide +kernel, rfl, by decide +kernel, by decide +kernel⟩
abbrev s_words_of_pages : Stmt := topS 26
abbrev N_words_of_pages : List Str := ["flash", "page", "count", "row", "word"]
theorem sc_words_of_pages : FnScope N_words_of_pages ["flash", "page", "count"] (defScope s_words_of_pages) := ⟨rfl, rfl, rfl, by decide +kernel, rfl, by decide +kernel, by decide +kernel⟩
abbrev s_rows_for_pages : Stmt := topS 27
abbrev N_rows_for_pages : List Str := ["words", "at", "rows", "row"]
theorem sc_rows_for_pages : FnScope N_rows_for_pages ["words"] (defScope s_rows_for_pages) := ⟨rfl, rfl, rfl, by decide +kernel, rfl, by decide +kernel, by decide +kernel⟩
abbrev s_law_source : Stmt := topS 29
abbrev N_law_source : List Str := ["_law_script", "_law_cell", "_law_numbers", "_law_mixed"]
theorem sc_law_source : FnScope N_law_source ["_law_script"] (defScope s_law_source) := ⟨rfl, rfl, rfl, by decide +kernel, rfl, by decide +kernel, by decide +kernel⟩
abbrev s_law_draw : Stmt := topS 30
abbrev N_law_draw : List Str := ["_law_source_here", "_law_below", "_law_numbers", "_law_place", "_law_digits", "_law_count", "_law_seed", "_law_number"]
theorem sc_law_draw : FnScope N_law_draw ["_law_source_here", "_law_below"] (defScope s_law_draw) := ⟨rfl, rfl, rfl, by decide +kernel, rfl, by decide +kernel, by decide +kernel⟩
abbrev s_law_word : Stmt := topS 31
abbrev N_law_word : List Str := ["_law_source_here", "_law_way"]
theorem sc_law_word : FnScope N_law_word ["_law_source_here"] (defScope s_law_word) := ⟨rfl, rfl, rfl, by decide +kernel, rfl, by decide +kernel, by decide +kernel⟩
abbrev s_law_plain : Stmt := topS 32
abbrev N_law_plain : List Str := ["_law_thing", "_law_one"]
theorem sc_law_plain : FnScope N_law_plain ["_law_thing"] (defScope s_law_plain) := ⟨rfl, rfl, rfl, by decide +kernel, rfl, by decide +kernel, by decide +kernel⟩
abbrev s_law_spend : Stmt := topS 33
abbrev N_law_spend : List Str := ["_law_power", "_law_units", "_law_done_here"]
theorem sc_law_spend : FnScope N_law_spend ["_law_power", "_law_units"] (defScope s_law_spend) := ⟨rfl, rfl, rfl, by decide +kernel, rfl, by decide +kernel, by decide +kernel⟩
abbrev s_law_erase : Stmt := topS 34
abbrev N_law_erase : List Str := ["_law_pages", "_law_power", "_law_block_here", "_law_done_here", "_law_page_here"]
theorem sc_law_erase : FnScope N_law_erase ["_law_pages", "_law_power", "_law_block_here"] (defScope s_law_erase) := ⟨rfl, rfl, rfl, by decide +kernel, rfl, by decide +kernel, by decide +kernel⟩
abbrev s_law_write : Stmt := topS 35
abbrev N_law_write : List Str := ["_law_pages", "_law_power", "_law_page_here", "_law_words_here", "_law_count", "_law_place", "_law_done_here"]
theorem sc_law_write : FnScope N_law_write ["_law_pages", "_law_power", "_law_page_here", "_law_words_here"] (defScope s_law_write) := ⟨rfl, rfl, rfl, by decide +kernel, rfl, by decide +kernel, by decide +kernel⟩
abbrev s_law_rows : Stmt := topS 36
abbrev N_law_rows : List Str := ["_law_page_here", "_law_words_here", "_law_rows_here", "_law_at", "_law_row"]
theorem sc_law_rows : FnScope N_law_rows ["_law_page_here", "_law_words_here"] (defScope s_law_rows) := ⟨rfl, rfl, rfl, by decide +kernel, rfl, by decide +kernel, by decide +kernel⟩
abbrev s_law_fill : Stmt := topS 37
abbrev N_law_fill : List Str := ["_law_pages", "_law_power", "_law_page_here", "_law_words_here", "_law_number", "_law_row"]
theorem sc_law_fill : FnScope N_law_fill ["_law_pages", "_law_power", "_law_page_here", "_law_words_here"] (defScope s_law_fill) := ⟨rfl, rfl, rfl, by decide +kernel, rfl, by decide +kernel, by decide +kernel⟩
abbrev s_law_is_below : Stmt := topS 38
abbrev N_law_is_below : List Str := ["_law_thing", "_law_count"]
theorem sc_law_is_below : FnScope N_law_is_below ["_law_thing", "_law_count"] (defScope s_law_is_below) := ⟨rfl, rfl, rfl, by decide +kernel, rfl, by decide +kernel, by decide +kernel⟩
abbrev s_law_block : Stmt := topS 39
abbrev N_law_block : List Str := ["_law_source_here", "_law_near_here", "_law_way"]
theorem sc_law_block : FnScope N_law_block ["_law_source_here", "_law_near_here"] (defScope s_law_block) := ⟨rfl, rfl, rfl, by decide +kernel, rfl, by decide +kernel, by decide +kernel⟩
abbrev s_law_page : Stmt := topS 40
abbrev N_law_page : List Str := ["_law_source_here", "_law_near_here", "_law_way"]
theorem sc_law_page : FnScope N_law_page ["_law_source_here", "_law_near_here"] (defScope s_law_page) := ⟨rfl, rfl, rfl, by decide +kernel, rfl, by decide +kernel, by decide +kernel⟩
abbrev s_law_words : Stmt := topS 41
abbrev N_law_words : List Str := ["_law_source_here", "_law_count", "_law_words_here", "_law_place"]
theorem sc_law_words : FnScope N_law_words ["_law_source_here", "_law_count"] (defScope s_law_words) := ⟨rfl, rfl, rfl, by decide +kernel, rfl, by decide +kernel, by decide +kernel⟩
abbrev s_law_deed : Stmt := topS 42
abbrev N_law_deed : List Str := ["_law_source_here", "_law_near_here", "_law_way", "_law_count", "_law_page_here"]
theorem sc_law_deed : FnScope N_law_deed ["_law_source_here", "_law_near_here"] (defScope s_law_deed) := ⟨rfl, rfl, rfl, by decide +kernel, rfl, by decide +kernel, by decide +kernel⟩
abbrev s_law_done : Stmt := topS 43
abbrev N_law_done : List Str := ["_law_flash", "_law_deed_here", "_law_name", "_law_spot", "_law_words_here", "e"]
theorem sc_law_done : FnScope N_law_done ["_law_flash", "_law_deed_here"] (defScope s_law_done) := ⟨rfl, rfl, rfl, by decide +kernel, rfl, by decide +kernel, by decide +kernel⟩
abbrev s_law_expected : Stmt := topS 44
abbrev N_law_expected : List Str := ["_law_pages", "_law_power", "_law_deed_here", "_law_name", "_law_spot", "_law_words_here", "_law_blank", "_law_lasts", "_law_page_here", "_law_row"]
theorem sc_law_expected : FnScope N_law_expected ["_law_pages", "_law_power", "_law_deed_here"] (defScope s_law_expected) := ⟨rfl, rfl, rfl, by decide +kernel, rfl, by decide +kernel, by decide +kernel⟩
abbrev s_law_near : Stmt := topS 45
abbrev N_law_near : List Str := ["_law_flash", "_law_pages", "_law_power", "_law_spot", "_law_page_here"]
theorem sc_law_near : FnScope N_law_near ["_law_flash", "_law_pages", "_law_power", "_law_spot"] (defScope s_law_near) := ⟨rfl, rfl, rfl, by decide +kernel, rfl, by decide +kernel, by decide +kernel⟩
abbrev s_law_read : Stmt := topS 46
abbrev N_law_read : List Str := ["_law_flash", "_law_ask", "_law_thing", "_law_told", "e"]
theorem sc_law_read : FnScope N_law_read ["_law_flash", "_law_ask", "_law_thing"] (defScope s_law_read) := ⟨rfl, rfl, rfl, by decide +kernel, rfl, by decide +kernel, by decide +kernel⟩
abbrev s_law_joined : Stmt := topS 47
abbrev N_law_joined : List Str := ["_law_pages", "_law_first", "_law_count", "_law_words_here", "_law_page_here"]
theorem sc_law_joined : FnScope N_law_joined ["_law_pages", "_law_first", "_law_count"] (defScope s_law_joined) := ⟨rfl, rfl, rfl, by decide +kernel, rfl, by decide +kernel, by decide +kernel⟩
abbrev s_law_refuses : Stmt := topS 48
abbrev N_law_refuses : List Str := ["_law_source_here", "_law_flash", "_law_wrong", "_law_ask", "_law_thing"]
theorem sc_law_refuses : FnScope N_law_refuses ["_law_source_here", "_law_flash"] (defScope s_law_refuses) := ⟨rfl, rfl, rfl, by decide +kernel, rfl, by decide +kernel, by decide +kernel⟩
abbrev s_law : Stmt := topS 49
abbrev N_law : List Str := ["_law_script", "_law_source_here", "_law_near_here", "_law_flash", "_law_other", "_law_page_here", "_law_pages", "_law_power", "_law_step", "_law_deed_here", "_law_due", "_law_number"]
theorem sc_law : FnScope N_law ["_law_script"] (defScope s_law) := ⟨rfl, rfl, rfl, by decide +kernel, rfl, by decide +kernel, by decide +kernel⟩
/-- where things stand -/
structure Ads where
  a_is_between : Addr
  d_is_between : FuncData
  a_check_page : Addr
  d_check_page : FuncData
  a_check_block : Addr
  d_check_block : FuncData
  a_check_power : Addr
  d_check_power : FuncData
  a_use_power : Addr
  d_use_power : FuncData
  a_limit_power : Addr
  d_limit_power : FuncData
  a_write_page : Addr
  d_write_page : FuncData
  a_words_of_pages : Addr
  d_words_of_pages : FuncData
  a_rows_for_pages : Addr
  d_rows_for_pages : FuncData
  a_law_source : Addr
  d_law_source : FuncData
  a_law_draw : Addr
  d_law_draw : FuncData
  a_law_word : Addr
  d_law_word : FuncData
  a_law_plain : Addr
  d_law_plain : FuncData
  a_law_spend : Addr
  d_law_spend : FuncData
  a_law_erase : Addr
  d_law_erase : FuncData
  a_law_write : Addr
  d_law_write : FuncData
  a_law_rows : Addr
  d_law_rows : FuncData
  a_law_fill : Addr
  d_law_fill : FuncData
  a_law_is_below : Addr
  d_law_is_below : FuncData
  a_law_block : Addr
  d_law_block : FuncData
  a_law_page : Addr
  d_law_page : FuncData
  a_law_words : Addr
  d_law_words : FuncData
  a_law_deed : Addr
  d_law_deed : FuncData
  a_law_done : Addr
  d_law_done : FuncData
  a_law_expected : Addr
  d_law_expected : FuncData
  a_law_near : Addr
  d_law_near : FuncData
  a_law_read : Addr
  d_law_read : FuncData
  a_law_joined : Addr
  d_law_joined : FuncData
  a_law_refuses : Addr
  d_law_refuses : FuncData
  a_law : Addr
  d_law : FuncData
  c_TooLong : Addr
  a_TooLong_init : Addr
  d_TooLong_init : FuncData
  c_NoPage : Addr
  a_NoPage_init : Addr
  d_NoPage_init : FuncData
  c_Written : Addr
  a_Written_init : Addr
  d_Written_init : FuncData
  c_NoBlock : Addr
  a_NoBlock_init : Addr
  d_NoBlock_init : FuncData
  c_NoSlot : Addr
  a_NoSlot_init : Addr
  d_NoSlot_init : FuncData
  c_BadPower : Addr
  a_BadPower_init : Addr
  d_BadPower_init : FuncData
  c_PowerLost : Addr
  a_PowerLost_init : Addr
  d_PowerLost_init : FuncData
  c_RomError : Addr
  c_Flash : Addr
  c_Power : Addr
  a_Flash_init : Addr
  d_Flash_init : FuncData
  a_Flash_getitem : Addr
  d_Flash_getitem : FuncData
  a_Flash_setitem : Addr
  d_Flash_setitem : FuncData
  a_Flash_erase : Addr
  d_Flash_erase : FuncData
  a_Flash_slot_words : Addr
  d_Flash_slot_words : FuncData
  a_Flash_block_words : Addr
  d_Flash_block_words : FuncData
  a_Flash_put_in : Addr
  d_Flash_put_in : FuncData
  a_Power_init : Addr
  d_Power_init : FuncData
  t_BLANK : Tok
  t_PAGES : Tok
  t_PAGE_WORDS : Tok
  t_BLOCKS : Tok
  t_BLOCK_PAGES : Tok
  t_SLOT_PAGES : Tok
  t_BLANK_PAGE : Addr
structure Txt (K : PySem.W.Frag) (mg : Str → Option Value) (A : Ads) : Prop where
  F_is_between : Fun K "is_between" "is_between" s_is_between A.a_is_between A.d_is_between
  g_is_between : mg "is_between" = some (.ref A.a_is_between)
  b_is_between : Binds K A.d_is_between ["thing", "least", "most"] []
  F_check_page : Fun K "check_page" "check_page" s_check_page A.a_check_page A.d_check_page
  g_check_page : mg "check_page" = some (.ref A.a_check_page)
  b_check_page : Binds K A.d_check_page ["page"] []
  F_check_block : Fun K "check_block" "check_block" s_check_block A.a_check_block A.d_check_block
  g_check_block : mg "check_block" = some (.ref A.a_check_block)
  b_check_block : Binds K A.d_check_block ["block"] []
  F_check_power : Fun K "check_power" "check_power" s_check_power A.a_check_power A.d_check_power
  g_check_power : mg "check_power" = some (.ref A.a_check_power)
  b_check_power : Binds K A.d_check_power ["units"] []
  F_use_power : Fun K "use_power" "use_power" s_use_power A.a_use_power A.d_use_power
  g_use_power : mg "use_power" = some (.ref A.a_use_power)
  b_use_power : Binds K A.d_use_power ["flash"] []
  F_limit_power : Fun K "limit_power" "limit_power" s_limit_power A.a_limit_power A.d_limit_power
  g_limit_power : mg "limit_power" = some (.ref A.a_limit_power)
  b_limit_power : Binds K A.d_limit_power ["flash", "units"] []
  F_write_page : Fun K "write_page" "write_page" s_write_page A.a_write_page A.d_write_page
  g_write_page : mg "write_page" = some (.ref A.a_write_page)
  b_write_page : Binds K A.d_write_page ["flash", "page", "words"] []
  F_words_of_pages : Fun K "words_of_pages" "words_of_pages" s_words_of_pages A.a_words_of_pages A.d_words_of_pages
  g_words_of_pages : mg "words_of_pages" = some (.ref A.a_words_of_pages)
  b_words_of_pages : Binds K A.d_words_of_pages ["flash", "page", "count"] []
  F_rows_for_pages : Fun K "rows_for_pages" "rows_for_pages" s_rows_for_pages A.a_rows_for_pages A.d_rows_for_pages
  g_rows_for_pages : mg "rows_for_pages" = some (.ref A.a_rows_for_pages)
  b_rows_for_pages : Binds K A.d_rows_for_pages ["words"] []
  F_law_source : Fun K "_law_source" "_law_source" s_law_source A.a_law_source A.d_law_source
  g_law_source : mg "_law_source" = some (.ref A.a_law_source)
  b_law_source : Binds K A.d_law_source ["_law_script"] []
  F_law_draw : Fun K "_law_draw" "_law_draw" s_law_draw A.a_law_draw A.d_law_draw
  g_law_draw : mg "_law_draw" = some (.ref A.a_law_draw)
  b_law_draw : Binds K A.d_law_draw ["_law_source_here", "_law_below"] []
  F_law_word : Fun K "_law_word" "_law_word" s_law_word A.a_law_word A.d_law_word
  g_law_word : mg "_law_word" = some (.ref A.a_law_word)
  b_law_word : Binds K A.d_law_word ["_law_source_here"] []
  F_law_plain : Fun K "_law_plain" "_law_plain" s_law_plain A.a_law_plain A.d_law_plain
  g_law_plain : mg "_law_plain" = some (.ref A.a_law_plain)
  b_law_plain : Binds K A.d_law_plain ["_law_thing"] []
  F_law_spend : Fun K "_law_spend" "_law_spend" s_law_spend A.a_law_spend A.d_law_spend
  g_law_spend : mg "_law_spend" = some (.ref A.a_law_spend)
  b_law_spend : Binds K A.d_law_spend ["_law_power", "_law_units"] []
  F_law_erase : Fun K "_law_erase" "_law_erase" s_law_erase A.a_law_erase A.d_law_erase
  g_law_erase : mg "_law_erase" = some (.ref A.a_law_erase)
  b_law_erase : Binds K A.d_law_erase ["_law_pages", "_law_power", "_law_block_here"] []
  F_law_write : Fun K "_law_write" "_law_write" s_law_write A.a_law_write A.d_law_write
  g_law_write : mg "_law_write" = some (.ref A.a_law_write)
  b_law_write : Binds K A.d_law_write ["_law_pages", "_law_power", "_law_page_here", "_law_words_here"] []
  F_law_rows : Fun K "_law_rows" "_law_rows" s_law_rows A.a_law_rows A.d_law_rows
  g_law_rows : mg "_law_rows" = some (.ref A.a_law_rows)
  b_law_rows : Binds K A.d_law_rows ["_law_page_here", "_law_words_here"] []
  F_law_fill : Fun K "_law_fill" "_law_fill" s_law_fill A.a_law_fill A.d_law_fill
  g_law_fill : mg "_law_fill" = some (.ref A.a_law_fill)
  b_law_fill : Binds K A.d_law_fill ["_law_pages", "_law_power", "_law_page_here", "_law_words_here"] []
  F_law_is_below : Fun K "_law_is_below" "_law_is_below" s_law_is_below A.a_law_is_below A.d_law_is_below
  g_law_is_below : mg "_law_is_below" = some (.ref A.a_law_is_below)
  b_law_is_below : Binds K A.d_law_is_below ["_law_thing", "_law_count"] []
  F_law_block : Fun K "_law_block" "_law_block" s_law_block A.a_law_block A.d_law_block
  g_law_block : mg "_law_block" = some (.ref A.a_law_block)
  b_law_block : Binds K A.d_law_block ["_law_source_here", "_law_near_here"] []
  F_law_page : Fun K "_law_page" "_law_page" s_law_page A.a_law_page A.d_law_page
  g_law_page : mg "_law_page" = some (.ref A.a_law_page)
  b_law_page : Binds K A.d_law_page ["_law_source_here", "_law_near_here"] []
  F_law_words : Fun K "_law_words" "_law_words" s_law_words A.a_law_words A.d_law_words
  g_law_words : mg "_law_words" = some (.ref A.a_law_words)
  b_law_words : Binds K A.d_law_words ["_law_source_here", "_law_count"] []
  F_law_deed : Fun K "_law_deed" "_law_deed" s_law_deed A.a_law_deed A.d_law_deed
  g_law_deed : mg "_law_deed" = some (.ref A.a_law_deed)
  b_law_deed : Binds K A.d_law_deed ["_law_source_here", "_law_near_here"] []
  F_law_done : Fun K "_law_done" "_law_done" s_law_done A.a_law_done A.d_law_done
  g_law_done : mg "_law_done" = some (.ref A.a_law_done)
  b_law_done : Binds K A.d_law_done ["_law_flash", "_law_deed_here"] []
  F_law_expected : Fun K "_law_expected" "_law_expected" s_law_expected A.a_law_expected A.d_law_expected
  g_law_expected : mg "_law_expected" = some (.ref A.a_law_expected)
  b_law_expected : Binds K A.d_law_expected ["_law_pages", "_law_power", "_law_deed_here"] []
  F_law_near : Fun K "_law_near" "_law_near" s_law_near A.a_law_near A.d_law_near
  g_law_near : mg "_law_near" = some (.ref A.a_law_near)
  b_law_near : Binds K A.d_law_near ["_law_flash", "_law_pages", "_law_power", "_law_spot"] []
  F_law_read : Fun K "_law_read" "_law_read" s_law_read A.a_law_read A.d_law_read
  g_law_read : mg "_law_read" = some (.ref A.a_law_read)
  b_law_read : Binds K A.d_law_read ["_law_flash", "_law_ask", "_law_thing"] []
  F_law_joined : Fun K "_law_joined" "_law_joined" s_law_joined A.a_law_joined A.d_law_joined
  g_law_joined : mg "_law_joined" = some (.ref A.a_law_joined)
  b_law_joined : Binds K A.d_law_joined ["_law_pages", "_law_first", "_law_count"] []
  F_law_refuses : Fun K "_law_refuses" "_law_refuses" s_law_refuses A.a_law_refuses A.d_law_refuses
  g_law_refuses : mg "_law_refuses" = some (.ref A.a_law_refuses)
  b_law_refuses : Binds K A.d_law_refuses ["_law_source_here", "_law_flash"] []
  F_law : Fun K "law" "law" s_law A.a_law A.d_law
  g_law : mg "law" = some (.ref A.a_law)
  b_law : Binds K A.d_law ["_law_script"] []
  F_TooLong_init : Fun K "__init__" "TooLong.__init__" s_TooLong_init A.a_TooLong_init A.d_TooLong_init
  x_TooLong : ErrC K mg "TooLong" "length" A.c_TooLong A.a_TooLong_init A.d_TooLong_init
  F_NoPage_init : Fun K "__init__" "NoPage.__init__" s_NoPage_init A.a_NoPage_init A.d_NoPage_init
  x_NoPage : ErrC K mg "NoPage" "page" A.c_NoPage A.a_NoPage_init A.d_NoPage_init
  F_Written_init : Fun K "__init__" "Written.__init__" s_Written_init A.a_Written_init A.d_Written_init
  x_Written : ErrC K mg "Written" "page" A.c_Written A.a_Written_init A.d_Written_init
  F_NoBlock_init : Fun K "__init__" "NoBlock.__init__" s_NoBlock_init A.a_NoBlock_init A.d_NoBlock_init
  x_NoBlock : ErrC K mg "NoBlock" "block" A.c_NoBlock A.a_NoBlock_init A.d_NoBlock_init
  F_NoSlot_init : Fun K "__init__" "NoSlot.__init__" s_NoSlot_init A.a_NoSlot_init A.d_NoSlot_init
  x_NoSlot : ErrC K mg "NoSlot" "slot" A.c_NoSlot A.a_NoSlot_init A.d_NoSlot_init
  F_BadPower_init : Fun K "__init__" "BadPower.__init__" s_BadPower_init A.a_BadPower_init A.d_BadPower_init
  x_BadPower : ErrC K mg "BadPower" "power" A.c_BadPower A.a_BadPower_init A.d_BadPower_init
  F_PowerLost_init : Fun K "__init__" "PowerLost.__init__" s_PowerLost_init A.a_PowerLost_init A.d_PowerLost_init
  x_PowerLost : ErrC K mg "PowerLost" "seen" A.c_PowerLost A.a_PowerLost_init A.d_PowerLost_init
  F_Flash_init : Fun K "__init__" "Flash.__init__" s_Flash_init A.a_Flash_init A.d_Flash_init
  b_Flash_init : Binds K A.d_Flash_init ["self"] []
  m_Flash : Mk K A.c_Flash A.a_Flash_init
  F_Flash_getitem : Fun K "__getitem__" "Flash.__getitem__" s_Flash_getitem A.a_Flash_getitem A.d_Flash_getitem
  b_Flash_getitem : Binds K A.d_Flash_getitem ["self", "at"] []
  o_Flash_getitem : DK.Own K A.c_Flash "__getitem__" A.a_Flash_getitem
  fi_Flash_getitem : PySem.W.fnIn K A.a_Flash_getitem = true
  F_Flash_setitem : Fun K "__setitem__" "Flash.__setitem__" s_Flash_setitem A.a_Flash_setitem A.d_Flash_setitem
  b_Flash_setitem : Binds K A.d_Flash_setitem ["self", "at", "worth"] []
  o_Flash_setitem : DK.Own K A.c_Flash "__setitem__" A.a_Flash_setitem
  ns_Flash : PySem.W.noSeq K A.c_Flash = true
  F_Flash_erase : Fun K "erase" "Flash.erase" s_Flash_erase A.a_Flash_erase A.d_Flash_erase
  b_Flash_erase : Binds K A.d_Flash_erase ["self", "block"] []
  me_Flash_erase : Meth K A.c_Flash "erase" A.a_Flash_erase
  F_Flash_slot_words : Fun K "slot_words" "Flash.slot_words" s_Flash_slot_words A.a_Flash_slot_words A.d_Flash_slot_words
  b_Flash_slot_words : Binds K A.d_Flash_slot_words ["self", "slot"] []
  me_Flash_slot_words : Meth K A.c_Flash "slot_words" A.a_Flash_slot_words
  F_Flash_block_words : Fun K "block_words" "Flash.block_words" s_Flash_block_words A.a_Flash_block_words A.d_Flash_block_words
  b_Flash_block_words : Binds K A.d_Flash_block_words ["self", "block"] []
  me_Flash_block_words : Meth K A.c_Flash "block_words" A.a_Flash_block_words
  F_Flash_put_in : Fun K "put_in" "Flash.put_in" s_Flash_put_in A.a_Flash_put_in A.d_Flash_put_in
  b_Flash_put_in : Binds K A.d_Flash_put_in ["self", "page", "words"] []
  me_Flash_put_in : Meth K A.c_Flash "put_in" A.a_Flash_put_in
  F_Power_init : Fun K "__init__" "Power.__init__" s_Power_init A.a_Power_init A.d_Power_init
  b_Power_init : Binds K A.d_Power_init ["self", "flash", "units"] []
  m_Power : Mk K A.c_Power A.a_Power_init
  cl_Flash : Cls K A.c_Flash
  na_Flash_pages : NoAttr K A.c_Flash "pages"
  na_Flash_left : NoAttr K A.c_Flash "left"
  cl_Power : Cls K A.c_Power
  na_Power_flash : NoAttr K A.c_Power "flash"
  na_Power_units : NoAttr K A.c_Power "units"
  g_TooLong : mg "TooLong" = some (.ref A.c_TooLong)
  g_NoPage : mg "NoPage" = some (.ref A.c_NoPage)
  g_Written : mg "Written" = some (.ref A.c_Written)
  g_NoBlock : mg "NoBlock" = some (.ref A.c_NoBlock)
  g_NoSlot : mg "NoSlot" = some (.ref A.c_NoSlot)
  g_BadPower : mg "BadPower" = some (.ref A.c_BadPower)
  g_PowerLost : mg "PowerLost" = some (.ref A.c_PowerLost)
  g_RomError : mg "RomError" = some (.ref A.c_RomError)
  g_Flash : mg "Flash" = some (.ref A.c_Flash)
  g_Power : mg "Power" = some (.ref A.c_Power)
  g_BLANK : mg "BLANK" = some (.int 65535 A.t_BLANK)
  g_PAGES : mg "PAGES" = some (.int 144 A.t_PAGES)
  g_PAGE_WORDS : mg "PAGE_WORDS" = some (.int 16 A.t_PAGE_WORDS)
  g_BLOCKS : mg "BLOCKS" = some (.int 18 A.t_BLOCKS)
  g_BLOCK_PAGES : mg "BLOCK_PAGES" = some (.int 8 A.t_BLOCK_PAGES)
  g_SLOT_PAGES : mg "SLOT_PAGES" = some (.int 64 A.t_SLOT_PAGES)
  g_BLANK_PAGE : mg "BLANK_PAGE" = some (.ref A.t_BLANK_PAGE)
  q_BLANK_PAGE : SqT K (fun _ => none) A.t_BLANK_PAGE [.int (65535), .int (65535), .int (65535), .int (65535), .int (65535), .int (65535), .int (65535), .int (65535), .int (65535), .int (65535), .int (65535), .int (65535), .int (65535), .int (65535), .int (65535), .int (65535)]
  y_BLANK_PAGE : ∃ o, K.lookup A.t_BLANK_PAGE = some o ∧ o.cls = .type "tuple" ∧ o.dict = none
  k_NoPage_RomError : PySem.W.kitOne K (.ref A.c_NoPage) (.ref A.c_RomError) = some true
  k_NoBlock_RomError : PySem.W.kitOne K (.ref A.c_NoBlock) (.ref A.c_RomError) = some true
  k_TooLong_RomError : PySem.W.kitOne K (.ref A.c_TooLong) (.ref A.c_RomError) = some true
  k_Written_RomError : PySem.W.kitOne K (.ref A.c_Written) (.ref A.c_RomError) = some true
  k_PowerLost_RomError : PySem.W.kitOne K (.ref A.c_PowerLost) (.ref A.c_RomError) = some true
  k_PowerLost_ValueError : PySem.W.kitOne K (.ref A.c_PowerLost) (.type "ValueError") = some true
  e_NoBlock_NoPage : PySem.W.exmOne K (.ref A.c_NoBlock) (.ref A.c_NoPage) = some false
  e_TooLong_NoPage : PySem.W.exmOne K (.ref A.c_TooLong) (.ref A.c_NoPage) = some false
  e_TooLong_NoBlock : PySem.W.exmOne K (.ref A.c_TooLong) (.ref A.c_NoBlock) = some false
  e_Written_NoPage : PySem.W.exmOne K (.ref A.c_Written) (.ref A.c_NoPage) = some false
  e_Written_NoBlock : PySem.W.exmOne K (.ref A.c_Written) (.ref A.c_NoBlock) = some false
  e_Written_TooLong : PySem.W.exmOne K (.ref A.c_Written) (.ref A.c_TooLong) = some false
  e_PowerLost_NoPage : PySem.W.exmOne K (.ref A.c_PowerLost) (.ref A.c_NoPage) = some false
  e_PowerLost_NoBlock : PySem.W.exmOne K (.ref A.c_PowerLost) (.ref A.c_NoBlock) = some false
  e_PowerLost_TooLong : PySem.W.exmOne K (.ref A.c_PowerLost) (.ref A.c_TooLong) = some false
  e_PowerLost_Written : PySem.W.exmOne K (.ref A.c_PowerLost) (.ref A.c_Written) = some false
  e_NoSlot_NoPage : PySem.W.exmOne K (.ref A.c_NoSlot) (.ref A.c_NoPage) = some false
  e_NoBlock_NoSlot : PySem.W.exmOne K (.ref A.c_NoBlock) (.ref A.c_NoSlot) = some false
  e_BadPower_NoPage : PySem.W.exmOne K (.ref A.c_BadPower) (.ref A.c_NoPage) = some false
  e_BadPower_NoSlot : PySem.W.exmOne K (.ref A.c_BadPower) (.ref A.c_NoSlot) = some false
  e_BadPower_NoBlock : PySem.W.exmOne K (.ref A.c_BadPower) (.ref A.c_NoBlock) = some false
  n_ValueError : mg "ValueError" = none
  n_abs : mg "abs" = none
  n_bool : mg "bool" = none
  n_enumerate : mg "enumerate" = none
  n_int : mg "int" = none
  n_isinstance : mg "isinstance" = none
  n_len : mg "len" = none
  n_list : mg "list" = none
  n_min : mg "min" = none
  n_range : mg "range" = none
  n_tuple : mg "tuple" = none
theorem ok_TooLong_init {P : Program} {w : World} {K : PySem.W.Frag} {mg : Str → Option Value} {base : Heap} {A : Ads} (T : Txt K mg A) : FnOk P w K mg base CX0 1 A.a_TooLong_init A.d_TooLong_init ["self", "length"] (spKeep "length" A.c_TooLong) := by
  refine T.F_TooLong_init.ok sc_TooLong_init (fun vs H Q E h => ?_) (fun cdv B outer s H vs Q E hr h => ?_)
  · obtain ⟨a, v, rfl, _⟩ := h
    rfl
  · obtain ⟨a, v, rfl, e, q⟩ := h
    refine ⟨_, pss_one (ps_ost (pv 0) (pv 1)), ?_⟩
    exact ⟨_, rfl, _, rfl, a, A.c_TooLong, rfl, T.x_TooLong.ox, T.x_TooLong.no, .inl ⟨e, q⟩⟩
theorem ok_NoPage_init {P : Program} {w : World} {K : PySem.W.Frag} {mg : Str → Option Value} {base : Heap} {A : Ads} (T : Txt K mg A) : FnOk P w K mg base CX0 1 A.a_NoPage_init A.d_NoPage_init ["self", "page"] (spKeep "page" A.c_NoPage) := by
  refine T.F_NoPage_init.ok sc_NoPage_init (fun vs H Q E h => ?_) (fun cdv B outer s H vs Q E hr h => ?_)
  · obtain ⟨a, v, rfl, _⟩ := h
    rfl
  · obtain ⟨a, v, rfl, e, q⟩ := h
    refine ⟨_, pss_one (ps_ost (pv 0) (pv 1)), ?_⟩
    exact ⟨_, rfl, _, rfl, a, A.c_NoPage, rfl, T.x_NoPage.ox, T.x_NoPage.no, .inl ⟨e, q⟩⟩
theorem ok_Written_init {P : Program} {w : World} {K : PySem.W.Frag} {mg : Str → Option Value} {base : Heap} {A : Ads} (T : Txt K mg A) : FnOk P w K mg base CX0 1 A.a_Written_init A.d_Written_init ["self", "page"] (spKeep "page" A.c_Written) := by
  refine T.F_Written_init.ok sc_Written_init (fun vs H Q E h => ?_) (fun cdv B outer s H vs Q E hr h => ?_)
  · obtain ⟨a, v, rfl, _⟩ := h
    rfl
  · obtain ⟨a, v, rfl, e, q⟩ := h
    refine ⟨_, pss_one (ps_ost (pv 0) (pv 1)), ?_⟩
    exact ⟨_, rfl, _, rfl, a, A.c_Written, rfl, T.x_Written.ox, T.x_Written.no, .inl ⟨e, q⟩⟩
theorem ok_NoBlock_init {P : Program} {w : World} {K : PySem.W.Frag} {mg : Str → Option Value} {base : Heap} {A : Ads} (T : Txt K mg A) : FnOk P w K mg base CX0 1 A.a_NoBlock_init A.d_NoBlock_init ["self", "block"] (spKeep "block" A.c_NoBlock) := by
  refine T.F_NoBlock_init.ok sc_NoBlock_init (fun vs H Q E h => ?_) (fun cdv B outer s H vs Q E hr h => ?_)
  · obtain ⟨a, v, rfl, _⟩ := h
    rfl
  · obtain ⟨a, v, rfl, e, q⟩ := h
    refine ⟨_, pss_one (ps_ost (pv 0) (pv 1)), ?_⟩
    exact ⟨_, rfl, _, rfl, a, A.c_NoBlock, rfl, T.x_NoBlock.ox, T.x_NoBlock.no, .inl ⟨e, q⟩⟩
theorem ok_NoSlot_init {P : Program} {w : World} {K : PySem.W.Frag} {mg : Str → Option Value} {base : Heap} {A : Ads} (T : Txt K mg A) : FnOk P w K mg base CX0 1 A.a_NoSlot_init A.d_NoSlot_init ["self", "slot"] (spKeep "slot" A.c_NoSlot) := by
  refine T.F_NoSlot_init.ok sc_NoSlot_init (fun vs H Q E h => ?_) (fun cdv B outer s H vs Q E hr h => ?_)
  · obtain ⟨a, v, rfl, _⟩ := h
    rfl
  · obtain ⟨a, v, rfl, e, q⟩ := h
    refine ⟨_, pss_one (ps_ost (pv 0) (pv 1)), ?_⟩
    exact ⟨_, rfl, _, rfl, a, A.c_NoSlot, rfl, T.x_NoSlot.ox, T.x_NoSlot.no, .inl ⟨e, q⟩⟩
theorem ok_BadPower_init {P : Program} {w : World} {K : PySem.W.Frag} {mg : Str → Option Value} {base : Heap} {A : Ads} (T : Txt K mg A) : FnOk P w K mg base CX0 1 A.a_BadPower_init A.d_BadPower_init ["self", "power"] (spKeep "power" A.c_BadPower) := by
  refine T.F_BadPower_init.ok sc_BadPower_init (fun vs H Q E h => ?_) (fun cdv B outer s H vs Q E hr h => ?_)
  · obtain ⟨a, v, rfl, _⟩ := h
    rfl
  · obtain ⟨a, v, rfl, e, q⟩ := h
    refine ⟨_, pss_one (ps_ost (pv 0) (pv 1)), ?_⟩
    exact ⟨_, rfl, _, rfl, a, A.c_BadPower, rfl, T.x_BadPower.ox, T.x_BadPower.no, .inl ⟨e, q⟩⟩
theorem ok_PowerLost_init {P : Program} {w : World} {K : PySem.W.Frag} {mg : Str → Option Value} {base : Heap} {A : Ads} (T : Txt K mg A) : FnOk P w K mg base CX0 1 A.a_PowerLost_init A.d_PowerLost_init ["self", "seen"] (spKeep "seen" A.c_PowerLost) := by
  refine T.F_PowerLost_init.ok sc_PowerLost_init (fun vs H Q E h => ?_) (fun cdv B outer s H vs Q E hr h => ?_)
  · obtain ⟨a, v, rfl, _⟩ := h
    rfl
  · obtain ⟨a, v, rfl, e, q⟩ := h
    refine ⟨_, pss_one (ps_ost (pv 0) (pv 1)), ?_⟩
    exact ⟨_, rfl, _, rfl, a, A.c_PowerLost, rfl, T.x_PowerLost.ox, T.x_PowerLost.no, .inl ⟨e, q⟩⟩

/-! ### the law's source of draws -/
def Src (c : Addr) (H : Hp) (p : Addr) : Prop := ∃ (cs : List Int) (pl dg ct mx : Int), H p = some (.lst [.ref c, .int pl, .int dg, .int ct, .int mx]) ∧ H c = some (.lst (cs.map V.int)) ∧ 0 < cs.length ∧ 0 ≤ pl
theorem src_ne {H : Hp} {c p : Addr} (h : Src c H p) : H p ≠ none := by
  obtain ⟨cs, pl, dg, ct, mx, e, _⟩ := h
  rw [e]
  exact fun z => nomatch z
theorem src_cne {H : Hp} {c p : Addr} (h : Src c H p) : H c ≠ none := by
  obtain ⟨cs, pl, dg, ct, mx, _, e, _⟩ := h
  rw [e]
  exact fun z => nomatch z
theorem src_up {H H' : Hp} {c p : Addr} (h : Src c H p) (e : Same H H') : Src c H' p := by
  obtain ⟨cs, pl, dg, ct, mx, h1, h2, h3⟩ := h
  exact ⟨cs, pl, dg, ct, mx, e _ _ h1, e _ _ h2, h3⟩
/-- what is neither of its two lists may change -/
theorem src_put {H : Hp} {c p D : Addr} {o : HO} (h : Src c H p) (hp : D ≠ p) (hc : D ≠ c) : Src c (upd H D o) p := by
  obtain ⟨cs, pl, dg, ct, mx, h1, h2, h3⟩ := h
  exact ⟨cs, pl, dg, ct, mx, by rw [upd_ne (Ne.symm hp)]; exact h1, by rw [upd_ne (Ne.symm hc)]; exact h2, h3⟩
/-- a list of numbers is not the source -/
theorem src_ints {H : Hp} {c p D : Addr} {l : List Nat} (h : Src c H p) (e : H D = some (.lst (intV l))) : D ≠ p := fun z => by
  obtain ⟨cs, pl, dg, ct, mx, h1, _⟩ := h
  subst z
  rw [e] at h1
  have := HO.lst.inj (Option.some.inj h1)
  cases l with
  | nil => cases this
  | cons a r =>
    have := (List.cons.inj this).1
    cases this
def spDraw : Sp := fun vs H Q _ => ∃ (c p : Addr) (b : Int), vs = [.ref p, .int b] ∧ Src c H p ∧ 0 < b ∧ b < 1000000 ∧ ∀ H' (r : Nat), (r : Int) < b → Src c H' p → But p H H' → Q (.int (r : Int)) H'
def spSource (K : PySem.W.Frag) : Sp := fun vs H Q _ => ∃ (a : Addr) (ns : List Int), vs = [.ref a] ∧ SqL K H a (ns.map V.int) ∧ ns.length ≤ 63 ∧ ∀ H' c p, Same H H' → H c = none → H p = none → Src c H' p → Q (.ref p) H'
theorem get_int {cs : List Int} {i : Int} (h0 : 0 ≤ i) (h1 : i < cs.length) : ∃ z, atI (cs.map V.int) i = some (.int z) := by
  obtain ⟨j, rfl⟩ : ∃ j : Nat, i = (j : Int) := ⟨i.toNat, by omega⟩
  have hj : j < cs.length := by omega
  exact ⟨cs[j], atI_nat (by rw [List.getElem?_map, List.getElem?_eq_getElem hj]; rfl)⟩
/-! plain: a value with what tells its kind -/
mutual
def plD : PyData → PyData
  | .list xs => .tuple [.bool true, .list (plA xs)]
  | .tuple xs => .tuple [.bool false, .list (plA xs)]
  | .bool b => .tuple [.bool true, .bool b]
  | .none => .tuple [.bool false, .none]
  | .int i => .tuple [.bool false, .int i]
  | .str x => .tuple [.bool false, .str x]
  | .dict kvs => .tuple [.bool false, .dict kvs]
def plA : List PyData → List PyData
  | [] => []
  | x :: r => plD x :: plA r
end
theorem plA_map : ∀ xs : List PyData, plA xs = xs.map plD
  | [] => rfl
  | x :: r => by
    show plD x :: plA r = plD x :: r.map plD
    rw [plA_map r]
mutual
theorem plD_depth : ∀ d : PyData, (plD d).depth ≤ 2 * d.depth + 1
  | .list xs => by
    have h := plA_depth xs
    show max 0 (max (PyData.depthAll (plA xs) + 1) 0) + 1 ≤ 2 * (PyData.depthAll xs + 1) + 1
    omega
  | .tuple xs => by
    have h := plA_depth xs
    show max 0 (max (PyData.depthAll (plA xs) + 1) 0) + 1 ≤ 2 * (PyData.depthAll xs + 1) + 1
    omega
  | .bool b => by show 1 ≤ 1; omega
  | .none => by show 1 ≤ 1; omega
  | .int i => by show 1 ≤ 1; omega
  | .str x => by show 1 ≤ 1; omega
  | .dict kvs => by
    show max 0 (max (PyData.depthKv kvs + 1) 0) + 1 ≤ 2 * (PyData.depthKv kvs + 1) + 1
    omega
theorem plA_depth : ∀ ds : List PyData, (PyData.depthAll (plA ds)) ≤ 2 * (PyData.depthAll ds) + 1
  | [] => Nat.zero_le _
  | x :: r => by
    have h1 := plD_depth x
    have h2 := plA_depth r
    show max (plD x).depth (PyData.depthAll (plA r)) ≤ 2 * (max x.depth (PyData.depthAll r)) + 1
    omega
end
mutual
theorem plD_lay : ∀ d : PyData, d.canLay0 = true → (plD d).canLay0 = true
  | .list xs, h => by
    show (true && (PyData.canLayAll0 (plA xs) && true)) = true
    rw [plA_lay xs h]
    rfl
  | .tuple xs, h => by
    show (true && (PyData.canLayAll0 (plA xs) && true)) = true
    rw [plA_lay xs h]
    rfl
  | .bool b, h => rfl
  | .none, h => rfl
  | .int i, h => rfl
  | .str x, h => by
    show (true && ((PyData.str x).canLay0 && true)) = true
    rw [h]
    rfl
  | .dict kvs, h => by cases h
theorem plA_lay : ∀ ds : List PyData, PyData.canLayAll0 ds = true → PyData.canLayAll0 (plA ds) = true
  | [], _ => rfl
  | x :: r, h => by
    have h' := Bool.and_eq_true_iff.mp h
    show ((plD x).canLay0 && PyData.canLayAll0 (plA r)) = true
    rw [plD_lay x h'.1, plA_lay r h'.2]
    rfl
end
theorem plD_shaped {d : PyData} (h : d.canLay0 = true) (hd : d.depth ≤ 20) : SeqAt.shaped (plD d) = true := by
  have h2 := plD_depth d
  unfold SeqAt.shaped
  rw [plD_lay d h, Bool.true_and]
  exact decide_eq_true (by omega)
def spPlain (K : PySem.W.Frag) : Nat → Sp
  | 0 => fun _ _ _ _ => False
  | n + 1 => fun vs H Q _ => ∃ (v : V) (d : PyData) (S : ASet), vs = [v] ∧ (∀ a, S a → H a ≠ none) ∧ Dx K H S v d ∧ d.depth ≤ n ∧ wdB d = true ∧ ∀ H' v', Same H H' → Dx K H' S v' (plD d) → Q v' H'

section
variable {P : Program} {w : World} {K : PySem.W.Frag} {mg : Str → Option Value} {base : Heap} {A : Ads}
theorem ok_law_draw (T : Txt K mg A) : FnOk P w K mg base CX0 1 A.a_law_draw A.d_law_draw ["_law_source_here", "_law_below"] spDraw := by
  refine T.F_law_draw.ok sc_law_draw (fun vs H Q E h => ?_) (fun cdv B outer s H vs Q E hr h => ?_)
  · obtain ⟨c, p, b, rfl, _⟩ := h
    rfl
  · obtain ⟨c, p, b, rfl, ⟨cs, pl, dg, ct, mx, hp, hc, hn, hpl⟩, hb, hb2, q⟩ := h
    refine ⟨_, (pss_cons (ps_set (i := 2) sc_law_draw.nd rfl (.inl rfl) (pe_ix ix_list (pv 0) pe_int (fun _ _ => rfl)))
    (pss_cons (ps_set (i := 3) sc_law_draw.nd rfl (.inl rfl) (pe_ix ix_list (pv 0) pe_int (fun _ _ => rfl)))
    (pss_cons (ps_set (i := 4) sc_law_draw.nd rfl (.inl rfl) (pe_ix ix_list (pv 0) pe_int (fun _ _ => rfl)))
    (pss_cons (ps_set (i := 5) sc_law_draw.nd rfl (.inl rfl) (pe_ix ix_list (pv 0) pe_int (fun _ _ => rfl)))
    (pss_cons (ps_asg (pe_op op_add (pv 5) pe_int) (pg_sub (pv 0) pe_int set_list))
    (pss_cons (ps_if (PW.pt (pw_and (pt_cmpR op_eq (pe_ix ix_list (pv 0) pe_int (fun _ _ => rfl)) pe_int (nomark _)) (pw_and1 (pt_cmpR op_lt (pv 3) (pe_callB len_seq (by rfl) T.n_len (by decide +kernel) (pa_cons (pv 2) pa_nil)) (nomark _))))) (pss_cons (ps_asg (pe_op op_fdivN (pv 4) (pv 1)) (pg_sub (pv 0) pe_int set_list))
    (pss_cons (ps_if (pt_cmpR op_eq (pe_ix ix_list (pv 0) pe_int (fun _ _ => rfl)) pe_int (nomark _)) (pss_cons (ps_asg (pe_op op_add (pv 3) pe_int) (pg_sub (pv 0) pe_int set_list))
    (pss_one (ps_if (pt_cmpR op_lt (pe_op op_add (pv 3) pe_int) (pe_callB len_seq (by rfl) T.n_len (by decide +kernel) (pa_cons (pv 2) pa_nil)) (nomark _)) (pss_one (ps_asg (pe_ix ix_list (pv 2) (pe_op op_add (pv 3) pe_int) (fun _ _ => rfl)) (pg_sub (pv 0) pe_int set_list))) pss_nil))) pss_nil)
    (pss_one (ps_ret (pe_op op_modN (pe_callTy call_int1 (by rfl) T.n_int (by decide +kernel) (pa_cons (pv 4) pa_nil)) (pv 1)))))) pss_nil)
    (pss_cons (ps_set (i := 6) sc_law_draw.nd rfl (.inl rfl) (pe_op op_add (pe_op op_add (pe_ix ix_list (pv 2) (pe_op op_modN (pe_callTy call_int1 (by rfl) T.n_int (by decide +kernel) (pa_cons (pv 5) pa_nil)) (pe_callB len_seq (by rfl) T.n_len (by decide +kernel) (pa_cons (pv 2) pa_nil))) (fun _ _ => rfl)) (pe_op op_mul pe_int (pv 5))) pe_int))
    (pss_cons (ps_set (i := 7) sc_law_draw.nd rfl (.inl rfl) (pe_op op_mod (pe_callTy call_int1 (by rfl) T.n_int (by decide +kernel) (pa_cons (pe_op op_add (pe_op op_mul (pv 6) pe_int) (pe_op op_mul (pe_op op_add (pv 5) pe_int) pe_int)) pa_nil)) pe_int))
    (pss_cons (ps_set (i := 7) sc_law_draw.nd rfl (.inl rfl) (pe_op op_mod (pe_callTy call_int1 (by rfl) T.n_int (by decide +kernel) (pa_cons (pe_op op_add (pe_op op_mul (pv 7) (pe_op op_add (pe_op op_add (pe_op op_mod (pe_callTy call_int1 (by rfl) T.n_int (by decide +kernel) (pa_cons (pv 7) pa_nil)) pe_int) (pv 5)) pe_int)) (pv 6)) pa_nil)) pe_int))
    (pss_one (ps_ret (pe_op op_modN (pe_callTy call_int1 (by rfl) T.n_int (by decide +kernel) (pa_cons (pe_op op_fdiv (pv 7) pe_int) pa_nil)) (pv 1))))))))))))), ?_⟩
    have nc : c ≠ p := ne_of hc hp (by intro z; have := HO.lst.inj z; cases cs with | nil => cases hn | cons a r => cases this)
    have hmod : ∀ i : Int, 0 ≤ i.fmod b ∧ i.fmod b < b := fun i => ⟨Int.fmod_nonneg_of_pos _ hb, Int.fmod_lt_of_pos _ hb⟩
    have cat : ∀ {H1}, But p H H1 → H1 c = some (.lst (cs.map V.int)) := fun h => h c _ nc hc
    have fin : ∀ {H1} {x1 x2 x3 x4 : Int} (i : Int), But p H H1 → 0 ≤ x1 → H1 p = some (.lst [.ref c, .int x1, .int x2, .int x3, .int x4]) → Q (.int (i.fmod b)) H1 := fun i bt h e => by
      have := q _ (i.fmod b).toNat (by have := hmod i; omega) ⟨cs, _, _, _, _, e, cat bt, hn, h⟩ bt
      rw [Int.toNat_of_nonneg (hmod i).1] at this
      exact this
    have hb3 : b ≠ 0 ∧ b.natAbs < 1073741824 := ⟨by omega, by omega⟩
    have hl : 0 < (cs.map V.int).length := by rw [List.length_map]; exact hn
    have tail : ∀ i : Int, 0 ≤ i.fmod ((cs.map V.int).length : Int) ∧ i.fmod ((cs.map V.int).length : Int) < cs.length := fun i => by
      rw [List.length_map]
      exact ⟨Int.fmod_nonneg_of_pos _ (by omega), Int.fmod_lt_of_pos _ (by omega)⟩
    obtain ⟨z, hz⟩ := get_int (cs := cs) (tail ct).1 (tail ct).2
    walk_at "s"
    have b1 : ∀ o, But p H (upd H p o) := fun o => (But.refl p H).upd
    have c1 : ∀ o, SqL K (upd H p o) c (cs.map V.int) := fun o => SqL.of (cat (b1 o))
    refine ite2 (fun e => ?_) (fun e => ?_)
    · refine ⟨_, rfl, .ref c, rfl, c, _, rfl, .inl (c1 _), ?_⟩
      walk_at "s"
      refine ite2 (fun e => ?_) (fun e => ?_)
      · walk_at "s"
        refine ite2 (fun e => ?_) (fun e => ?_)
        · walk_at "s"
          refine ⟨c, _, rfl, .inl (SqL.of (cat (b1 _).upd.upd)), ?_⟩
          walk_at "s"
          refine ite2 (fun e3 => ?_) (fun e3 => ?_)
          · have e4 : pl + 1 < ((cs.map V.int).length : Int) := of_decide_eq_true e3
            obtain ⟨z2, hz2⟩ := get_int (cs := cs) (i := pl + 1) (by omega) (by rw [List.length_map] at e4; exact e4)
            walk_at "s"
            refine ⟨_, _, _, _, rfl, rfl, SqL.of (cat (b1 _).upd.upd), hz2, ?_⟩
            walk_at "s"
            exact fin _ (b1 _).upd.upd.upd (by omega) upd_same
          · walk_at "s"
            exact fin _ (b1 _).upd.upd (by omega) upd_same
        · walk_at "s"
          exact fin _ (b1 _).upd hpl upd_same
      · walk_at "s"
        try (refine ⟨_, _, _, _, rfl, rfl, c1 _, hz, ?_⟩)
        walk_at "s"
        exact fin _ (b1 _) hpl upd_same
    · walk_at "s"
      try (refine ⟨_, _, _, _, rfl, rfl, c1 _, hz, ?_⟩)
      walk_at "s"
      exact fin _ (b1 _) hpl upd_same

theorem ok_law_source (T : Txt K mg A) : FnOk P w K mg base CX0 1 A.a_law_source A.d_law_source ["_law_script"] (spSource K) := by
  refine T.F_law_source.ok sc_law_source (fun vs H Q E h => ?_) (fun cdv A outer s H vs Q E hr h => ?_)
  · obtain ⟨a, ns, rfl, _⟩ := h
    rfl
  · obtain ⟨a, ns, rfl, hS, hl, q⟩ := h
    refine ⟨_, (pss_cons (ps_setLc (i := 2) (own := [("_law_cell", 1)]) rfl sc_law_source.nd rfl rfl (sw_true rfl rfl rfl (by decide +kernel)) (pi_list (pv 0)) (blkOk_by (own := [("_law_cell", 1)]) (N := N_law_source) (sc := defScope s_law_source) (by decide +kernel)) (fun _ _ _ _ _ => pg_name (i := 1) sc_law_source.nd rfl (Or.inl rfl)) (fun _ _ _ _ _ => pts_nil) (fun _ _ _ _ _ => by exact (pe_callB call_abs (by rfl) T.n_abs (by decide +kernel) (pa_cons (pe_callTy call_int1 (by rfl) T.n_int (by decide +kernel) (pa_cons (pv 1) pa_nil)) pa_nil))))
    (pss_cons (ps_if (pt_cmpR op_eq (pe_callB len_seq (by rfl) T.n_len (by decide +kernel) (pa_cons (pv 2) pa_nil)) pe_int (nomark _)) (pss_one (ps_set (i := 2) sc_law_source.nd rfl (.inl rfl) (pe_lst (pa_cons pe_int pa_nil)))) pss_nil)
    (pss_cons (ps_set (i := 3) sc_law_source.nd rfl (.inl rfl) pe_int)
    (pss_cons (ps_if (pt_cmpR op_lt (pe_ix ix_list (pv 2) pe_int (fun _ _ => rfl)) (pe_op op_pow pe_int pe_int) (nomark _)) (pss_one (ps_set (i := 3) sc_law_source.nd rfl (.inl rfl) (pe_op op_mod (pe_callTy call_int1 (by rfl) T.n_int (by decide +kernel) (pa_cons (pe_ix ix_list (pv 2) pe_int (fun _ _ => rfl)) pa_nil)) pe_int))) pss_nil)
    (pss_one (ps_ret (pe_lst (pa_cons (pv 2) (pa_cons pe_int (pa_cons (pe_ix ix_list (pv 2) pe_int (fun _ _ => rfl)) (pa_cons pe_int (pa_cons (pv 3) pa_nil)))))))))))), ?_⟩
    have w := walk_list (K := K) (a := a) (xs := ns.map V.int)
    refine ⟨_, rfl, a, rfl, ⟨_, hS⟩, fun D hD => ?_⟩
    have hx : ∀ {i : Nat} {x : V}, (ns.map V.int)[i]? = some x → x = .int (ns.getD i 0) := fun {i x} e => by
      rw [List.getElem?_map] at e
      cases h : ns[i]? with
      | none => rw [h] at e; cases e
      | some z =>
        rw [h] at e
        rw [List.getD_eq_getElem?_getD, h]
        exact (Option.some.inj e).symm
    refine lc_vals w (fun i x => (ns.map V.int)[i]? = some x) (fun i => .int (if ns.getD i 0 < 0 then -ns.getD i 0 else ns.getD i 0)) hD (fun H' e => e.seq hS) (by rw [List.length_map]; omega) (fun i H x H' _ y => y) (fun i x H' hi sm e Q q => ?_) (fun H1 s1 e1 => ?_)
    · rw [hx e]
      exact ⟨_, rfl, .inl ⟨_, rfl, _, rfl, q _ (Same.refl _)⟩⟩
    have e2 : H1 D = some (.lst (((List.range ns.length).map fun i => if ns.getD i 0 < 0 then -ns.getD i 0 else ns.getD i 0).map V.int)) := by
      rw [e1, List.map_map, List.length_map]
      rfl
    generalize hcs : ((List.range ns.length).map fun i => if ns.getD i 0 < 0 then -ns.getD i 0 else ns.getD i 0) = cs at e2
    clear hcs e1
    refine ⟨_, rfl, D, _, rfl, .inl (SqL.of e2), rfl, _, rfl, ite2 (fun e => ?_) (fun e => ?_)⟩
    · refine ⟨by decide, fun c hc => ?_⟩
      generalize hH : upd H1 c (.lst [V.int 5]) = H2
      have fc : H c = none := s1.free hc
      have ec : H2 c = some (.lst (([5] : List Int).map V.int)) := by rw [← hH]; exact upd_same
      have s2 : Same H1 H2 := by rw [← hH]; exact same_new hc
      have sm : Same H H2 := s1.trans s2
      have hl : 0 < ([5] : List Int).length := by decide
      generalize ([5] : List Int) = cs at ec hl
      clear hH hc
      obtain ⟨z, h0⟩ := get_int (cs := cs) (i := 0) (Int.le_refl 0) (by omega)
      have fin : ∀ (x1 x2 x3 x4 : Int) {H3 : Hp}, 0 ≤ x1 → Same H1 H3 → H3 = H2 → ∀ p, H3 p = none → Q (.ref p) (upd H3 p (.lst [.ref c, .int x1, .int x2, .int x3, .int x4])) := fun x1 x2 x3 x4 H3 h1 s3 e3 p hp => by
        subst e3
        exact q _ c _ (sm.trans (same_new hp)) fc (sm.free hp) ⟨cs, x1, x2, x3, x4, upd_same, by rw [upd_ne (ne_of_none ec hp)]; exact ec, hl, h1⟩
      refine ⟨.ref c, rfl, c, _, _, _, rfl, rfl, SqL.of ec, h0, _, _, rfl, rfl, ⟨by decide, by decide, by decide⟩, _, _, rfl, rfl, _, rfl, ite2 (fun e => ?_) (fun e => ?_)⟩
      · refine ⟨.ref c, rfl, c, _, _, _, rfl, rfl, SqL.of ec, h0, .inl ⟨_, rfl, _, _, rfl, rfl, (by show (0 : Int) < 2; decide), ?_⟩⟩
        refine ⟨.ref c, rfl, .ref c, rfl, c, _, _, _, rfl, rfl, SqL.of ec, h0, _, rfl, lenOk (n := 5) rfl (by decide), fun p hp => ?_⟩
        exact fin _ _ _ _ (Int.le_refl 0) s2 rfl p hp
      · refine ⟨.ref c, rfl, .ref c, rfl, c, _, _, _, rfl, rfl, SqL.of ec, h0, _, rfl, lenOk (n := 5) rfl (by decide), fun p hp => ?_⟩
        exact fin _ _ _ _ (Int.le_refl 0) s2 rfl p hp
    · have hl : 0 < cs.length := by
        cases cs with
        | nil => exact absurd (decide_eq_true rfl) e
        | cons => exact Nat.succ_pos _
      have ec := e2
      have fc : H D = none := hD
      generalize D = c at ec fc
      generalize hH : H1 = H2 at ec
      have s2 : Same H1 H2 := by rw [← hH]; exact Same.refl _
      have sm : Same H H2 := s1.trans s2
      obtain ⟨z, h0⟩ := get_int (cs := cs) (i := 0) (Int.le_refl 0) (by omega)
      have fin : ∀ (x1 x2 x3 x4 : Int) {H3 : Hp}, 0 ≤ x1 → Same H1 H3 → H3 = H2 → ∀ p, H3 p = none → Q (.ref p) (upd H3 p (.lst [.ref c, .int x1, .int x2, .int x3, .int x4])) := fun x1 x2 x3 x4 H3 h1 s3 e3 p hp => by
        subst e3
        exact q _ c _ (sm.trans (same_new hp)) fc (sm.free hp) ⟨cs, x1, x2, x3, x4, upd_same, by rw [upd_ne (ne_of_none ec hp)]; exact ec, hl, h1⟩
      refine ⟨.ref c, rfl, c, _, _, _, rfl, rfl, SqL.of ec, h0, _, _, rfl, rfl, ⟨by decide, by decide, by decide⟩, _, _, rfl, rfl, _, rfl, ite2 (fun e => ?_) (fun e => ?_)⟩
      · refine ⟨.ref c, rfl, c, _, _, _, rfl, rfl, SqL.of ec, h0, .inl ⟨_, rfl, _, _, rfl, rfl, (by show (0 : Int) < 2; decide), ?_⟩⟩
        refine ⟨.ref c, rfl, .ref c, rfl, c, _, _, _, rfl, rfl, SqL.of ec, h0, _, rfl, lenOk (n := 5) rfl (by decide), fun p hp => ?_⟩
        exact fin _ _ _ _ (Int.le_refl 0) s2 rfl p hp
      · refine ⟨.ref c, rfl, .ref c, rfl, c, _, _, _, rfl, rfl, SqL.of ec, h0, _, rfl, lenOk (n := 5) rfl (by decide), fun p hp => ?_⟩
        exact fin _ _ _ _ (Int.le_refl 0) s2 rfl p hp
def spNone : Sp := fun _ _ _ _ => False
theorem ok_plain (T : Txt K mg A) : ∀ n : Nat, FnOk P w K mg base CX0 n A.a_law_plain A.d_law_plain ["_law_thing"] (spPlain K n)
  | 0 => ⟨fun _ _ _ _ h => h.elim, fun _ _ _ _ _ _ _ _ _ _ _ _ _ h => h.elim⟩
  | n + 1 => by
    have G0 : FnOk P w K mg base CX0 n A.a_law_plain A.d_law_plain ["_law_thing"] (spPlain K n) := ok_plain T n
    refine T.F_law_plain.ok sc_law_plain (fun vs H Q E h => ?_) (fun cdv A outer s H vs Q E hr h => ?_)
    · obtain ⟨v, d, S, rfl, _⟩ := h
      rfl
    · obtain ⟨v, d, S, rfl, hS, hd, hn, hw, q⟩ := h
      refine ⟨_, (pss_cons (ps_if (pt_val (pe_callB call_isiT (by rfl) T.n_isinstance (by decide +kernel) (pa_cons (pv 0) (pa_cons (pe_tup (pa_cons (pe_bltn (v := .ty "list") (u := .type "list") (by rfl) T.n_list (by decide +kernel) rfl) (pa_cons (pe_bltn (v := .ty "tuple") (u := .type "tuple") (by rfl) T.n_tuple (by decide +kernel) rfl) pa_nil))) pa_nil)))) (pss_one (ps_ret (pe_tup (pa_cons (pe_callB call_isi (by rfl) T.n_isinstance (by decide +kernel) (pa_cons (pv 0) (pa_cons (pe_bltn (v := .ty "list") (u := .type "list") (by rfl) T.n_list (by decide +kernel) rfl) pa_nil))) (pa_cons (pe_lc (own := [("_law_one", 1)]) rfl sc_law_plain.nd (PI_or (pi_list (pv 0)) (pi_tup (pv 0))) (blkOk_by (own := [("_law_one", 1)]) (N := N_law_plain) (sc := defScope s_law_plain) (by decide +kernel)) (fun _ _ _ _ _ => pg_name (i := 1) sc_law_plain.nd rfl (Or.inl rfl)) (fun _ _ _ _ _ => pts_nil) (fun _ _ _ _ _ => by exact (pe_call G0 (hr.mono (by omega)) rfl T.g_law_plain T.F_law_plain.kp T.b_law_plain .nil pass0 (pa_cons (pv 1) pa_nil)))) pa_nil))))) pss_nil)
    (pss_one (ps_ret (pe_tup (pa_cons (pe_callB call_isi (by rfl) T.n_isinstance (by decide +kernel) (pa_cons (pv 0) (pa_cons (pe_bltn (v := .ty "bool") (u := .type "bool") (by rfl) T.n_bool (by decide +kernel) rfl) pa_nil))) (pa_cons (pv 0) pa_nil)))))), ?_⟩
      have out : ∀ (b : Bool), tn d ≠ "list" → tn d ≠ "tuple" → b = isB (tn d) "bool" → plD d = .tuple [.bool b, d] := fun b h1 h2 h3 => by
        subst h3
        cases hd with
        | non => rfl
        | bl => rfl
        | int => rfl
        | str => rfl
        | lst _ _ => exact absurd rfl h1
        | tup _ _ => exact absurd rfl h2
      refine ⟨_, rfl, lenOk rfl (by decide), fun tp htp => ?_⟩
      have hd1 : Dx K _ S v d := Dx.up (Out.of (same_new (o := .tup (["list", "tuple"].map V.ty)) htp)) hd
      refine ⟨v, tp, _, _, _, _, rfl, upd_same, paired_ty ["list", "tuple"], dp_ty hd1.dp, kit_any (dp_tn hd1.dp) ["list", "tuple"] (by decide), ?_⟩
      have sm0 : Same H (upd H tp (.tup [V.ty "list", V.ty "tuple"])) := same_new htp
      refine ⟨_, rfl, ite2 (fun e => ?_) (fun e => ?_)⟩
      · refine ⟨_, rfl, v, .ty "list", _, _, _, rfl, .ty "list", dp_ty hd1.dp, kit_ty (kitT _ (dp_tn hd1.dp) "list" (by decide)), ?_⟩
        have htt : tn d = "list" ∨ tn d = "tuple" := by
          have hb := dp_tn hd.dp
          rcases List.mem_cons.mp hb with h | hb
          · rw [h] at e; exact absurd e (by decide)
          rcases List.mem_cons.mp hb with h | hb
          · rw [h] at e; exact absurd e (by decide)
          rcases List.mem_cons.mp hb with h | hb
          · rw [h] at e; exact absurd e (by decide)
          rcases List.mem_cons.mp hb with h | hb
          · rw [h] at e; exact absurd e (by decide)
          rcases List.mem_cons.mp hb with h | hb
          · exact .inl h
          · exact .inr (List.mem_singleton.mp hb)
        generalize hH1 : upd H tp (.tup (["list", "tuple"].map V.ty)) = H1 at hd1
        have hH2 : upd H tp (.tup [V.ty "list", V.ty "tuple"]) = H1 := hH1
        rw [hH2] at sm0 ⊢
        have hS1 : ∀ a, S a → H1 a ≠ none := fun a z y => hS a z (sm0.free y)
        cases n with
        | zero =>
          cases hd with
          | lst h t => exact absurd hn (Nat.not_succ_le_zero _)
          | tup h t => exact absurd hn (Nat.not_succ_le_zero _)
          | non => rcases htt with z | z <;> exact absurd z (by show ¬ "NoneType" = _; decide)
          | bl => rcases htt with z | z <;> exact absurd z (by show ¬ "bool" = _; decide)
          | int => rcases htt with z | z <;> exact absurd z (by show ¬ "int" = _; decide)
          | str => rcases htt with z | z <;> exact absurd z (by show ¬ "str" = _; decide)
        | succ n =>
          cases hd1 with
          | non => rcases htt with z | z <;> exact absurd z (by show ¬ "NoneType" = _; decide)
          | bl => rcases htt with z | z <;> exact absurd z (by show ¬ "bool" = _; decide)
          | int => rcases htt with z | z <;> exact absurd z (by show ¬ "int" = _; decide)
          | str => rcases htt with z | z <;> exact absurd z (by show ¬ "str" = _; decide)
          | @lst a xs ds h t =>
            have hw' : wdA ds = true := (Bool.and_eq_true_iff.mp hw).2
            have hl : xs.length ≤ 1000000 := by
              have := of_decide_eq_true (Bool.and_eq_true_iff.mp hw).1
              rw [dxAll_len t]
              omega
            refine .inl ⟨_, rfl, a, rfl, ⟨_, h.sq⟩, fun D hD => ?_⟩
            refine lc_data (S := S) (K := K) (walk_list (K := K) (a := a) (xs := xs)) (fun i x => xs[i]? = some x) (fun i => plD (ds.getD i .none)) hS1 hD (fun H' e => (h.up (Out.of e)).sq) hl (fun i H x H' _ y => y) (fun i x H' hi sm hDn e Q q => ?_) (fun H2 s2 d2 => ?_)
            · obtain ⟨di, h1, h2⟩ := dxAll_get (DxAll.up (Out.of sm) t) e
              have h3 : di.depth ≤ n := by
                have := depth_get h1
                have hn' : PyData.depthAll ds + 1 ≤ n + 1 := hn
                omega
              refine ⟨_, rfl, x, di, inS S D, rfl, fun a z => ?_, ?_, h3, wdA_get hw' h1, fun H' v' s3 d3 => ?_⟩
              · rcases z with z | z
                · exact fun y => hS1 a z (sm.free y)
                · rw [z]; exact hDn
              · exact Dx.up (Out.of sm) (Dx.add hD (Dx.of_get t e h1))
              · refine q _ _ s3 ?_
                rw [List.getD_eq_getElem?_getD, h1]
                exact d3
            refine ⟨lenOk (n := 2) rfl (by decide), fun l hl2 => ?_⟩
            have hSl : ¬ S l := fun z => hS l z (((sm0.trans s2)).free hl2)
            refine q _ _ ((sm0.trans s2).trans (same_new hl2)) ?_
            have e3 : (List.range xs.length).map (fun i => plD (ds.getD i .none)) = plA ds := by
              rw [dxAll_len t, range_getD plD .none ds, plA_map]
            rw [e3] at d2
            exact .tup (XT.of upd_same hSl) (.cons (.bl _) (.cons (Dx.up (Out.of (same_new hl2)) d2) .nil))
          | @tup a xs ds h t =>
            have hw' : wdA ds = true := (Bool.and_eq_true_iff.mp hw).2
            have hl : xs.length ≤ 1000000 := by
              have := of_decide_eq_true (Bool.and_eq_true_iff.mp hw).1
              rw [dxAll_len t]
              omega
            refine .inr ⟨_, rfl, a, rfl, ⟨_, h.sq⟩, fun D hD => ?_⟩
            refine lc_data (S := S) (K := K) (walk_tup (K := K) (a := a) (xs := xs)) (fun i x => xs[i]? = some x) (fun i => plD (ds.getD i .none)) hS1 hD (fun H' e => (h.up (Out.of e)).sq) hl (fun i H x H' _ y => y) (fun i x H' hi sm hDn e Q q => ?_) (fun H2 s2 d2 => ?_)
            · obtain ⟨di, h1, h2⟩ := dxAll_get (DxAll.up (Out.of sm) t) e
              have h3 : di.depth ≤ n := by
                have := depth_get h1
                have hn' : PyData.depthAll ds + 1 ≤ n + 1 := hn
                omega
              refine ⟨_, rfl, x, di, inS S D, rfl, fun a z => ?_, ?_, h3, wdA_get hw' h1, fun H' v' s3 d3 => ?_⟩
              · rcases z with z | z
                · exact fun y => hS1 a z (sm.free y)
                · rw [z]; exact hDn
              · exact Dx.up (Out.of sm) (Dx.add hD (Dx.of_get t e h1))
              · refine q _ _ s3 ?_
                rw [List.getD_eq_getElem?_getD, h1]
                exact d3
            refine ⟨lenOk (n := 2) rfl (by decide), fun l hl2 => ?_⟩
            have hSl : ¬ S l := fun z => hS l z (((sm0.trans s2)).free hl2)
            refine q _ _ ((sm0.trans s2).trans (same_new hl2)) ?_
            have e3 : (List.range xs.length).map (fun i => plD (ds.getD i .none)) = plA ds := by
              rw [dxAll_len t, range_getD plD .none ds, plA_map]
            rw [e3] at d2
            exact .tup (XT.of upd_same hSl) (.cons (.bl _) (.cons (Dx.up (Out.of (same_new hl2)) d2) .nil))
      · refine ⟨_, rfl, v, .ty "bool", _, _, _, rfl, .ty "bool", dp_ty hd1.dp, kit_ty (kitT _ (dp_tn hd1.dp) "bool" (by decide)), _, rfl, lenOk (n := 2) rfl (by decide), fun l hl => ?_⟩
        have n1 : tn d ≠ "list" := fun z => e (by rw [z]; decide)
        have n2 : tn d ≠ "tuple" := fun z => e (by rw [z]; decide)
        have hS2 : ¬ S l := fun z => hS l z (sm0.free hl)
        refine q _ _ (sm0.trans (same_new hl)) ?_
        rw [out _ n1 n2 rfl]
        exact .tup (XT.of upd_same hS2) (.cons (.bl _) (.cons (Dx.up (Out.of (same_new hl)) hd1) .nil))
theorem okH_plain (T : Txt K mg A) : ∀ n : Nat, L2H.FnH P w K mg base CX0 n A.a_law_plain A.d_law_plain ["_law_thing"] (spPlain K n)
  | 0 => ⟨fun _ _ _ _ h => h.elim, fun _ _ _ _ _ _ _ _ _ _ _ _ _ _ _ _ h => h.elim⟩
  | n + 1 => by
    have G0 : L2H.FnH P w K mg base CX0 n A.a_law_plain A.d_law_plain ["_law_thing"] (spPlain K n) := okH_plain T n
    refine Fun.okH T.F_law_plain sc_law_plain (fun vs H Q E h => ?_) (fun cdv A outer s H vs Q E p hot hr h => ?_)
    · obtain ⟨v, d, S, rfl, _⟩ := h
      rfl
    · obtain ⟨v, d, S, rfl, hS, hd, hn, hw, q⟩ := h
      refine ⟨_, (pss_cons (ps_if (pt_val (pe_callB (r := rIsiT K) call_isiT (by rfl) T.n_isinstance (by decide +kernel) (pa_cons (pv 0) (pa_cons (pe_tup (pa_cons (pe_bltn (v := .ty "list") (u := .type "list") (by rfl) T.n_list (by decide +kernel) rfl) (pa_cons (pe_bltn (v := .ty "tuple") (u := .type "tuple") (by rfl) T.n_tuple (by decide +kernel) rfl) pa_nil))) pa_nil)))) (pss_one (ps_ret (pe_tup (pa_cons (pe_callB (r := rIsi K) call_isi (by rfl) T.n_isinstance (by decide +kernel) (pa_cons (pv 0) (pa_cons (pe_bltn (v := .ty "list") (u := .type "list") (by rfl) T.n_list (by decide +kernel) rfl) pa_nil))) (pa_cons (pe_lcH (own := [("_law_one", 1)]) rfl hot List.mem_cons_self sc_law_plain.nd (PIH_or (pi_listH (pv 0)) (pi_tupH (pv 0))) (blkOk_by (own := [("_law_one", 1)]) (N := N_law_plain) (sc := defScope s_law_plain) (by decide +kernel)) (fun _ _ _ _ _ => pg_name (i := 1) sc_law_plain.nd rfl (Or.inl rfl)) (fun _ _ _ _ _ => pts_nil) (fun _ _ _ _ _ => by exact (L2H.pe_callH G0 (hr.mono (by omega)) ⟨p, hot, List.mem_cons_self⟩ rfl T.g_law_plain T.F_law_plain.kp T.b_law_plain (fun _ => pass_at0) (pa_cons (pv 1) pa_nil)))) pa_nil))))) pss_nil)
    (pss_one (ps_ret (pe_tup (pa_cons (pe_callB (r := rIsi K) call_isi (by rfl) T.n_isinstance (by decide +kernel) (pa_cons (pv 0) (pa_cons (pe_bltn (v := .ty "bool") (u := .type "bool") (by rfl) T.n_bool (by decide +kernel) rfl) pa_nil))) (pa_cons (pv 0) pa_nil)))))), ?_⟩
      have out : ∀ (b : Bool), tn d ≠ "list" → tn d ≠ "tuple" → b = isB (tn d) "bool" → plD d = .tuple [.bool b, d] := fun b h1 h2 h3 => by
        subst h3
        cases hd with
        | non => rfl
        | bl => rfl
        | int => rfl
        | str => rfl
        | lst _ _ => exact absurd rfl h1
        | tup _ _ => exact absurd rfl h2
      refine ⟨_, rfl, lenOk rfl (by decide), fun tp htp => ?_⟩
      have hd1 : Dx K _ S v d := Dx.up (Out.of (same_new (o := .tup (["list", "tuple"].map V.ty)) htp)) hd
      refine ⟨v, tp, _, _, _, _, rfl, upd_same, paired_ty ["list", "tuple"], dp_ty hd1.dp, kit_any (dp_tn hd1.dp) ["list", "tuple"] (by decide), ?_⟩
      have sm0 : Same H (upd H tp (.tup [V.ty "list", V.ty "tuple"])) := same_new htp
      refine ⟨_, rfl, ite2 (fun e => ?_) (fun e => ?_)⟩
      · refine ⟨_, rfl, v, .ty "list", _, _, _, rfl, .ty "list", dp_ty hd1.dp, kit_ty (kitT _ (dp_tn hd1.dp) "list" (by decide)), ?_⟩
        have htt : tn d = "list" ∨ tn d = "tuple" := by
          have hb := dp_tn hd.dp
          rcases List.mem_cons.mp hb with h | hb
          · rw [h] at e; exact absurd e (by decide)
          rcases List.mem_cons.mp hb with h | hb
          · rw [h] at e; exact absurd e (by decide)
          rcases List.mem_cons.mp hb with h | hb
          · rw [h] at e; exact absurd e (by decide)
          rcases List.mem_cons.mp hb with h | hb
          · rw [h] at e; exact absurd e (by decide)
          rcases List.mem_cons.mp hb with h | hb
          · exact .inl h
          · exact .inr (List.mem_singleton.mp hb)
        generalize hH1 : upd H tp (.tup (["list", "tuple"].map V.ty)) = H1 at hd1
        have hH2 : upd H tp (.tup [V.ty "list", V.ty "tuple"]) = H1 := hH1
        rw [hH2] at sm0 ⊢
        have hS1 : ∀ a, S a → H1 a ≠ none := fun a z y => hS a z (sm0.free y)
        cases n with
        | zero =>
          cases hd with
          | lst h t => exact absurd hn (Nat.not_succ_le_zero _)
          | tup h t => exact absurd hn (Nat.not_succ_le_zero _)
          | non => rcases htt with z | z <;> exact absurd z (by show ¬ "NoneType" = _; decide)
          | bl => rcases htt with z | z <;> exact absurd z (by show ¬ "bool" = _; decide)
          | int => rcases htt with z | z <;> exact absurd z (by show ¬ "int" = _; decide)
          | str => rcases htt with z | z <;> exact absurd z (by show ¬ "str" = _; decide)
        | succ n =>
          cases hd1 with
          | non => rcases htt with z | z <;> exact absurd z (by show ¬ "NoneType" = _; decide)
          | bl => rcases htt with z | z <;> exact absurd z (by show ¬ "bool" = _; decide)
          | int => rcases htt with z | z <;> exact absurd z (by show ¬ "int" = _; decide)
          | str => rcases htt with z | z <;> exact absurd z (by show ¬ "str" = _; decide)
          | @lst a xs ds h t =>
            have hw' : wdA ds = true := (Bool.and_eq_true_iff.mp hw).2
            have hl : xs.length ≤ 1000000 := by
              have := of_decide_eq_true (Bool.and_eq_true_iff.mp hw).1
              rw [dxAll_len t]
              omega
            refine .inl ⟨_, rfl, a, rfl, ⟨_, h.sq⟩, fun D hD => ?_⟩
            refine lc_data (S := S) (K := K) (walk_list (K := K) (a := a) (xs := xs)) (fun i x => xs[i]? = some x) (fun i => plD (ds.getD i .none)) hS1 hD (fun H' e => (h.up (Out.of e)).sq) hl (fun i H x H' _ y => y) (fun i x H' hi sm hDn e Q q => ?_) (fun H2 s2 d2 => ?_)
            · obtain ⟨di, h1, h2⟩ := dxAll_get (DxAll.up (Out.of sm) t) e
              have h3 : di.depth ≤ n := by
                have := depth_get h1
                have hn' : PyData.depthAll ds + 1 ≤ n + 1 := hn
                omega
              refine ⟨_, rfl, x, di, inS S D, rfl, fun a z => ?_, ?_, h3, wdA_get hw' h1, fun H' v' s3 d3 => ?_⟩
              · rcases z with z | z
                · exact fun y => hS1 a z (sm.free y)
                · rw [z]; exact hDn
              · exact Dx.up (Out.of sm) (Dx.add hD (Dx.of_get t e h1))
              · refine q _ _ s3 ?_
                rw [List.getD_eq_getElem?_getD, h1]
                exact d3
            refine ⟨lenOk (n := 2) rfl (by decide), fun l hl2 => ?_⟩
            have hSl : ¬ S l := fun z => hS l z (((sm0.trans s2)).free hl2)
            refine q _ _ ((sm0.trans s2).trans (same_new hl2)) ?_
            have e3 : (List.range xs.length).map (fun i => plD (ds.getD i .none)) = plA ds := by
              rw [dxAll_len t, range_getD plD .none ds, plA_map]
            rw [e3] at d2
            exact .tup (XT.of upd_same hSl) (.cons (.bl _) (.cons (Dx.up (Out.of (same_new hl2)) d2) .nil))
          | @tup a xs ds h t =>
            have hw' : wdA ds = true := (Bool.and_eq_true_iff.mp hw).2
            have hl : xs.length ≤ 1000000 := by
              have := of_decide_eq_true (Bool.and_eq_true_iff.mp hw).1
              rw [dxAll_len t]
              omega
            refine .inr ⟨_, rfl, a, rfl, ⟨_, h.sq⟩, fun D hD => ?_⟩
            refine lc_data (S := S) (K := K) (walk_tup (K := K) (a := a) (xs := xs)) (fun i x => xs[i]? = some x) (fun i => plD (ds.getD i .none)) hS1 hD (fun H' e => (h.up (Out.of e)).sq) hl (fun i H x H' _ y => y) (fun i x H' hi sm hDn e Q q => ?_) (fun H2 s2 d2 => ?_)
            · obtain ⟨di, h1, h2⟩ := dxAll_get (DxAll.up (Out.of sm) t) e
              have h3 : di.depth ≤ n := by
                have := depth_get h1
                have hn' : PyData.depthAll ds + 1 ≤ n + 1 := hn
                omega
              refine ⟨_, rfl, x, di, inS S D, rfl, fun a z => ?_, ?_, h3, wdA_get hw' h1, fun H' v' s3 d3 => ?_⟩
              · rcases z with z | z
                · exact fun y => hS1 a z (sm.free y)
                · rw [z]; exact hDn
              · exact Dx.up (Out.of sm) (Dx.add hD (Dx.of_get t e h1))
              · refine q _ _ s3 ?_
                rw [List.getD_eq_getElem?_getD, h1]
                exact d3
            refine ⟨lenOk (n := 2) rfl (by decide), fun l hl2 => ?_⟩
            have hSl : ¬ S l := fun z => hS l z (((sm0.trans s2)).free hl2)
            refine q _ _ ((sm0.trans s2).trans (same_new hl2)) ?_
            have e3 : (List.range xs.length).map (fun i => plD (ds.getD i .none)) = plA ds := by
              rw [dxAll_len t, range_getD plD .none ds, plA_map]
            rw [e3] at d2
            exact .tup (XT.of upd_same hSl) (.cons (.bl _) (.cons (Dx.up (Out.of (same_new hl2)) d2) .nil))
      · refine ⟨_, rfl, v, .ty "bool", _, _, _, rfl, .ty "bool", dp_ty hd1.dp, kit_ty (kitT _ (dp_tn hd1.dp) "bool" (by decide)), _, rfl, lenOk (n := 2) rfl (by decide), fun l hl => ?_⟩
        have n1 : tn d ≠ "list" := fun z => e (by rw [z]; decide)
        have n2 : tn d ≠ "tuple" := fun z => e (by rw [z]; decide)
        have hS2 : ¬ S l := fun z => hS l z (sm0.free hl)
        refine q _ _ (sm0.trans (same_new hl)) ?_
        rw [out _ n1 n2 rfl]
        exact .tup (XT.of upd_same hS2) (.cons (.bl _) (.cons (Dx.up (Out.of (same_new hl)) hd1) .nil))
end
end R1

namespace R1
open PySem PySem.Spec PyProof.Rows L2 RK
local macro_rules | `(tactic| walk_at "sq") => `(tactic| first
  | exact SqL.of upd_same | exact upd_same | exact SqL.of (by assumption) | exact SqL.of (by rw [upd_ne (by assumption)]; assumption) | assumption)
local macro_rules | `(tactic| walk_at "sd") => `(tactic| first
  | assumption | omega | (refine Or.inl ⟨?_, ?_⟩ <;> omega) | (show _ ∧ _; constructor <;> omega) | (show _ ≠ _; simp; omega) | (exact Or.inl ⟨by decide, by decide⟩) | (exact Or.inr ⟨by decide, by decide⟩) | (show _ < _; decide) | (show _ ≤ _; decide))
local macro_rules | `(tactic| walk_at "at") => `(tactic| first | rfl | (refine atI_intV ?_ ?_ <;> omega) | assumption)
local macro_rules | `(tactic| walk_at "s1") => `(tactic| first
  | refine ⟨_, rfl, ?_⟩ | refine ⟨_, _, rfl, rfl, ?_⟩ | refine ⟨rfl, ?_⟩
  | refine ⟨_, _, _, _, rfl, rfl, by walk_at "sq", by walk_at "at", ?_⟩
  | refine Or.inl ⟨_, rfl, ?_⟩
  | refine ⟨_, _, rfl, Or.inl (by walk_at "sq"), ?_⟩
  | refine And.intro (by walk_at "sd") ?_)
local macro_rules | `(tactic| walk_at "s") => `(tactic| repeat walk_at "s1")

theorem intV_app (a b : List Nat) : intV (a ++ b) = intV a ++ intV b := List.map_append ..
theorem intV_len (a : List Nat) : (intV a).length = a.length := List.length_map ..
theorem intV_at {ws : List Nat} {i : Nat} (h : i < ws.length) : (intV ws)[i]? = some (.int ((ws.getD i 0 : Nat) : Int)) := by
  unfold intV
  rw [List.getElem?_map, List.getElem?_eq_getElem h, List.getD_eq_getElem?_getD, List.getElem?_eq_getElem h]
  rfl
theorem lt_line {n : Nat} (h : n ≤ 1000000) : n < sizeLine := Nat.lt_of_le_of_lt h (by decide)
theorem le_line {n : Nat} (h : n ≤ 1000000) : n ≤ sizeLine := Nat.le_of_lt (lt_line h)
theorem intV_cut (a : List Nat) (i n : Nat) : ((intV a).drop i).take n = intV ((a.drop i).take n) := by
  unfold intV
  rw [List.map_take, List.map_drop]
theorem decT {p : Prop} [Decidable p] (h : p) : V.bl (decide p) = V.bl true := congrArg V.bl (decide_eq_true h)
theorem decF {p : Prop} [Decidable p] (h : ¬ p) : V.bl (decide p) = V.bl false := congrArg V.bl (decide_eq_false h)
theorem vint {a b : Int} (h : ¬ a = b) : ¬ V.int a = V.int b := fun z => h (V.int.inj z)
/-! ### power -/
/-- what is left: nothing said, or so many units -/
def lV : Option Nat → V
  | none => .non
  | some n => .int (n : Int)
def lasts (p : Option Nat) (n : Nat) : Nat := match p with
  | none => n
  | some k => min k n
def less (p : Option Nat) (n : Nat) : Option Nat := p.map (· - n)
def spWord : Sp := fun vs H Q _ => ∃ (c p : Addr), vs = [.ref p] ∧ Src c H p ∧ ∀ H' (w : Nat), w ≤ 65535 → Src c H' p → But p H H' → Q (.int (w : Int)) H'
def spSpend : Sp := fun vs H Q _ => ∃ (pw : Addr) (p : Option Nat) (n : Nat), vs = [.ref pw, .int (n : Int)] ∧ H pw = some (.lst [lV p]) ∧ ∀ H', (∀ b, b ≠ pw → H' b = H b) → H' pw = some (.lst [lV (less p (lasts p n))]) → Q (.int ((lasts p n : Nat) : Int)) H'
section
variable {P : Program} {w : World} {K : PySem.W.Frag} {mg : Str → Option Value} {base : Heap} {A : Ads}
theorem ok_law_word (T : Txt K mg A) : FnOk P w K mg base CX0 3 A.a_law_word A.d_law_word ["_law_source_here"] spWord := by
  refine T.F_law_word.ok sc_law_word (fun vs H Q E h => ?_) (fun cdv B outer s H vs Q E hr h => ?_)
  · obtain ⟨c, p, rfl, _⟩ := h
    rfl
  · obtain ⟨c, p, rfl, hs, q⟩ := h
    refine ⟨_, (pss_cons (ps_set (i := 1) sc_law_word.nd rfl (.inl rfl) (pe_call (ok_law_draw T) (hr.mono (by omega)) rfl T.g_law_draw T.F_law_draw.kp T.b_law_draw .nil pass0 (pa_cons (pv 0) (pa_cons pe_int pa_nil))))
    (pss_cons (ps_if (pt_cmpR op_lt (pv 1) pe_int (nomark _)) (pss_one (ps_ret (pe_call (ok_law_draw T) (hr.mono (by omega)) rfl T.g_law_draw T.F_law_draw.kp T.b_law_draw .nil pass0 (pa_cons (pv 0) (pa_cons pe_int pa_nil))))) pss_nil)
    (pss_cons (ps_if (pt_cmpR op_eq (pv 1) pe_int (nomark _)) (pss_one (ps_ret (pe_call (ok_law_draw T) (hr.mono (by omega)) rfl T.g_law_draw T.F_law_draw.kp T.b_law_draw .nil pass0 (pa_cons (pv 0) (pa_cons pe_int pa_nil))))) pss_nil)
    (pss_one (ps_ret (pe_op op_sub pe_int (pe_call (ok_law_draw T) (hr.mono (by omega)) rfl T.g_law_draw T.F_law_draw.kp T.b_law_draw .nil pass0 (pa_cons (pv 0) (pa_cons pe_int pa_nil))))))))), ?_⟩
    walk_at "s"
    refine ⟨c, p, 4, rfl, hs, by decide, by decide, fun H1 way lw hs1 b1 => ?_⟩
    walk_at "s"
    refine ite2 (fun e => ?_) (fun e => ?_)
    · walk_at "s"
      exact ⟨c, p, 10, rfl, hs1, by decide, by decide, fun H2 r l2 hs2 b2 => q _ r (by omega) hs2 (b1.trans b2)⟩
    walk_at "s"
    refine ite2 (fun e => ?_) (fun e => ?_)
    · walk_at "s"
      exact ⟨c, p, 65536, rfl, hs1, by decide, by decide, fun H2 r l2 hs2 b2 => q _ r (by omega) hs2 (b1.trans b2)⟩
    walk_at "s"
    refine ⟨c, p, 3, rfl, hs1, by decide, by decide, fun H2 r l2 hs2 b2 => ?_⟩
    have := q _ (65535 - r) (by omega) hs2 (b1.trans b2)
    rw [show ((65535 - r : Nat) : Int) = 65535 - (r : Int) by omega] at this
    exact ⟨_, _, rfl, rfl, this⟩
theorem ok_law_spend (T : Txt K mg A) : FnOk P w K mg base CX0 1 A.a_law_spend A.d_law_spend ["_law_power", "_law_units"] spSpend := by
  refine T.F_law_spend.ok sc_law_spend (fun vs H Q E h => ?_) (fun cdv B outer s H vs Q E hr h => ?_)
  · obtain ⟨pw, p, n, rfl, _⟩ := h
    rfl
  · obtain ⟨pw, p, n, rfl, hp, q⟩ := h
    refine ⟨_, (pss_cons (ps_if (pt_cmpR op_isN (pe_ix ix_list (pv 0) pe_int (fun _ _ => rfl)) pe_non (nomark _)) (pss_one (ps_ret (pv 1))) pss_nil)
    (pss_cons (ps_set (i := 2) sc_law_spend.nd rfl (.inl rfl) (pv 1))
    (pss_cons (ps_if (pt_cmpR op_lt (pe_ix ix_list (pv 0) pe_int (fun _ _ => rfl)) (pv 1) (nomark _)) (pss_one (ps_set (i := 2) sc_law_spend.nd rfl (.inl rfl) (pe_ix ix_list (pv 0) pe_int (fun _ _ => rfl)))) pss_nil)
    (pss_cons (ps_asg (pe_op op_sub (pe_ix ix_list (pv 0) pe_int (fun _ _ => rfl)) (pv 2)) (pg_sub (pv 0) pe_int set_list))
    (pss_one (ps_ret (pv 2))))))), ?_⟩
    cases p with
    | none =>
      refine ⟨_, rfl, pw, _, 0, _, rfl, rfl, SqL.of hp, atI_nat (j := 0) rfl, rfl, _, rfl, ifT (decide_eq_true rfl) ?_⟩
      exact ⟨_, rfl, q H (fun _ _ => rfl) hp⟩
    | some k =>
      refine ⟨_, rfl, pw, _, 0, _, rfl, rfl, SqL.of hp, atI_nat (j := 0) rfl, rfl, _, rfl, ifF (decide_eq_false fun z => nomatch z) ?_⟩
      refine ⟨_, rfl, ?_⟩
      have q := fun (d : Nat) (hd : d = min k n) => q (upd H pw (.lst [.int (((k - d : Nat)) : Int)])) (fun b hb => upd_ne hb) (by rw [upd_same, hd]; rfl)
      refine ⟨_, rfl, pw, _, 0, _, rfl, rfl, SqL.of hp, atI_nat (j := 0) rfl, _, rfl, _, _, rfl, rfl, ?_⟩
      by_cases h : k < n
      · have qk := q k (by omega)
        rw [show lasts (some k) n = k from Nat.min_eq_left (by omega), Nat.sub_self] at qk
        refine ⟨true, decT (by omega), ifT rfl ?_⟩
        refine ⟨_, rfl, pw, _, 0, _, rfl, rfl, SqL.of hp, atI_nat (j := 0) rfl, ?_⟩
        refine ⟨_, rfl, pw, _, 0, _, rfl, rfl, SqL.of hp, atI_nat (j := 0) rfl, _, rfl, _, _, rfl, rfl, ?_⟩
        dsimp (config := { proj := false }) only
        rw [Int.sub_self]
        exact ⟨_, rfl, pw, _, 0, 0, rfl, rfl, hp, rfl, _, rfl, qk⟩
      · have qn := q n (by omega)
        rw [show lasts (some k) n = n from Nat.min_eq_right (by omega)] at qn
        refine ⟨false, decF (by omega), ifF rfl ?_⟩
        refine ⟨_, rfl, pw, _, 0, _, rfl, rfl, SqL.of hp, atI_nat (j := 0) rfl, _, rfl, _, _, rfl, rfl, ?_⟩
        dsimp (config := { proj := false }) only
        rw [show (k : Int) - (n : Int) = ((k - n : Nat) : Int) by omega]
        exact ⟨_, rfl, pw, _, 0, 0, rfl, rfl, hp, rfl, _, rfl, qn⟩
end
/-! ### pages -/
def OrdT (K : PySem.W.Frag) (H : Hp) (xs : List V) (ps : List (List Nat)) : Prop := xs.length = ps.length ∧ ∀ (k : Nat) (ws : List Nat), ps[k]? = some ws → ∃ p : Addr, xs[k]? = some (V.ref p) ∧ SqT K H p (intV ws)
def PgK (K : PySem.W.Frag) (H : Hp) (l : Addr) (ps : List (List Nat)) : Prop := ∃ xs, H l = some (.lst xs) ∧ OrdT K H xs ps
theorem OrdT.up {K : PySem.W.Frag} {H H' : Hp} {xs : List V} {ps : List (List Nat)} (h : OrdT K H xs ps) (s : Same H H') : OrdT K H' xs ps := ⟨h.1, fun k ws hw => let ⟨p, a, b⟩ := h.2 k ws hw; ⟨p, a, sqT_up b s⟩⟩
/-- the list at l set at one place -/
theorem OrdT.put {K : PySem.W.Frag} {H : Hp} {xs ys : List V} {ps : List (List Nat)} {l t : Addr} {j : Nat} {ws : List Nat} {zs : List V} (h : OrdT K H xs ps) (el : H l = some (.lst ys)) (ht : SqT K H t (intV ws)) : OrdT K (upd H l (.lst zs)) (xs.set j (.ref t)) (ps.set j ws) := by
  have stay : ∀ {p : Addr} {vs : List V}, SqT K H p vs → SqT K (upd H l (.lst zs)) p vs := fun {p vs} b => by
    rcases b with b | b
    · have nq : p ≠ l := fun z => by
        subst z
        rcases b with b | ⟨o, b⟩ <;> rw [el] at b <;> cases b
      rcases b with b | ⟨o, b⟩
      · exact .inl (.inl (by rw [upd_ne nq]; exact b))
      · exact .inl (.inr ⟨o, by rw [upd_ne nq]; exact b⟩)
    · exact .inr b
  refine ⟨by rw [List.length_set, List.length_set]; exact h.1, fun k vs hk => ?_⟩
  rw [List.getElem?_set] at hk ⊢
  by_cases hj : j = k
  · subst hj
    rw [if_pos rfl] at hk ⊢
    by_cases hl : j < ps.length
    · rw [if_pos hl] at hk
      cases hk
      rw [if_pos (by rw [h.1]; exact hl)]
      exact ⟨t, rfl, stay ht⟩
    · rw [if_neg hl] at hk
      cases hk
  · rw [if_neg hj] at hk ⊢
    obtain ⟨p, a, b⟩ := h.2 k vs hk
    exact ⟨p, a, stay b⟩
def blank : List Nat := List.replicate 16 65535
/-- what stands but at l and p, stands -/
def Bt2 (l p : Addr) (H H' : Hp) : Prop := ∀ b o, b ≠ l → b ≠ p → H b = some o → H' b = some o
theorem Bt2.refl {l p : Addr} {H : Hp} : Bt2 l p H H := fun _ _ _ _ h => h
theorem Bt2.trans {l p : Addr} {H H1 H2 : Hp} (a : Bt2 l p H H1) (b : Bt2 l p H1 H2) : Bt2 l p H H2 := fun c o h1 h2 h => b c o h1 h2 (a c o h1 h2 h)
theorem Bt2.of {l p : Addr} {H H' : Hp} (s : Same H H') : Bt2 l p H H' := fun b o _ _ h => s b o h
theorem Bt2.putL {l p : Addr} {H : Hp} {o : HO} : Bt2 l p H (upd H l o) := fun b u h _ e => by rw [upd_ne h]; exact e
def eraN (ps : List (List Nat)) (b d : Nat) : List (List Nat) := (List.range d).foldl (fun ps i => ps.set (8 * b + i) blank) ps
def spErase (K : PySem.W.Frag) : Sp := fun vs H Q _ => ∃ (l pw : Addr) (ps : List (List Nat)) (p : Option Nat) (b : Nat), vs = [.ref l, .ref pw, .int (b : Int)] ∧ PgK K H l ps ∧ H pw = some (.lst [lV p]) ∧ l ≠ pw ∧ b < 18 ∧ ps.length = 144 ∧ ∀ H', Bt2 l pw H H' → PgK K H' l (eraN ps b (lasts p 8)) → H' pw = some (.lst [lV (less p (lasts p 8))]) → Q (.bl (decide (lasts p 8 = 8))) H'
section
variable {P : Program} {w : World} {K : PySem.W.Frag} {mg : Str → Option Value} {base : Heap} {A : Ads}
theorem ok_law_erase (T : Txt K mg A) : FnOk P w K mg base CX0 2 A.a_law_erase A.d_law_erase ["_law_pages", "_law_power", "_law_block_here"] (spErase K) := by
  refine T.F_law_erase.ok sc_law_erase (fun vs H Q E h => ?_) (fun cdv B outer s H vs Q E hr h => ?_)
  · obtain ⟨l, pw, ps, p, b, rfl, _⟩ := h
    rfl
  · obtain ⟨l, pw, ps, p, b, rfl, hl, hp, nlp, hb, hpl, q⟩ := h
    refine ⟨_, (pss_cons (ps_set (i := 3) sc_law_erase.nd rfl (.inl rfl) (pe_call (ok_law_spend T) (hr.mono (by omega)) rfl T.g_law_spend T.F_law_spend.kp T.b_law_spend .nil pass0 (pa_cons (pv 1) (pa_cons pe_int pa_nil))))
    (pss_cons (ps_for PassesOwn.never rfl (pi_range2 (by rfl) T.n_range (pa_cons (pe_op op_mul pe_int (pv 2)) (pa_cons (pe_op op_add (pe_op op_mul pe_int (pv 2)) (pv 3)) pa_nil))) (pg_name (i := 4) sc_law_erase.nd rfl (.inl rfl))
      (pss_one (ps_asg (pe_op op_repT (pe_tup (pa_cons pe_int pa_nil)) pe_int) (pg_sub (pv 0) (pv 4) set_list))))
    (pss_one (ps_ret (pe_cmpR op_eq (pv 3) pe_int (nomark _)))))), ?_⟩
    have hpl0 := hp
    refine ⟨_, rfl, pw, p, 8, rfl, hp, fun H1 k1 e1 => ?_⟩
    have hd8 : lasts p 8 ≤ 8 := by
      cases p with
      | none => exact Nat.le_refl _
      | some k => exact Nat.min_le_right _ _
    have pg1 : PgK K H1 l ps := by
      obtain ⟨xs, h1, h2⟩ := hl
      refine ⟨xs, by rw [k1 _ nlp]; exact h1, h2.1, fun k ws hw => ?_⟩
      obtain ⟨q0, a, b'⟩ := h2.2 k ws hw
      refine ⟨q0, a, ?_⟩
      rcases b' with b' | b'
      · refine .inl ?_
        have nq : q0 ≠ pw := fun z => by
          subst z
          rcases b' with b' | ⟨o, b'⟩ <;> rw [hp] at b' <;> cases b'
        rcases b' with b' | ⟨o, b'⟩
        · exact .inl (by rw [k1 _ nq]; exact b')
        · exact .inr ⟨o, by rw [k1 _ nq]; exact b'⟩
      · exact .inr b'
    have bt1 : Bt2 l pw H H1 := fun b o _ h2 h => by rw [k1 _ h2]; exact h
    generalize hdd : lasts p 8 = d at *
    refine ⟨_, rfl, _, _, rfl, rfl, .inl ⟨by decide, by decide⟩, _, rfl, _, _, rfl, rfl, .inl ⟨by decide, by decide⟩, _, rfl, _, _, rfl, rfl, 8 * (b : Int), 8 * (b : Int) + (d : Int), rfl, ⟨by omega, by omega, by omega, by omega⟩, ?_⟩
    rw [show (8 * (b : Int) + (d : Int) - 8 * (b : Int)).toNat = d by omega]
    have eraS : ∀ i, eraN ps b (i + 1) = (eraN ps b i).set (8 * b + i) blank := fun i => by
      unfold eraN
      rw [List.range_succ, List.foldl_append]
      rfl
    have eraL : ∀ i, (eraN ps b i).length = 144 := fun i => by
      induction i with
      | zero => exact hpl
      | succ i ih => rw [eraS, List.length_set]; exact ih
    refine for_it (walk_range (lo := 8 * (b : Int)) (n := d)) (fun i σ Hc => ∃ o4, σ = [some (.ref l), some (.ref pw), some (.int (b : Int)), some (.int (d : Int)), o4] ∧ Bt2 l pw H Hc ∧ Hc pw = some (.lst [lV (less p d)]) ∧ PgK K Hc l (eraN ps b i))
      ⟨_, rfl, bt1, e1, pg1⟩ (fun _ _ _ _ _ => trivial) (fun i x σ Hc Hd hi y e => ?_) (fun σ Hc y => ?_)
    · obtain ⟨rfl, rfl⟩ := e
      obtain ⟨o4, rfl, bt, ep, xs, el, ho⟩ := y
      refine ⟨lenOk (n := 1) rfl (by decide), fun t ht => ?_⟩
      have s1 := same_new (o := .tup [V.int 65535]) ht
      have v1 : upd Hd t (.tup [V.int 65535]) t = some (.tup [V.int 65535]) := upd_same
      generalize upd Hd t (.tup [V.int 65535]) = G1 at s1 v1 ⊢
      refine ⟨t, 16, _, rfl, rfl, SqT.of v1, (fun z => by cases z), by decide, by decide, by decide, fun t2 ht2 => ?_⟩
      have hN : (16 : Int).toNat = 16 := rfl
      rw [hN]
      have s2 := same_new (o := .tup (List.replicate 16 [V.int 65535]).flatten) ht2
      have v2 : upd G1 t2 (.tup (List.replicate 16 [V.int 65535]).flatten) t2 = some (.tup (intV blank)) := upd_same
      generalize upd G1 t2 (.tup (List.replicate 16 [V.int 65535]).flatten) = G2 at s2 v2 ⊢
      have s12 := s1.trans s2
      have el2 := s12 _ _ el
      have nt : t2 ≠ l := fun z => by
        subst z
        rw [s1 _ _ el] at ht2
        cases ht2
      have hxl : xs.length = 144 := by rw [ho.1, eraL]
      have hix : ixN xs.length (8 * (b : Int) + (i : Int)) = some (8 * b + i) := by
        unfold ixN
        rw [if_pos (by omega), if_pos (by omega)]
        exact congrArg some (by omega)
      refine ⟨_, rfl, _, rfl, l, xs, _, _, rfl, rfl, el2, hix, ?_⟩
      refine ⟨_, rfl, bt.trans ((Bt2.of s12).trans Bt2.putL), ?_, _, upd_same, ?_⟩
      · rw [upd_ne nlp.symm]
        exact s12 _ _ ep
      · rw [eraS]
        exact (ho.up s12).put el2 (SqT.of v2)
    · obtain ⟨o4, rfl, bt, ep, pg⟩ := y
      have := q Hc bt pg ep
      refine ⟨_, rfl, rfl, ?_⟩
      have e : decide (V.int (d : Int) = V.int 8) = decide (d = 8) := by
        rw [Bool.eq_iff_iff, decide_eq_true_eq, decide_eq_true_eq]
        exact ⟨fun z => by have := V.int.inj z; omega, fun z => by rw [z]; rfl⟩
      rw [e]
      exact this
end
end R1

namespace R1
open PySem PySem.Spec PyProof.Rows L2 RK
local macro_rules | `(tactic| walk_at "sq") => `(tactic| first
  | exact SqL.of upd_same | exact upd_same | exact SqL.of (by assumption) | exact SqL.of (by rw [upd_ne (by assumption)]; assumption) | assumption)
local macro_rules | `(tactic| walk_at "sd") => `(tactic| first
  | assumption | omega | (refine Or.inl ⟨?_, ?_⟩ <;> omega) | (show _ ∧ _; constructor <;> omega) | (show _ ≠ _; simp; omega) | (exact Or.inl ⟨by decide, by decide⟩) | (exact Or.inr ⟨by decide, by decide⟩) | (show _ < _; decide) | (show _ ≤ _; decide))
local macro_rules | `(tactic| walk_at "at") => `(tactic| first | rfl | (refine atI_intV ?_ ?_ <;> omega) | assumption)
local macro_rules | `(tactic| walk_at "s1") => `(tactic| first
  | refine ⟨_, rfl, ?_⟩ | refine ⟨_, _, rfl, rfl, ?_⟩ | refine ⟨rfl, ?_⟩
  | refine ⟨_, _, _, _, rfl, rfl, by walk_at "sq", by walk_at "at", ?_⟩
  | refine Or.inl ⟨_, rfl, ?_⟩
  | refine ⟨_, _, rfl, Or.inl (by walk_at "sq"), ?_⟩
  | refine And.intro (by walk_at "sd") ?_)
local macro_rules | `(tactic| walk_at "s") => `(tactic| repeat walk_at "s1")

theorem PgK.but {K : PySem.W.Frag} {H H1 : Hp} {l pw : Addr} {ps : List (List Nat)} {zs : List V} (hl : PgK K H l ps) (nlp : l ≠ pw) (hp : H pw = some (.lst zs)) (k1 : ∀ b, b ≠ pw → H1 b = H b) : PgK K H1 l ps := by
  obtain ⟨xs, h1, h2⟩ := hl
  refine ⟨xs, by rw [k1 _ nlp]; exact h1, h2.1, fun k ws hw => ?_⟩
  obtain ⟨q0, a, b'⟩ := h2.2 k ws hw
  refine ⟨q0, a, ?_⟩
  rcases b' with b' | b'
  · refine .inl ?_
    have nq : q0 ≠ pw := fun z => by
      subst z
      rcases b' with b' | ⟨o, b'⟩ <;> rw [hp] at b' <;> cases b'
    rcases b' with b' | ⟨o, b'⟩
    · exact .inl (by rw [k1 _ nq]; exact b')
    · exact .inr ⟨o, by rw [k1 _ nq]; exact b'⟩
  · exact .inr b'
theorem sqT_but1 {K : PySem.W.Frag} {H H1 : Hp} {a pw : Addr} {xs zs : List V} (h : SqT K H a xs) (hp : H pw = some (.lst zs)) (k1 : ∀ b, b ≠ pw → H1 b = H b) : SqT K H1 a xs := by
  rcases h with h | h
  · have nq : a ≠ pw := fun z => by
      subst z
      rcases h with h | ⟨o, h⟩ <;> rw [hp] at h <;> cases h
    rcases h with h | ⟨o, h⟩
    · exact .inl (.inl (by rw [k1 _ nq]; exact h))
    · exact .inl (.inr ⟨o, by rw [k1 _ nq]; exact h⟩)
  · exact .inr h
/-- how many words of a page are written -/
def cntW (ws : List Nat) (n : Nat) : Nat := (List.range n).foldl (fun c i => if ws.getD i 0 = 65535 then c else i + 1) 0
def wrtW (ws : List Nat) (d : Nat) : List Nat := ws.take d ++ List.replicate (16 - d) 65535
def spWrite (K : PySem.W.Frag) : Sp := fun vs H Q _ => ∃ (l pw wt : Addr) (ps : List (List Nat)) (p : Option Nat) (g : Nat) (ws : List Nat), vs = [.ref l, .ref pw, .int (g : Int), .ref wt] ∧ PgK K H l ps ∧ H pw = some (.lst [lV p]) ∧ l ≠ pw ∧ SqT K H wt (intV ws) ∧ ws.length = 16 ∧ g < 144 ∧ ps.length = 144 ∧ ∀ H', Bt2 l pw H H' → PgK K H' l (ps.set g (wrtW ws (lasts p (cntW ws 16)))) → H' pw = some (.lst [lV (less p (lasts p (cntW ws 16)))]) → Q (.bl (decide (lasts p (cntW ws 16) = cntW ws 16))) H'
section
variable {P : Program} {w : World} {K : PySem.W.Frag} {mg : Str → Option Value} {base : Heap} {A : Ads}
theorem ok_law_write (T : Txt K mg A) : FnOk P w K mg base CX0 2 A.a_law_write A.d_law_write ["_law_pages", "_law_power", "_law_page_here", "_law_words_here"] (spWrite K) := by
  refine T.F_law_write.ok sc_law_write (fun vs H Q E h => ?_) (fun cdv B outer s H vs Q E hr h => ?_)
  · obtain ⟨l, pw, wt, ps, p, g, ws, rfl, _⟩ := h
    rfl
  · obtain ⟨l, pw, wt, ps, p, g, ws, rfl, hl, hp, nlp, hwt, hw16, hg, hpl, q⟩ := h
    refine ⟨_, (pss_cons (ps_set (i := 4) sc_law_write.nd rfl (.inl rfl) pe_int)
    (pss_cons (ps_for PassesOwn.never rfl (pi_range1 (by rfl) T.n_range (pa_cons pe_int pa_nil)) (pg_name (i := 5) sc_law_write.nd rfl (.inl rfl))
      (pss_one (ps_if (pt_cmpR op_ne (pe_ix ix_tup (pv 3) (pv 5) (fun _ _ => rfl)) pe_int (nomark _)) (pss_one (ps_set (i := 4) sc_law_write.nd rfl (.inl rfl) (pe_op op_add (pv 5) pe_int))) pss_nil)))
    (pss_cons (ps_set (i := 6) sc_law_write.nd rfl (.inl rfl) (pe_call (ok_law_spend T) (hr.mono (by omega)) rfl T.g_law_spend T.F_law_spend.kp T.b_law_spend .nil pass0 (pa_cons (pv 1) (pa_cons (pv 4) pa_nil))))
    (pss_cons (ps_asg (pe_op op_catA (pe_callTy call_tupleT (by rfl) T.n_tuple (by decide +kernel) (pa_cons (pe_slice sl_tupA (pv 3) po_none (po_some (pv 6))) pa_nil)) (pe_op op_repTA (pe_tup (pa_cons pe_int pa_nil)) (pe_op op_sub pe_int (pv 6)))) (pg_sub (pv 0) (pv 2) set_list))
    (pss_one (ps_ret (pe_cmpR op_eq (pv 6) (pv 4) (nomark _)))))))), ?_⟩
    have hil := intV_len ws
    have cS : ∀ i, cntW ws (i + 1) = if ws.getD i 0 = 65535 then cntW ws i else i + 1 := fun i => by
      unfold cntW
      rw [List.range_succ, List.foldl_append]
      rfl
    have c16 : cntW ws 16 ≤ 16 := by
      have : ∀ n, cntW ws n ≤ n := fun n => by
        induction n with
        | zero => exact Nat.le_refl _
        | succ n ih =>
          rw [cS]
          split <;> omega
      exact this 16
    refine ⟨(16 : Int), rfl, by decide, by decide, ?_⟩
    refine for_it (walk_range (lo := 0) (n := 16)) (fun i σ Hc => ∃ o5, σ = [some (.ref l), some (.ref pw), some (.int (g : Int)), some (.ref wt), some (.int ((cntW ws i : Nat) : Int)), o5, none] ∧ Hc = H) ⟨_, rfl, rfl⟩ (fun _ _ _ _ _ => trivial) (fun i x σ Hc Hd hi y e => ?_) (fun σ Hc y => ?_)
    · obtain ⟨rfl, ex⟩ := e
      have ex : x = .int (i : Int) := by rw [ex]; exact congrArg V.int (by omega)
      subst ex
      obtain ⟨o5, rfl, rfl⟩ := y
      rw [cS]
      have hat : atI (intV ws) (i : Int) = some (.int ((ws.getD i 0 : Nat) : Int)) := atI_nat (intV_at (by omega))
      refine ⟨_, rfl, _, rfl, wt, _, _, _, rfl, rfl, hwt, hat, rfl, ?_⟩
      by_cases hx : ws.getD i 0 = 65535
      · rw [if_pos hx]
        exact ⟨false, congrArg V.bl (by rw [hx]; rfl), ifF rfl ⟨_, rfl, rfl⟩⟩
      · rw [if_neg hx]
        exact ⟨true, congrArg V.bl (by rw [decide_eq_false (vint (by omega))]; rfl), ifT rfl ⟨_, rfl, _, _, rfl, rfl, _, rfl, rfl⟩⟩
    · obtain ⟨o5, rfl, rfl⟩ := y
      generalize hcc : cntW ws 16 = c at *
      refine ⟨_, rfl, _, rfl, pw, p, c, rfl, hp, fun H1 k1 e1 => ?_⟩
      have hd : lasts p c ≤ c := by
        cases p with
        | none => exact Nat.le_refl _
        | some k => exact Nat.min_le_right _ _
      have pg1 := hl.but nlp hp k1
      have hw1 := sqT_but1 hwt hp k1
      have bt1 : Bt2 l pw Hc H1 := fun b o _ h2 h => by rw [k1 _ h2]; exact h
      generalize lasts p c = d at *
      unfold tNoPart
      refine ⟨_, rfl, _, rfl, _, rfl, slA_of hw1 fun t1 G1 s1 ht1 => ⟨t1, _, rfl, ht1, ?_⟩⟩
      have ht1 : SqT K G1 t1 (intV (ws.take d)) := by
        have e : cutV (intV ws) none (some (d : Int)) = intV (ws.take d) := by
          rw [cutV_hi]
          unfold intV
          rw [List.map_take]
        rw [← e]
        exact ht1
      refine ⟨lenOk (n := 1) rfl (by decide), fun t2 ht2 => ?_⟩
      have s2 := same_new (o := .tup [V.int 65535]) ht2
      have v2 : upd G1 t2 (.tup [V.int 65535]) t2 = some (.tup [V.int 65535]) := upd_same
      generalize upd G1 t2 (.tup [V.int 65535]) = G2 at s2 v2 ⊢
      refine ⟨_, rfl, _, _, rfl, rfl, t2, 16 - (d : Int), _, rfl, rfl, SqT.of v2, (fun z => by cases z), by omega, by omega, by decide, fun t3 G3 s3 ht3 => ?_⟩
      have ht3 : SqT K G3 t3 (intV (List.replicate (16 - d) 65535)) := by
        rw [show (16 - (d : Int)).toNat = 16 - d by omega, List.flatten_replicate_singleton] at ht3
        unfold intV
        rw [List.map_replicate]
        exact ht3
      refine catA_of (sqT_up ht1 (s2.trans s3)) ht3 (by rw [intV_len, intV_len, List.length_take, List.length_replicate]; omega) fun t4 G4 s4 ht4 => ?_
      have ht4 : SqT K G4 t4 (intV (wrtW ws d)) := by
        unfold wrtW
        rw [intV_app]
        exact ht4
      have s14 := s1.trans (s2.trans (s3.trans s4))
      obtain ⟨xs, el, ho⟩ := pg1
      have el4 := s14 _ _ el
      have hxl : xs.length = 144 := by rw [ho.1, hpl]
      have hix : ixN xs.length (g : Int) = some g := by
        unfold ixN
        rw [if_pos (by omega), if_pos (by omega)]
        exact congrArg some (by omega)
      refine ⟨_, rfl, _, rfl, l, xs, _, _, rfl, rfl, el4, hix, ?_⟩
      refine ⟨_, rfl, _, rfl, rfl, ?_⟩
      have e : decide (V.int (d : Int) = V.int (c : Int)) = decide (d = c) := by
        rw [Bool.eq_iff_iff, decide_eq_true_eq, decide_eq_true_eq]
        exact ⟨fun z => by have := V.int.inj z; omega, fun z => by rw [z]⟩
      rw [e]
      refine q _ (bt1.trans ((Bt2.of s14).trans Bt2.putL)) ⟨_, upd_same, (ho.up s14).put el4 ht4⟩ ?_
      rw [upd_ne nlp.symm]
      exact s14 _ _ e1
end
end R1

namespace R1
open PySem PySem.Spec PyProof.Rows L2 RK
local macro_rules | `(tactic| walk_at "sq") => `(tactic| first
  | exact SqL.of upd_same | exact upd_same | exact SqL.of (by assumption) | exact SqL.of (by rw [upd_ne (by assumption)]; assumption) | assumption)
local macro_rules | `(tactic| walk_at "sd") => `(tactic| first
  | assumption | omega | (refine Or.inl ⟨?_, ?_⟩ <;> omega) | (show _ ∧ _; constructor <;> omega) | (show _ ≠ _; simp; omega) | (exact Or.inl ⟨by decide, by decide⟩) | (exact Or.inr ⟨by decide, by decide⟩) | (show _ < _; decide) | (show _ ≤ _; decide))
local macro_rules | `(tactic| walk_at "at") => `(tactic| first | rfl | (refine atI_intV ?_ ?_ <;> omega) | assumption)
local macro_rules | `(tactic| walk_at "s1") => `(tactic| first
  | refine ⟨_, rfl, ?_⟩ | refine ⟨_, _, rfl, rfl, ?_⟩ | refine ⟨rfl, ?_⟩
  | refine ⟨_, _, _, _, rfl, rfl, by walk_at "sq", by walk_at "at", ?_⟩
  | refine Or.inl ⟨_, rfl, ?_⟩
  | refine ⟨_, _, rfl, Or.inl (by walk_at "sq"), ?_⟩
  | refine And.intro (by walk_at "sd") ?_)
local macro_rules | `(tactic| walk_at "s") => `(tactic| repeat walk_at "s1")

theorem src_tup {c p b : Addr} {H H' : Hp} {o : List V} (h : Src c H p) (bt : But p H H') (e : H b = some (.tup o)) : H' b = some (.tup o) := bt _ _ (fun z => by
  obtain ⟨_, _, _, _, _, y, _⟩ := h
  rw [← z, e] at y
  cases y) e
/-- what may name a place: nothing, True or a whole number -/
def Spot (x : V) : Prop := x = .non ∨ x = .bl true ∨ ∃ i : Int, x = .int i
def inD (d : PyData) (lo hi : Int) : Bool := match d with
  | .int i => decide (lo ≤ i ∧ i ≤ hi)
  | _ => false
def spBtw (K : PySem.W.Frag) : Sp := fun vs H Q _ => ∃ (v : V) (d : PyData) (lo hi : Int), vs = [v, .int lo, .int hi] ∧ Dp K H v d ∧ Q (.bl (inD d lo hi)) H
def spIsBelow (K : PySem.W.Frag) : Sp := fun vs H Q _ => ∃ (v : V) (d : PyData) (n : Nat), vs = [v, .int (n : Int)] ∧ Dp K H v d ∧ Q (.bl (inD d 0 ((n : Int) - 1))) H
def spSpot : Sp := fun vs H Q _ => ∃ (c p : Addr) (n : Nat), vs = [.ref p, .int (n : Int)] ∧ Src c H p ∧ ∀ H' x, Src c H' p → But p H H' → Spot x → Q x H'
def spWords (K : PySem.W.Frag) : Sp := fun vs H Q _ => ∃ (c p : Addr) (n : Nat), vs = [.ref p, .int (n : Int)] ∧ Src c H p ∧ n ≤ 1000 ∧ ∀ H' t ws, Src c H' p → But p H H' → ws.length = n → (∀ x ∈ ws, x ≤ 65535) → SqT K H' t (intV ws) → Q (.ref t) H'
def spJoined (K : PySem.W.Frag) : Sp := fun vs H Q _ => ∃ (l : Addr) (ps : List (List Nat)) (i n : Nat), vs = [.ref l, .int (i : Int), .int (n : Int)] ∧ PgK K H l ps ∧ i + n ≤ ps.length ∧ ps.length ≤ 144 ∧ (∀ x ∈ ps, x.length ≤ 16) ∧ ∀ H' t, Same H H' → SqT K H' t (intV ((ps.drop i).take n).flatten) → Q (.ref t) H'
section
variable {P : Program} {w : World} {K : PySem.W.Frag} {mg : Str → Option Value} {base : Heap} {A : Ads}
theorem ok_is_between (T : Txt K mg A) : FnOk P w K mg base CX0 1 A.a_is_between A.d_is_between ["thing", "least", "most"] (spBtw K) := by
  refine T.F_is_between.ok sc_is_between (fun vs H Q E h => ?_) (fun cdv B outer s H vs Q E hr h => ?_)
  · obtain ⟨v, d, lo, hi, rfl, _⟩ := h
    rfl
  · obtain ⟨v, d, lo, hi, rfl, hd, q⟩ := h
    refine ⟨_, (pss_one (ps_ret (pe_and (pe_callB call_isi (by rfl) T.n_isinstance (by decide +kernel) (pa_cons (pv 0) (pa_cons (pe_bltn (v := .ty "int") (u := .type "int") (by rfl) T.n_int (by decide +kernel) rfl) pa_nil))) (pe_and (pe_not (pe_callB call_isi (by rfl) T.n_isinstance (by decide +kernel) (pa_cons (pv 0) (pa_cons (pe_bltn (v := .ty "bool") (u := .type "bool") (by rfl) T.n_bool (by decide +kernel) rfl) pa_nil)))) (pe_one (pe_chain op_le op_le (pv 1) (pv 0) (pv 2))))))), ?_⟩
    refine ⟨_, rfl, v, .ty "int", _, _, _, rfl, .ty "int", dp_ty hd, kit_ty (kitT _ (dp_tn hd) "int" (by decide)), _, rfl, ?_⟩
    cases hd with
    | non => exact ifF rfl q
    | str x => exact ifF rfl q
    | lst h t => exact ifF rfl q
    | tup h t => exact ifF rfl q
    | bl b =>
      refine ifT rfl ⟨_, rfl, .bl b, .ty "bool", _, _, _, rfl, .ty "bool", dp_ty (K := K) (.bl b), kit_ty (kitT _ (dp_tn (K := K) (H := H) (.bl b)) "bool" (by decide)), _, rfl, _, rfl, ifF rfl q⟩
    | int i =>
      refine ifT rfl ⟨_, rfl, .int i, .ty "bool", _, _, _, rfl, .ty "bool", dp_ty (K := K) (.int i), kit_ty (kitT _ (dp_tn (K := K) (H := H) (.int i)) "bool" (by decide)), _, rfl, _, rfl, ?_⟩
      refine ifT (by show (!isB "int" "bool") = true; decide) ?_
      refine ⟨_, rfl, _, rfl, _, _, rfl, rfl, _, rfl, ifB (fun e => ⟨_, rfl, _, _, rfl, rfl, ?_⟩) (fun e => ?_)⟩
      · have e2 : inD (.int i) lo hi = decide (i ≤ hi) := by
          show decide (lo ≤ i ∧ i ≤ hi) = _
          rw [decide_eq_decide]
          exact ⟨fun z => z.2, fun z => ⟨of_decide_eq_true e, z⟩⟩
        rw [e2] at q
        exact q
      · have e2 : inD (.int i) lo hi = false := decide_eq_false fun z => of_decide_eq_false e z.1
        rw [e2] at q
        exact q
theorem ok_law_is_below (T : Txt K mg A) : FnOk P w K mg base CX0 2 A.a_law_is_below A.d_law_is_below ["_law_thing", "_law_count"] (spIsBelow K) := by
  refine T.F_law_is_below.ok sc_law_is_below (fun vs H Q E h => ?_) (fun cdv B outer s H vs Q E hr h => ?_)
  · obtain ⟨v, d, n, rfl, _⟩ := h
    rfl
  · obtain ⟨v, d, n, rfl, hd, q⟩ := h
    refine ⟨_, (pss_one (ps_ret (pe_and (pe_callB call_isi (by rfl) T.n_isinstance (by decide +kernel) (pa_cons (pv 0) (pa_cons (pe_bltn (v := .ty "int") (u := .type "int") (by rfl) T.n_int (by decide +kernel) rfl) pa_nil))) (pe_and (pe_not (pe_callB call_isi (by rfl) T.n_isinstance (by decide +kernel) (pa_cons (pv 0) (pa_cons (pe_bltn (v := .ty "bool") (u := .type "bool") (by rfl) T.n_bool (by decide +kernel) rfl) pa_nil)))) (pe_one (pe_chain op_le op_lt pe_int (pv 0) (pv 1))))))), ?_⟩
    refine ⟨_, rfl, v, .ty "int", _, _, _, rfl, .ty "int", dp_ty hd, kit_ty (kitT _ (dp_tn hd) "int" (by decide)), _, rfl, ?_⟩
    cases hd with
    | non => exact ifF rfl q
    | str x => exact ifF rfl q
    | lst h t => exact ifF rfl q
    | tup h t => exact ifF rfl q
    | bl b =>
      refine ifT rfl ⟨_, rfl, .bl b, .ty "bool", _, _, _, rfl, .ty "bool", dp_ty (K := K) (.bl b), kit_ty (kitT _ (dp_tn (K := K) (H := H) (.bl b)) "bool" (by decide)), _, rfl, _, rfl, ifF rfl q⟩
    | int i =>
      refine ifT rfl ⟨_, rfl, .int i, .ty "bool", _, _, _, rfl, .ty "bool", dp_ty (K := K) (.int i), kit_ty (kitT _ (dp_tn (K := K) (H := H) (.int i)) "bool" (by decide)), _, rfl, _, rfl, ?_⟩
      refine ifT (by show (!isB "int" "bool") = true; decide) ?_
      refine ⟨_, rfl, _, _, rfl, rfl, _, rfl, ifB (fun e => ⟨_, rfl, _, _, rfl, rfl, ?_⟩) (fun e => ?_)⟩
      · have e2 : inD (.int i) 0 ((n : Int) - 1) = decide (i < (n : Int)) := by
          show decide (0 ≤ i ∧ i ≤ (n : Int) - 1) = _
          rw [decide_eq_decide]
          have := of_decide_eq_true e
          omega
        rw [e2] at q
        exact q
      · have e2 : inD (.int i) 0 ((n : Int) - 1) = false := decide_eq_false fun z => of_decide_eq_false e z.1
        rw [e2] at q
        exact q
theorem ok_law_block (T : Txt K mg A) : FnOk P w K mg base CX0 5 A.a_law_block A.d_law_block ["_law_source_here", "_law_near_here"] spSpot := by
  refine T.F_law_block.ok sc_law_block (fun vs H Q E h => ?_) (fun cdv B outer s H vs Q E hr h => ?_)
  · obtain ⟨l, pw, n, rfl, _⟩ := h
    rfl
  · obtain ⟨c, p, n, rfl, hs, q⟩ := h
    refine ⟨_, (pss_cons (ps_set (i := 2) sc_law_block.nd rfl (.inl rfl) (pe_call (ok_law_draw T) (hr.mono (by omega)) rfl T.g_law_draw T.F_law_draw.kp T.b_law_draw .nil pass0 (pa_cons (pv 0) (pa_cons pe_int pa_nil))))
    (pss_cons (ps_if (pt_cmpR op_eq (pv 2) pe_int (nomark _)) (pss_one (ps_ret (pe_ix ix_tup (pe_tup (pa_cons (pe_un un_neg pe_int) (pa_cons pe_int (pa_cons pe_bl (pa_cons pe_non (pa_cons pe_int pa_nil)))))) (pe_call (ok_law_draw T) (hr.mono (by omega)) rfl T.g_law_draw T.F_law_draw.kp T.b_law_draw .nil pass0 (pa_cons (pv 0) (pa_cons pe_int pa_nil))) (fun _ _ => rfl)))) pss_nil)
    (pss_cons (ps_if (pt_cmpR op_eq (pv 2) pe_int (nomark _)) (pss_one (ps_ret (pe_call (ok_law_draw T) (hr.mono (by omega)) rfl T.g_law_draw T.F_law_draw.kp T.b_law_draw .nil pass0 (pa_cons (pv 0) (pa_cons pe_int pa_nil))))) pss_nil)
    (pss_one (ps_ret (pe_op op_mod (pe_callTy call_int1 (by rfl) T.n_int (by decide +kernel) (pa_cons (pe_op op_add (pv 1) (pe_call (ok_law_draw T) (hr.mono (by omega)) rfl T.g_law_draw T.F_law_draw.kp T.b_law_draw .nil pass0 (pa_cons (pv 0) (pa_cons pe_int pa_nil)))) pa_nil)) pe_int)))))), ?_⟩
    refine ⟨_, rfl, c, p, 8, rfl, hs, by decide, by decide, fun H1 w1 lw hs1 b1 => ?_⟩
    refine ⟨_, rfl, rfl, _, rfl, ite2 (fun e => ?_) (fun e => ?_)⟩
    · refine ⟨_, rfl, lenOk (n := 5) rfl (by decide), fun tp ntp => ?_⟩
      have s2 := same_new (o := .tup [V.int (-1), V.int 18, V.bl true, V.non, V.int 144]) ntp
      refine ⟨_, rfl, c, p, 5, rfl, src_up hs1 s2, by decide, by decide, fun H2 k lk hs2 b2 => ?_⟩
      obtain ⟨x, hat, hx⟩ : ∃ x : V, atI [V.int (-1), V.int 18, V.bl true, V.non, V.int 144] (k : Int) = some x ∧ Spot x := by
        match k, lk with
        | 0, _ => exact ⟨_, rfl, .inr (.inr ⟨_, rfl⟩)⟩
        | 1, _ => exact ⟨_, rfl, .inr (.inr ⟨_, rfl⟩)⟩
        | 2, _ => exact ⟨_, rfl, .inr (.inl rfl)⟩
        | 3, _ => exact ⟨_, rfl, .inl rfl⟩
        | 4, _ => exact ⟨_, rfl, .inr (.inr ⟨_, rfl⟩)⟩
        | n + 5, h => exact absurd h (by omega)
      have tp2 := src_tup (src_up hs1 s2) b2 (show (upd H1 tp (.tup [V.int (-1), V.int 18, V.bl true, V.non, V.int 144])) tp = some (.tup [V.int (-1), V.int 18, V.bl true, V.non, V.int 144]) from upd_same)
      exact ⟨tp, _, _, _, rfl, rfl, SqT.of tp2, hat, q _ x hs2 ((b1.trans (But.of s2)).trans b2) hx⟩
    refine ⟨_, rfl, rfl, _, rfl, ite2 (fun e => ?_) (fun e => ?_)⟩
    · exact ⟨_, rfl, c, p, 18, rfl, hs1, by decide, by decide, fun H2 k lk hs2 b2 => q _ _ hs2 (b1.trans b2) (.inr (.inr ⟨_, rfl⟩))⟩
    · refine ⟨_, rfl, _, rfl, c, p, 2, rfl, hs1, by decide, by decide, fun H2 k lk hs2 b2 => ?_⟩
      exact ⟨_, _, rfl, rfl, .inl ⟨_, rfl, _, _, rfl, rfl, (show (0 : Int) < 18 by decide), q _ _ hs2 (b1.trans b2) (.inr (.inr ⟨_, rfl⟩))⟩⟩
theorem ok_law_page (T : Txt K mg A) : FnOk P w K mg base CX0 5 A.a_law_page A.d_law_page ["_law_source_here", "_law_near_here"] spSpot := by
  refine T.F_law_page.ok sc_law_page (fun vs H Q E h => ?_) (fun cdv B outer s H vs Q E hr h => ?_)
  · obtain ⟨l, pw, n, rfl, _⟩ := h
    rfl
  · obtain ⟨c, p, n, rfl, hs, q⟩ := h
    refine ⟨_, (pss_cons (ps_set (i := 2) sc_law_page.nd rfl (.inl rfl) (pe_call (ok_law_draw T) (hr.mono (by omega)) rfl T.g_law_draw T.F_law_draw.kp T.b_law_draw .nil pass0 (pa_cons (pv 0) (pa_cons pe_int pa_nil))))
    (pss_cons (ps_if (pt_cmpR op_eq (pv 2) pe_int (nomark _)) (pss_one (ps_ret (pe_ix ix_tup (pe_tup (pa_cons (pe_un un_neg pe_int) (pa_cons pe_int (pa_cons pe_bl (pa_cons pe_non (pa_cons pe_int pa_nil)))))) (pe_call (ok_law_draw T) (hr.mono (by omega)) rfl T.g_law_draw T.F_law_draw.kp T.b_law_draw .nil pass0 (pa_cons (pv 0) (pa_cons pe_int pa_nil))) (fun _ _ => rfl)))) pss_nil)
    (pss_cons (ps_if (pt_cmpR op_eq (pv 2) pe_int (nomark _)) (pss_one (ps_ret (pe_call (ok_law_draw T) (hr.mono (by omega)) rfl T.g_law_draw T.F_law_draw.kp T.b_law_draw .nil pass0 (pa_cons (pv 0) (pa_cons pe_int pa_nil))))) pss_nil)
    (pss_cons (ps_if (pt_cmpR op_eq (pv 2) pe_int (nomark _)) (pss_one (ps_ret (pe_op op_sub pe_int (pe_call (ok_law_draw T) (hr.mono (by omega)) rfl T.g_law_draw T.F_law_draw.kp T.b_law_draw .nil pass0 (pa_cons (pv 0) (pa_cons pe_int pa_nil)))))) pss_nil)
    (pss_one (ps_ret (pe_op op_mod (pe_callTy call_int1 (by rfl) T.n_int (by decide +kernel) (pa_cons (pe_op op_add (pe_op op_mul pe_int (pv 1)) (pe_call (ok_law_draw T) (hr.mono (by omega)) rfl T.g_law_draw T.F_law_draw.kp T.b_law_draw .nil pass0 (pa_cons (pv 0) (pa_cons pe_int pa_nil)))) pa_nil)) pe_int))))))), ?_⟩
    refine ⟨_, rfl, c, p, 8, rfl, hs, by decide, by decide, fun H1 w1 lw hs1 b1 => ?_⟩
    refine ⟨_, rfl, rfl, _, rfl, ite2 (fun e => ?_) (fun e => ?_)⟩
    · refine ⟨_, rfl, lenOk (n := 5) rfl (by decide), fun tp ntp => ?_⟩
      have s2 := same_new (o := .tup [V.int (-1), V.int 144, V.bl true, V.non, V.int 2304]) ntp
      refine ⟨_, rfl, c, p, 5, rfl, src_up hs1 s2, by decide, by decide, fun H2 k lk hs2 b2 => ?_⟩
      obtain ⟨x, hat, hx⟩ : ∃ x : V, atI [V.int (-1), V.int 144, V.bl true, V.non, V.int 2304] (k : Int) = some x ∧ Spot x := by
        match k, lk with
        | 0, _ => exact ⟨_, rfl, .inr (.inr ⟨_, rfl⟩)⟩
        | 1, _ => exact ⟨_, rfl, .inr (.inr ⟨_, rfl⟩)⟩
        | 2, _ => exact ⟨_, rfl, .inr (.inl rfl)⟩
        | 3, _ => exact ⟨_, rfl, .inl rfl⟩
        | 4, _ => exact ⟨_, rfl, .inr (.inr ⟨_, rfl⟩)⟩
        | n + 5, h => exact absurd h (by omega)
      have tp2 := src_tup (src_up hs1 s2) b2 (show (upd H1 tp (.tup [V.int (-1), V.int 144, V.bl true, V.non, V.int 2304])) tp = some (.tup [V.int (-1), V.int 144, V.bl true, V.non, V.int 2304]) from upd_same)
      exact ⟨tp, _, _, _, rfl, rfl, SqT.of tp2, hat, q _ x hs2 ((b1.trans (But.of s2)).trans b2) hx⟩
    refine ⟨_, rfl, rfl, _, rfl, ite2 (fun e => ?_) (fun e => ?_)⟩
    · exact ⟨_, rfl, c, p, 144, rfl, hs1, by decide, by decide, fun H2 k lk hs2 b2 => q _ _ hs2 (b1.trans b2) (.inr (.inr ⟨_, rfl⟩))⟩
    refine ⟨_, rfl, rfl, _, rfl, ite2 (fun e => ?_) (fun e => ?_)⟩
    · exact ⟨_, rfl, c, p, 3, rfl, hs1, by decide, by decide, fun H2 k lk hs2 b2 => ⟨_, _, rfl, rfl, q _ _ hs2 (b1.trans b2) (.inr (.inr ⟨_, rfl⟩))⟩⟩
    · refine ⟨_, rfl, _, _, rfl, rfl, .inl ⟨by decide, by decide⟩, _, rfl, c, p, 10, rfl, hs1, by decide, by decide, fun H2 k lk hs2 b2 => ?_⟩
      exact ⟨_, _, rfl, rfl, .inl ⟨_, rfl, _, _, rfl, rfl, (show (0 : Int) < 144 by decide), q _ _ hs2 (b1.trans b2) (.inr (.inr ⟨_, rfl⟩))⟩⟩
theorem ok_law_words (T : Txt K mg A) : FnOk P w K mg base CX0 5 A.a_law_words A.d_law_words ["_law_source_here", "_law_count"] (spWords K) := by
  refine T.F_law_words.ok sc_law_words (fun vs H Q E h => ?_) (fun cdv B outer s H vs Q E hr h => ?_)
  · obtain ⟨c, p, n, rfl, _⟩ := h
    rfl
  · obtain ⟨c, p, n, rfl, hs, hn, q⟩ := h
    refine ⟨_, (pss_cons (ps_set (i := 2) sc_law_words.nd rfl (.inl rfl) (pe_lst pa_nil))
    (pss_cons (ps_for PassesOwn.never rfl (pi_range1 (by rfl) T.n_range (pa_cons (pv 1) pa_nil)) (pg_name (i := 3) sc_law_words.nd rfl (.inl rfl))
      (pss_one (ps_if (pt_cmpR op_eq (pe_call (ok_law_draw T) (hr.mono (by omega)) rfl T.g_law_draw T.F_law_draw.kp T.b_law_draw .nil pass0 (pa_cons (pv 0) (pa_cons pe_int pa_nil))) pe_int (nomark _)) (pss_one (ps_expr (pe_bm PySem.F.plainAttrs_list PySem.F.slot_list_append PySem.F.type_list_append mt_append (pv 2) (pa_cons pe_int pa_nil)))) (pss_one (ps_expr (pe_bm PySem.F.plainAttrs_list PySem.F.slot_list_append PySem.F.type_list_append mt_append (pv 2) (pa_cons (pe_call (ok_law_word T) (hr.mono (by omega)) rfl T.g_law_word T.F_law_word.kp T.b_law_word .nil pass0 (pa_cons (pv 0) pa_nil)) pa_nil)))))))
    (pss_one (ps_ret (pe_callTy tuple_of (by rfl) T.n_tuple (by decide +kernel) (pa_cons (pv 2) pa_nil)))))), ?_⟩
    refine ⟨lenOk (n := 0) rfl (by decide), fun G hG => ?_⟩
    have s0 := same_new (o := .lst []) hG
    have eg0 : upd H G (.lst []) G = some (.lst []) := upd_same
    have hs0 := src_up hs s0
    have ngp : G ≠ p := fun z => by
      obtain ⟨_, _, _, _, _, y, _⟩ := hs
      rw [← z, hG] at y
      cases y
    have ngc : G ≠ c := fun z => src_cne hs (by rw [← z]; exact hG)
    generalize upd H G (.lst []) = H1 at s0 eg0 hs0 ⊢
    refine ⟨_, rfl, (n : Int), rfl, by omega, by omega, ?_⟩
    refine for_it (walk_range (lo := 0) (n := n)) (fun i σ Hc => ∃ o3 ws, σ = [some (.ref p), some (.int (n : Int)), some (.ref G), o3] ∧ Src c Hc p ∧ But p H Hc ∧ ws.length = i ∧ (∀ x ∈ ws, x ≤ 65535) ∧ Hc G = some (.lst (intV ws))) ⟨_, [], rfl, hs0, But.of s0, rfl, (fun x hx => by cases hx), eg0⟩ (fun _ _ _ _ _ => trivial) (fun i x σ Hc Hd hi y e => ?_) (fun σ Hc y => ?_)
    · obtain ⟨rfl, rfl⟩ := e
      obtain ⟨o3, ws, rfl, hsc, bc, hl, hw, eg⟩ := y
      have app : ∀ (k : Nat) (H2 : Hp), k ≤ 65535 → Src c H2 p → But p Hd H2 → ∃ ws', Src c (upd H2 G (.lst (intV ws ++ [.int (k : Int)]))) p ∧ But p H (upd H2 G (.lst (intV ws ++ [.int (k : Int)]))) ∧ ws'.length = i + 1 ∧ (∀ x ∈ ws', x ≤ 65535) ∧ upd H2 G (.lst (intV ws ++ [.int (k : Int)])) G = some (.lst (intV ws')) := fun k H2 hk h2 b2 => by
        refine ⟨ws ++ [k], ?_, ?_, ?_, ?_, ?_⟩
        · exact src_put h2 ngp ngc
        · exact fun b o nb eb => by
            rw [upd_ne (ne_of_none eb hG)]
            exact b2 _ _ nb (bc _ _ nb eb)
        · rw [List.length_append, hl]; rfl
        · intro x hx
          rcases List.mem_append.1 hx with h | h
          · exact hw _ h
          · rw [List.mem_singleton.1 h]; exact hk
        · rw [upd_same, intV_app]
          rfl
      refine ⟨_, rfl, c, p, 3, rfl, hsc, by decide, by decide, fun H2 k lk hs2 b2 => ?_⟩
      refine ⟨rfl, _, rfl, ite2 (fun e => ?_) (fun e => ?_)⟩
      · obtain ⟨ws', r1, r2, r3, r4, r5⟩ := app 65535 H2 (Nat.le_refl _) hs2 b2
        refine ⟨_, rfl, .inl ⟨rfl, _, SqL.of (b2 _ _ ngp eg)⟩, G, _, _, rfl, rfl, b2 _ _ ngp eg, ?_, ?_⟩
        · rw [intV_len, hl]; exact lt_line (by omega)
        · exact ⟨_, ws', rfl, r1, r2, r3, r4, r5⟩
      · refine ⟨_, rfl, .inl ⟨rfl, _, SqL.of (b2 _ _ ngp eg)⟩, _, rfl, c, p, rfl, hs2, fun H3 w3 l3 hs3 b3 => ?_⟩
        obtain ⟨ws', r1, r2, r3, r4, r5⟩ := app w3 H3 l3 hs3 (b2.trans b3)
        refine ⟨G, _, _, rfl, rfl, (b2.trans b3) _ _ ngp eg, ?_, ?_⟩
        · rw [intV_len, hl]; exact lt_line (by omega)
        · exact ⟨_, ws', rfl, r1, r2, r3, r4, r5⟩
    · obtain ⟨o3, ws, rfl, hsc, bc, hl, hw, eg⟩ := y
      refine ⟨_, rfl, G, _, rfl, .inl ⟨SqL.of eg, fun t ht => ?_⟩⟩
      have s3 := same_new (o := .tup (intV ws)) ht
      exact q _ t ws (src_up hsc s3) (bc.trans (But.of s3)) hl hw (SqT.of upd_same)
theorem ok_law_joined (T : Txt K mg A) : FnOk P w K mg base CX0 2 A.a_law_joined A.d_law_joined ["_law_pages", "_law_first", "_law_count"] (spJoined K) := by
  refine T.F_law_joined.ok sc_law_joined (fun vs H Q E h => ?_) (fun cdv B outer s H vs Q E hr h => ?_)
  · obtain ⟨l, ps, i, n, rfl, _⟩ := h
    rfl
  · obtain ⟨l, ps, i, n, rfl, hl, hin, h144, h16, q⟩ := h
    refine ⟨_, (pss_cons (ps_set (i := 3) sc_law_joined.nd rfl (.inl rfl) (pe_tup pa_nil))
    (pss_cons (ps_for PassesOwn.never rfl (pi_range2 (by rfl) T.n_range (pa_cons (pv 1) (pa_cons (pe_op op_add (pv 1) (pv 2)) pa_nil))) (pg_name (i := 4) sc_law_joined.nd rfl (.inl rfl))
      (pss_one (ps_set (i := 3) sc_law_joined.nd rfl (.inl rfl) (pe_op op_catA (pv 3) (pe_ix ix_list (pv 0) (pv 4) (fun _ _ => rfl))))))
    (pss_one (ps_ret (pv 3))))), ?_⟩
    refine ⟨lenOk (n := 0) rfl (by decide), fun G hG => ?_⟩
    have s0 := same_new (o := .tup []) hG
    have eg0 : SqT K (upd H G (.tup [])) G [] := SqT.of upd_same
    generalize upd H G (.tup []) = H1 at s0 eg0 ⊢
    refine ⟨_, rfl, _, rfl, _, rfl, _, _, rfl, rfl, (i : Int), (i : Int) + (n : Int), rfl, ⟨by omega, by omega, by omega, by omega⟩, ?_⟩
    rw [show ((i : Int) + (n : Int) - (i : Int)).toNat = n by omega]
    have fS : ∀ k, k < n → ((ps.drop i).take (k + 1)).flatten = ((ps.drop i).take k).flatten ++ ps.getD (i + k) [] := fun k hk => by
      rw [List.take_add_one, List.flatten_append, List.getElem?_drop, List.getElem?_eq_getElem (by omega), List.getD_eq_getElem?_getD, List.getElem?_eq_getElem (by omega)]
      simp
    have fL : ∀ k, k ≤ n → ((ps.drop i).take k).flatten.length ≤ 16 * k := fun k hk => by
      induction k with
      | zero => exact Nat.le_refl _
      | succ k ih =>
        rw [fS k (by omega), List.length_append]
        have : (ps.getD (i + k) []).length ≤ 16 := by
          rw [List.getD_eq_getElem?_getD, List.getElem?_eq_getElem (by omega)]
          exact h16 _ (List.getElem_mem _)
        have := ih (by omega)
        omega
    obtain ⟨xs, el, ho⟩ := hl
    refine for_it (walk_range (lo := (i : Int)) (n := n)) (fun k σ Hc => ∃ o4 t, σ = [some (.ref l), some (.int (i : Int)), some (.int (n : Int)), some (.ref t), o4] ∧ Same H Hc ∧ SqT K Hc t (intV ((ps.drop i).take k).flatten)) ⟨_, _, rfl, s0, eg0⟩ (fun _ _ _ _ _ => trivial) (fun k x σ Hc Hd hk y e => ?_) (fun σ Hc y => ?_)
    · obtain ⟨rfl, rfl⟩ := e
      obtain ⟨o4, t, rfl, sc, ht⟩ := y
      have hpk : ps[i + k]? = some (ps.getD (i + k) []) := by
        rw [List.getD_eq_getElem?_getD, List.getElem?_eq_getElem (by omega)]
        rfl
      obtain ⟨r, hr1, hr2⟩ := ho.2 _ _ hpk
      have h16' : (ps.getD (i + k) []).length ≤ 16 := by
        rw [List.getD_eq_getElem?_getD, List.getElem?_eq_getElem (by omega)]
        exact h16 _ (List.getElem_mem _)
      refine ⟨_, rfl, _, rfl, _, rfl, l, xs, ((i + k : Nat) : Int), _, rfl, congrArg V.int (by omega), SqL.of (sc _ _ el), atI_nat hr1, ?_⟩
      refine catA_of ht (sqT_up hr2 sc) (by have := fL k (by omega); rw [intV_len, intV_len]; omega) fun t4 G4 s4 ht4 => ?_
      refine ⟨_, t4, rfl, sc.trans s4, ?_⟩
      rw [fS k hk, intV_app]
      exact ht4
    · obtain ⟨o4, t, rfl, sc, ht⟩ := y
      have e : (ps.drop i).take n = (ps.drop i).take n := rfl
      exact ⟨_, rfl, q Hc t sc ht⟩
end
end R1

namespace R1
open PySem PySem.Spec PyProof.Rows L2 RK
local macro_rules | `(tactic| walk_at "sq") => `(tactic| first
  | exact SqL.of upd_same | exact upd_same | exact SqL.of (by assumption) | exact SqL.of (by rw [upd_ne (by assumption)]; assumption) | assumption)
local macro_rules | `(tactic| walk_at "sd") => `(tactic| first
  | assumption | omega | (refine Or.inl ⟨?_, ?_⟩ <;> omega) | (show _ ∧ _; constructor <;> omega) | (show _ ≠ _; simp; omega) | (exact Or.inl ⟨by decide, by decide⟩) | (exact Or.inr ⟨by decide, by decide⟩) | (show _ < _; decide) | (show _ ≤ _; decide))
local macro_rules | `(tactic| walk_at "at") => `(tactic| first | rfl | (refine atI_intV ?_ ?_ <;> omega) | assumption)
local macro_rules | `(tactic| walk_at "s1") => `(tactic| first
  | refine ⟨_, rfl, ?_⟩ | refine ⟨_, _, rfl, rfl, ?_⟩ | refine ⟨rfl, ?_⟩
  | refine ⟨_, _, _, _, rfl, rfl, by walk_at "sq", by walk_at "at", ?_⟩
  | refine Or.inl ⟨_, rfl, ?_⟩
  | refine ⟨_, _, rfl, Or.inl (by walk_at "sq"), ?_⟩
  | refine And.intro (by walk_at "sd") ?_)
local macro_rules | `(tactic| walk_at "s") => `(tactic| repeat walk_at "s1")

theorem eqvA_ints : ∀ ws us : List Nat, PyData.eqvAll ((ws.map fun (n : Nat) => (n : Int)).map PyData.int) ((us.map fun (n : Nat) => (n : Int)).map PyData.int) = decide (ws = us)
  | [], [] => rfl
  | [], _ :: _ => rfl
  | _ :: _, [] => rfl
  | a :: r, b :: s => by
    show (PyData.eqv (.int (a : Int)) (.int (b : Int)) && PyData.eqvAll ((r.map fun (n : Nat) => (n : Int)).map PyData.int) ((s.map fun (n : Nat) => (n : Int)).map PyData.int)) = _
    rw [eqvA_ints r s]
    apply Bool.eq_iff_iff.mpr
    have : PyData.eqv (.int (a : Int)) (.int (b : Int)) = true ↔ a = b := by
      show ((a : Int) == (b : Int)) = true ↔ _
      rw [beq_iff_eq]
      omega
    rw [Bool.and_eq_true, this, decide_eq_true_eq, decide_eq_true_eq, List.cons.injEq]
theorem eqv_ints (ws us : List Nat) : PyData.eqv (intsD ws) (intsD us) = decide (ws = us) := eqvA_ints ws us
theorem ints_shaped (ws : List Nat) : SeqAt.shaped (intsD ws) = true := by
  unfold SeqAt.shaped
  rw [lay_intsD, Bool.true_and]
  have := dep_intsD ws
  exact decide_eq_true (by omega)
theorem dp_ints {K : PySem.W.Frag} {H : Hp} {t : Addr} {ws : List Nat} (h : SqT K H t (intV ws)) : Dp K H (.ref t) (intsD ws) := by
  rw [intV_ints] at h
  exact .tup h (DxAll.dp (dxAll_ints (S := noS) _))
theorem rg16 {n : Nat} (h : n ≤ 10000) : RgC 0 (n : Int) 16 ((n + 15) / 16) := by
  have e : Builtin.Range.rangeSize 0 (n : Int) 16 = (((n + 15) / 16 : Nat) : Int) := by
    by_cases hz : n = 0
    · subst hz; rfl
    rw [rangeSize_pos (by decide) (by omega)]
    omega
  have fl : ∀ i : Int, -100000 ≤ i → i ≤ 100000 → Builtin.Range.rangeFitsLong i = true := fun i h1 h2 => by
    unfold Builtin.Range.rangeFitsLong
    rw [decide_eq_true (show -(2 ^ 63) ≤ i by omega), decide_eq_true (show i < 2 ^ 63 by omega)]
    rfl
  refine ⟨by decide, by decide, ?_, e⟩
  unfold Builtin.Range.small
  rw [e, fl 0 (by decide) (by decide), fl (n : Int) (by omega) (by omega), fl 16 (by decide) (by decide), fl _ (by omega) (by omega)]
  rw [if_pos (by decide), fl _ (by omega) (by omega), Bool.or_true]
  rfl
theorem cutV_off {xs : List V} {a n : Nat} (h : a ≤ xs.length) : cutV xs (some (a : Int)) (some ((a + n : Nat) : Int)) = (xs.drop a).take n := by
  show (xs.drop (HT.sIx xs.length 0 (some (a : Int)))).take (HT.sIx xs.length xs.length (some ((a + n : Nat) : Int)) - HT.sIx xs.length 0 (some (a : Int))) = _
  rw [HT.sIx_nat, HT.sIx_nat, Nat.min_eq_left h]
  by_cases h2 : a + n ≤ xs.length
  · rw [Nat.min_eq_left h2, Nat.add_sub_cancel_left]
  · rw [Nat.min_eq_right (by omega), List.take_of_length_le (by rw [List.length_drop]; omega), List.take_of_length_le (by rw [List.length_drop]; omega)]
/-- the row at place i: sixteen words, filled up -/
def rowAt (ws : List Nat) (i : Nat) : List Nat := (ws.drop (16 * i)).take 16 ++ List.replicate (16 - ((ws.drop (16 * i)).take 16).length) 65535
def rowsN (g : Nat) (ws : List Nat) (n : Nat) : List (Nat × List Nat) := ((List.range n).filter fun i => decide (rowAt ws i ≠ blank)).map fun i => (g + i, rowAt ws i)
def RowT (K : PySem.W.Frag) (H : Hp) (v : V) (r : Nat × List Nat) : Prop := ∃ a b : Addr, v = .ref a ∧ SqT K H a [.int (r.1 : Int), .ref b] ∧ SqT K H b (intV r.2)
def RowsT (K : PySem.W.Frag) (H : Hp) (xs : List V) (rs : List (Nat × List Nat)) : Prop := xs.length = rs.length ∧ ∀ (k : Nat) (r : Nat × List Nat), rs[k]? = some r → ∃ v, xs[k]? = some v ∧ RowT K H v r
def cntR (ws : List Nat) : Nat := (ws.length + 15) / 16
def spRows (K : PySem.W.Frag) : Sp := fun vs H Q _ => ∃ (wt : Addr) (g : Nat) (ws : List Nat), vs = [.int (g : Int), .ref wt] ∧ SqT K H wt (intV ws) ∧ ws.length ≤ 100 ∧ g ≤ 1000 ∧ ∀ H' l xs, Same H H' → H l = none → H' l = some (.lst xs) → RowsT K H' xs (rowsN g ws (cntR ws)) → Q (.ref l) H'
theorem RowT.up {K : PySem.W.Frag} {H H' : Hp} {v : V} {r : Nat × List Nat} (h : RowT K H v r) (s : Same H H') : RowT K H' v r := by
  obtain ⟨a, b, e, h1, h2⟩ := h
  exact ⟨a, b, e, sqT_up h1 s, sqT_up h2 s⟩
theorem RowsT.up {K : PySem.W.Frag} {H H' : Hp} {xs : List V} {rs : List (Nat × List Nat)} (h : RowsT K H xs rs) (s : Same H H') : RowsT K H' xs rs := ⟨h.1, fun k r hr => let ⟨v, a, b⟩ := h.2 k r hr; ⟨v, a, b.up s⟩⟩
theorem sqT_putL {K : PySem.W.Frag} {H : Hp} {l p : Addr} {ys zs vs : List V} (el : H l = some (.lst ys)) (b : SqT K H p vs) : SqT K (upd H l (.lst zs)) p vs := by
  rcases b with b | b
  · have nq : p ≠ l := fun z => by
      subst z
      rcases b with b | ⟨o, b⟩ <;> rw [el] at b <;> cases b
    rcases b with b | ⟨o, b⟩
    · exact .inl (.inl (by rw [upd_ne nq]; exact b))
    · exact .inl (.inr ⟨o, by rw [upd_ne nq]; exact b⟩)
  · exact .inr b
theorem RowT.put {K : PySem.W.Frag} {H : Hp} {v : V} {r : Nat × List Nat} {l : Addr} {ys zs : List V} (h : RowT K H v r) (el : H l = some (.lst ys)) : RowT K (upd H l (.lst zs)) v r := by
  obtain ⟨a, b, e, h1, h2⟩ := h
  exact ⟨a, b, e, sqT_putL el h1, sqT_putL el h2⟩
theorem RowsT.put {K : PySem.W.Frag} {H : Hp} {xs : List V} {rs : List (Nat × List Nat)} {l : Addr} {ys zs : List V} (h : RowsT K H xs rs) (el : H l = some (.lst ys)) : RowsT K (upd H l (.lst zs)) xs rs := ⟨h.1, fun k r hr => let ⟨v, a, b⟩ := h.2 k r hr; ⟨v, a, b.put el⟩⟩
theorem RowsT.snoc {K : PySem.W.Frag} {H : Hp} {xs : List V} {v : V} {r : Nat × List Nat} {rs : List (Nat × List Nat)} (h : RowsT K H xs rs) (hv : RowT K H v r) : RowsT K H (xs ++ [v]) (rs ++ [r]) := by
  refine ⟨by rw [List.length_append, List.length_append, h.1]; rfl, fun k r' hr => ?_⟩
  rcases Nat.lt_or_ge k rs.length with hk | hk
  · rw [List.getElem?_append_left hk] at hr
    rw [List.getElem?_append_left (by rw [h.1]; exact hk)]
    exact h.2 k r' hr
  · rw [List.getElem?_append_right hk] at hr
    rw [List.getElem?_append_right (by rw [h.1]; exact hk), h.1]
    match hz : k - rs.length, hr with
    | 0, hr => cases hr; exact ⟨v, rfl, hv⟩
    | n + 1, hr => cases hr
theorem rowsN_succ (g : Nat) (ws : List Nat) (i : Nat) : rowsN g ws (i + 1) = rowsN g ws i ++ (if rowAt ws i ≠ blank then [(g + i, rowAt ws i)] else []) := by
  unfold rowsN
  rw [List.range_succ, List.filter_append, List.map_append]
  congr 1
  by_cases h : rowAt ws i = blank
  · rw [if_neg (fun z => z h), List.filter_cons_of_neg (by rw [decide_eq_true_eq]; exact fun z => z h)]
    rfl
  · rw [if_pos h, List.filter_cons_of_pos (by rw [decide_eq_true_eq]; exact h)]
    rfl
section
variable {P : Program} {w : World} {K : PySem.W.Frag} {mg : Str → Option Value} {base : Heap} {A : Ads}
theorem ok_law_rows (T : Txt K mg A) : FnOk P w K mg base CX0 2 A.a_law_rows A.d_law_rows ["_law_page_here", "_law_words_here"] (spRows K) := by
  refine T.F_law_rows.ok sc_law_rows (fun vs H Q E h => ?_) (fun cdv B outer s H vs Q E hr h => ?_)
  · obtain ⟨wt, g, ws, rfl, _⟩ := h
    rfl
  · obtain ⟨wt, g, ws, rfl, hwt, hl, hg, q⟩ := h
    refine ⟨_, (pss_cons (ps_set (i := 2) sc_law_rows.nd rfl (.inl rfl) (pe_lst pa_nil))
    (pss_cons (ps_for PassesOwn.never rfl (pi_range3 (by rfl) T.n_range (pa_cons pe_int (pa_cons (pe_callB len_seq (by rfl) T.n_len (by decide +kernel) (pa_cons (pv 1) pa_nil)) (pa_cons pe_int pa_nil)))) (pg_name (i := 3) sc_law_rows.nd rfl (.inl rfl))
      (pss_cons (ps_set (i := 4) sc_law_rows.nd rfl (.inl rfl) (pe_callTy call_tupleT (by rfl) T.n_tuple (by decide +kernel) (pa_cons (pe_slice sl_tupA (pv 1) (po_some (pv 3)) (po_some (pe_op op_add (pv 3) pe_int))) pa_nil)))
    (pss_cons (ps_set (i := 4) sc_law_rows.nd rfl (.inl rfl) (pe_op op_catA (pv 4) (pe_op op_repTA (pe_tup (pa_cons pe_int pa_nil)) (pe_op op_sub pe_int (pe_callB len_seq (by rfl) T.n_len (by decide +kernel) (pa_cons (pv 4) pa_nil))))))
    (pss_one (ps_if (pt_cmpR (op_neD hr.units) (pv 4) (pe_op op_repT (pe_tup (pa_cons pe_int pa_nil)) pe_int) (nomark _)) (pss_one (ps_expr (pe_bm PySem.F.plainAttrs_list PySem.F.slot_list_append PySem.F.type_list_append mt_append (pv 2) (pa_cons (pe_tup (pa_cons (pe_op op_add (pv 0) (pe_op op_fdiv (pv 3) pe_int)) (pa_cons (pv 4) pa_nil))) pa_nil)))) pss_nil)))))
    (pss_one (ps_ret (pv 2))))), ?_⟩
    refine ⟨lenOk (n := 0) rfl (by decide), fun G hG => ?_⟩
    have s0 := same_new (o := .lst []) hG
    have eg0 : upd H G (.lst []) G = some (.lst []) := upd_same
    generalize upd H G (.lst []) = H1 at s0 eg0 ⊢
    refine ⟨_, rfl, wt, _, rfl, .inr (sqT_up hwt s0), ?_⟩
    rw [intV_len]
    refine ⟨_, _, _, _, rfl, rg16 (by omega), ?_⟩
    have hcn : (ws.length + 15) / 16 = cntR ws := rfl
    rw [hcn]
    refine for_it (walk_rangeC (lo := 0) (c := 16) (n := cntR ws)) (fun i σ Hc => ∃ o3 o4 xs, σ = [some (.int (g : Int)), some (.ref wt), some (.ref G), o3, o4] ∧ Same H Hc ∧ Hc G = some (.lst xs) ∧ xs.length ≤ i ∧ RowsT K Hc xs (rowsN g ws i)) ⟨_, _, [], rfl, s0, eg0, Nat.le_refl _, rfl, fun k r hr => by cases hr⟩ (fun _ _ _ _ _ => trivial) (fun i x σ Hc Hd hi y e => ?_) (fun σ Hc y => ?_)
    · obtain ⟨rfl, ex⟩ := e
      have ex : x = .int ((16 * i : Nat) : Int) := by rw [ex]; exact congrArg V.int (by omega)
      subst ex
      obtain ⟨o3, o4, xs, rfl, sc, eg, hxs, hr⟩ := y
      have hi7 : i < 10 := by unfold cntR at hi; omega
      refine ⟨_, rfl, _, rfl, _, rfl, _, rfl, _, _, rfl, rfl, _, rfl, slA_of (sqT_up hwt sc) fun t1 G1 s1 ht1 => ⟨t1, _, rfl, ht1, ?_⟩⟩
      have ec : cutV (intV ws) (some ((16 * i : Nat) : Int)) (some (((16 * i : Nat) : Int) + 16)) = intV ((ws.drop (16 * i)).take 16) := by
        rw [show ((16 * i : Nat) : Int) + 16 = ((16 * i + 16 : Nat) : Int) by omega, cutV_off (by rw [intV_len]; unfold cntR at hi; omega), intV_cut]
      have ht1 : SqT K G1 t1 (intV ((ws.drop (16 * i)).take 16)) := by
        rw [← ec]
        exact ht1
      have hrow : rowAt ws i = (ws.drop (16 * i)).take 16 ++ List.replicate (16 - ((ws.drop (16 * i)).take 16).length) 65535 := rfl
      have hr16 : ((ws.drop (16 * i)).take 16).length ≤ 16 := by rw [List.length_take]; omega
      generalize (ws.drop (16 * i)).take 16 = rw0 at *
      refine ⟨_, rfl, lenOk (n := 1) rfl (by decide), fun t2 ht2 => ?_⟩
      have s2 := same_new (o := .tup [V.int 65535]) ht2
      have v2 : upd G1 t2 (.tup [V.int 65535]) t2 = some (.tup [V.int 65535]) := upd_same
      generalize upd G1 t2 (.tup [V.int 65535]) = G2 at s2 v2 ⊢
      refine ⟨_, rfl, t1, _, rfl, .inr (sqT_up ht1 s2), _, _, rfl, rfl, ?_⟩
      rw [intV_len]
      refine ⟨t2, 16 - (rw0.length : Int), _, rfl, rfl, SqT.of v2, (fun z => by cases z), by omega, by omega, by decide, fun t3 G3 s3 ht3 => ?_⟩
      have ht3 : SqT K G3 t3 (intV (List.replicate (16 - rw0.length) 65535)) := by
        rw [show (16 - (rw0.length : Int)).toNat = 16 - rw0.length by omega, List.flatten_replicate_singleton] at ht3
        unfold intV
        rw [List.map_replicate]
        exact ht3
      refine catA_of (sqT_up ht1 (s2.trans s3)) ht3 (by rw [intV_len, intV_len, List.length_replicate]; omega) fun t4 G4 s4 ht4 => ?_
      have ht4 : SqT K G4 t4 (intV (rowAt ws i)) := by
        rw [hrow, intV_app]
        exact ht4
      have s14 := s1.trans (s2.trans (s3.trans s4))
      refine ⟨_, rfl, lenOk (n := 1) rfl (by decide), fun t5 ht5 => ?_⟩
      have s5 := same_new (o := .tup [V.int 65535]) ht5
      have v5 : upd G4 t5 (.tup [V.int 65535]) t5 = some (.tup [V.int 65535]) := upd_same
      generalize upd G4 t5 (.tup [V.int 65535]) = G5 at s5 v5 ⊢
      refine ⟨t5, 16, _, rfl, rfl, SqT.of v5, (fun z => by cases z), by decide, by decide, by decide, fun t6 ht6 => ?_⟩
      have s6 := same_new (o := .tup (List.replicate (16 : Int).toNat [V.int 65535]).flatten) ht6
      have v6 : upd G5 t6 (.tup (List.replicate (16 : Int).toNat [V.int 65535]).flatten) t6 = some (.tup (intV blank)) := upd_same
      generalize upd G5 t6 (.tup (List.replicate (16 : Int).toNat [V.int 65535]).flatten) = G6 at s6 v6 ⊢
      have s46 := s5.trans s6
      have s16 := s14.trans s46
      refine ⟨_, _, dp_ints (sqT_up ht4 s46), dp_ints (SqT.of v6), ints_shaped _, ints_shaped _, ?_⟩
      rw [eqv_ints]
      have eg6 := s16 _ _ eg
      rw [rowsN_succ]
      by_cases hb : rowAt ws i = blank
      · refine ⟨_, rfl, ifF (c := !decide (rowAt ws i = blank)) (by rw [decide_eq_true hb]; rfl) ?_⟩
        rw [if_neg (fun z => z hb), List.append_nil]
        exact ⟨_, _, xs, rfl, sc.trans s16, eg6, by omega, hr.up s16⟩
      · refine ⟨_, rfl, ifT (c := !decide (rowAt ws i = blank)) (by rw [decide_eq_false hb]; rfl) ?_⟩
        rw [if_pos hb]
        refine ⟨_, rfl, .inl ⟨rfl, _, SqL.of eg6⟩, _, rfl, _, rfl, _, _, rfl, rfl, (by unfold CDiv; decide), _, _, rfl, rfl, _, rfl, lenOk (n := 2) rfl (by decide), fun t7 ht7 => ?_⟩
        generalize hH : upd G6 t7 _ = G7
        have s7 : Same G6 G7 := by rw [← hH]; exact same_new ht7
        have v7 : G7 t7 = some (.tup [V.int (((g + i : Nat)) : Int), V.ref t4]) := by
          rw [← hH, upd_same]
          exact congrArg (fun z => some (HO.tup [V.int z, V.ref t4])) (show (g : Int) + ((16 * i : Nat) : Int) / 16 = ((g + i : Nat) : Int) by omega)
        have eg7 := s7 _ _ eg6
        have rt : RowT K G7 (.ref t7) (g + i, rowAt ws i) := ⟨t7, t4, rfl, SqT.of v7, sqT_up ht4 (s46.trans s7)⟩
        refine ⟨G, _, _, rfl, rfl, eg7, lt_line (by omega), ?_⟩
        exact ⟨_, _, _, rfl, fun b o eb => by
          rw [upd_ne (ne_of_none eb hG)]
          exact (sc.trans (s16.trans s7)) _ _ eb, upd_same, by rw [List.length_append]; show xs.length + 1 ≤ i + 1; omega, ((hr.up (s16.trans s7)).snoc rt).put eg7⟩
    · obtain ⟨o3, o4, xs, rfl, sc, eg, hxs, hr⟩ := y
      exact ⟨_, rfl, q Hc G xs sc hG eg hr⟩
end
end R1

namespace R1
open PySem PySem.Spec PyProof.Rows L2 RK
local macro_rules | `(tactic| walk_at "sq") => `(tactic| first
  | exact SqL.of upd_same | exact upd_same | exact SqL.of (by assumption) | exact SqL.of (by rw [upd_ne (by assumption)]; assumption) | assumption)
local macro_rules | `(tactic| walk_at "sd") => `(tactic| first
  | assumption | omega | (refine Or.inl ⟨?_, ?_⟩ <;> omega) | (show _ ∧ _; constructor <;> omega) | (show _ ≠ _; simp; omega) | (exact Or.inl ⟨by decide, by decide⟩) | (exact Or.inr ⟨by decide, by decide⟩) | (show _ < _; decide) | (show _ ≤ _; decide))
local macro_rules | `(tactic| walk_at "at") => `(tactic| first | rfl | (refine atI_intV ?_ ?_ <;> omega) | assumption)
local macro_rules | `(tactic| walk_at "s1") => `(tactic| first
  | refine ⟨_, rfl, ?_⟩ | refine ⟨_, _, rfl, rfl, ?_⟩ | refine ⟨rfl, ?_⟩
  | refine ⟨_, _, _, _, rfl, rfl, by walk_at "sq", by walk_at "at", ?_⟩
  | refine Or.inl ⟨_, rfl, ?_⟩
  | refine ⟨_, _, rfl, Or.inl (by walk_at "sq"), ?_⟩
  | refine And.intro (by walk_at "sd") ?_)
local macro_rules | `(tactic| walk_at "s") => `(tactic| repeat walk_at "s1")

def fillN : List (Nat × List Nat) → List (List Nat) → Option Nat → List (List Nat) × Option Nat × Bool
  | [], ps, p => (ps, p, true)
  | r :: t, ps, p => if lasts p (cntW r.2 16) = cntW r.2 16 then fillN t (ps.set r.1 (wrtW r.2 (lasts p (cntW r.2 16)))) (less p (lasts p (cntW r.2 16))) else (ps.set r.1 (wrtW r.2 (lasts p (cntW r.2 16))), less p (lasts p (cntW r.2 16)), false)
theorem fillN_nil (ps : List (List Nat)) (p : Option Nat) : fillN [] ps p = (ps, p, true) := rfl
theorem fillN_cons (r : Nat × List Nat) (t : List (Nat × List Nat)) (ps : List (List Nat)) (p : Option Nat) : fillN (r :: t) ps p = if lasts p (cntW r.2 16) = cntW r.2 16 then fillN t (ps.set r.1 (wrtW r.2 (lasts p (cntW r.2 16)))) (less p (lasts p (cntW r.2 16))) else (ps.set r.1 (wrtW r.2 (lasts p (cntW r.2 16))), less p (lasts p (cntW r.2 16)), false) := rfl
theorem sqT_bt2 {K : PySem.W.Frag} {H H' : Hp} {l pw a : Addr} {ys zs xs : List V} (h : SqT K H a xs) (el : H l = some (.lst ys)) (ep : H pw = some (.lst zs)) (bt : Bt2 l pw H H') : SqT K H' a xs := by
  rcases h with h | h
  · have n1 : a ≠ l := fun z => by
      subst z
      rcases h with h | ⟨o, h⟩ <;> rw [el] at h <;> cases h
    have n2 : a ≠ pw := fun z => by
      subst z
      rcases h with h | ⟨o, h⟩ <;> rw [ep] at h <;> cases h
    rcases h with h | ⟨o, h⟩
    · exact .inl (.inl (bt _ _ n1 n2 h))
    · exact .inl (.inr ⟨o, bt _ _ n1 n2 h⟩)
  · exact .inr h
theorem RowsT.bt2 {K : PySem.W.Frag} {H H' : Hp} {l pw : Addr} {ys zs xs : List V} {rs : List (Nat × List Nat)} (h : RowsT K H xs rs) (el : H l = some (.lst ys)) (ep : H pw = some (.lst zs)) (bt : Bt2 l pw H H') : RowsT K H' xs rs := ⟨h.1, fun k r hr => let ⟨v, e, a, b, e2, h1, h2⟩ := h.2 k r hr; ⟨v, e, a, b, e2, sqT_bt2 h1 el ep bt, sqT_bt2 h2 el ep bt⟩⟩
theorem rowsN_of {g : Nat} {ws : List Nat} {n : Nat} {r : Nat × List Nat} (h : r ∈ rowsN g ws n) : r.1 < g + n ∧ r.2.length = 16 := by
  unfold rowsN at h
  obtain ⟨i, hi, rfl⟩ := List.mem_map.1 h
  have hi := (List.mem_filter.1 hi).1
  rw [List.mem_range] at hi
  refine ⟨by show g + i < g + n; omega, ?_⟩
  show (rowAt ws i).length = 16
  unfold rowAt
  rw [List.length_append, List.length_replicate, List.length_take]
  omega
def spFill (K : PySem.W.Frag) : Sp := fun vs H Q _ => ∃ (l pw wt : Addr) (ps : List (List Nat)) (p : Option Nat) (g : Nat) (ws : List Nat), vs = [.ref l, .ref pw, .int (g : Int), .ref wt] ∧ PgK K H l ps ∧ H pw = some (.lst [lV p]) ∧ l ≠ pw ∧ SqT K H wt (intV ws) ∧ ws.length ≤ 100 ∧ g + cntR ws ≤ 144 ∧ ps.length = 144 ∧ ∀ H', Bt2 l pw H H' → PgK K H' l (fillN (rowsN g ws (cntR ws)) ps p).1 → H' pw = some (.lst [lV (fillN (rowsN g ws (cntR ws)) ps p).2.1]) → Q (.bl (fillN (rowsN g ws (cntR ws)) ps p).2.2) H'
section
variable {P : Program} {w : World} {K : PySem.W.Frag} {mg : Str → Option Value} {base : Heap} {A : Ads}
theorem ok_law_fill (T : Txt K mg A) : FnOk P w K mg base CX0 5 A.a_law_fill A.d_law_fill ["_law_pages", "_law_power", "_law_page_here", "_law_words_here"] (spFill K) := by
  refine T.F_law_fill.ok sc_law_fill (fun vs H Q E h => ?_) (fun cdv B outer s H vs Q E hr h => ?_)
  · obtain ⟨l, pw, wt, ps, p, g, ws, rfl, _⟩ := h
    rfl
  · obtain ⟨l, pw, wt, ps, p, g, ws, rfl, hl, hp, nlp, hwt, hw, hg, hpl, q⟩ := h
    refine ⟨_, (pss_cons (ps_for PassesOwn.never rfl (pi_list (pe_call (ok_law_rows T) (hr.mono (by omega)) rfl T.g_law_rows T.F_law_rows.kp T.b_law_rows .nil pass0 (pa_cons (pv 2) (pa_cons (pv 3) pa_nil)))) (pg_tup (by rfl) (pgs_cons (pg_name (i := 4) sc_law_fill.nd rfl (.inl rfl)) (pgs_cons (pg_name (i := 5) sc_law_fill.nd rfl (.inl rfl)) pgs_nil)))
      (pss_one (ps_if (pt_not (pt_val (pe_call (ok_law_write T) (hr.mono (by omega)) rfl T.g_law_write T.F_law_write.kp T.b_law_write .nil pass0 (pa_cons (pv 0) (pa_cons (pv 1) (pa_cons (pv 4) (pa_cons (pv 5) pa_nil))))))) (pss_one (ps_ret pe_bl)) pss_nil)))
    (pss_one (ps_ret pe_bl))), ?_⟩
    refine ⟨_, rfl, _, rfl, wt, g, ws, rfl, hwt, hw, by omega, fun H1 G xs s1 nG eG hR => ?_⟩
    obtain ⟨ys0, el0, ho0⟩ := id hl
    have el1 := s1 _ _ el0
    have ep1 := s1 _ _ hp
    have nGl : G ≠ l := fun z => by rw [z, el0] at nG; cases nG
    have nGp : G ≠ pw := fun z => by rw [z, hp] at nG; cases nG
    generalize hrs : rowsN g ws (cntR ws) = rs at *
    have hmem : ∀ r ∈ rs, r.1 < 144 ∧ r.2.length = 16 := fun r h => by
      rw [← hrs] at h
      have := rowsN_of h
      omega
    refine ⟨G, rfl, ⟨_, SqL.of eG⟩, for_it (walk_list (K := K) (a := G) (xs := xs)) (fun i σ Hc => ∃ o4 o5 ps' p', σ = [some (.ref l), some (.ref pw), some (.int (g : Int)), some (.ref wt), o4, o5] ∧ Bt2 l pw H1 Hc ∧ Hc pw = some (.lst [lV p']) ∧ PgK K Hc l ps' ∧ ps'.length = 144 ∧ fillN rs ps p = fillN (rs.drop i) ps' p') ⟨_, _, ps, p, rfl, Bt2.refl, ep1, ⟨ys0, el1, ho0.up s1⟩, hpl, rfl⟩ (fun i σ Hc _ y => ?_) (fun i x σ Hc Hd hi y e => ?_) (fun σ Hc y => ?_)⟩
    · obtain ⟨_, _, _, _, _, bt, _⟩ := y
      exact SqL.of (bt _ _ nGl nGp eG)
    · obtain ⟨o4, o5, ps', p', rfl, bt, ep, hpg, hpl', hf⟩ := y
      obtain ⟨rfl, e⟩ := e
      have hi2 : i < rs.length := by rw [← hR.1]; exact hi
      obtain ⟨v, hv, a, b, rfl, ha, hb⟩ := hR.2 i _ (List.getElem?_eq_getElem hi2)
      obtain ⟨hm1, hm2⟩ := hmem _ (List.getElem_mem hi2)
      have hd : rs.drop i = rs[i] :: rs.drop (i + 1) := List.drop_eq_getElem_cons hi2
      rw [hd] at hf
      generalize rs[i] = r at *
      rw [hv] at e
      cases e
      have ha' := sqT_bt2 ha el1 ep1 bt
      have hb' := sqT_bt2 hb el1 ep1 bt
      refine ⟨a, _, rfl, ha', rfl, _, _, rfl, _, _, rfl, rfl, ?_⟩
      refine ⟨_, rfl, _, rfl, _, rfl, _, rfl, l, pw, b, ps', p', r.1, r.2, rfl, hpg, ep, nlp, hb', hm2, hm1, hpl', fun H2 bt2 pg2 ep2 => ?_⟩
      rw [fillN_cons] at hf
      by_cases hc : lasts p' (cntW r.2 16) = cntW r.2 16
      · rw [if_pos hc] at hf
        refine ⟨_, rfl, ifF (c := !decide (lasts p' (cntW r.2 16) = cntW r.2 16)) (by rw [decide_eq_true hc]; rfl) ?_⟩
        exact ⟨_, _, _, _, rfl, bt.trans bt2, ep2, pg2, by rw [List.length_set]; exact hpl', hf⟩
      · rw [if_neg hc] at hf
        refine ⟨_, rfl, ifT (c := !decide (lasts p' (cntW r.2 16) = cntW r.2 16)) (by rw [decide_eq_false hc]; rfl) ?_⟩
        rw [hf] at q
        exact q H2 ((Bt2.of s1).trans (bt.trans bt2)) pg2 ep2
    · obtain ⟨o4, o5, ps', p', rfl, bt, ep, hpg, hpl', hf⟩ := y
      have hz : rs.drop xs.length = [] := List.drop_of_length_le (by rw [hR.1]; exact Nat.le_refl _)
      rw [hz, fillN_nil] at hf
      rw [hf] at q
      exact q Hc ((Bt2.of s1).trans bt) hpg ep
end
end R1

namespace R1
open PySem PySem.Spec PyProof.Rows L2 RK
local macro_rules | `(tactic| walk_at "sq") => `(tactic| first
  | exact SqL.of upd_same | exact upd_same | exact SqL.of (by assumption) | exact SqL.of (by rw [upd_ne (by assumption)]; assumption) | assumption)
local macro_rules | `(tactic| walk_at "sd") => `(tactic| first
  | assumption | omega | (refine Or.inl ⟨?_, ?_⟩ <;> omega) | (show _ ∧ _; constructor <;> omega) | (show _ ≠ _; simp; omega) | (exact Or.inl ⟨by decide, by decide⟩) | (exact Or.inr ⟨by decide, by decide⟩) | (show _ < _; decide) | (show _ ≤ _; decide))
local macro_rules | `(tactic| walk_at "at") => `(tactic| first | rfl | (refine atI_intV ?_ ?_ <;> omega) | assumption)
local macro_rules | `(tactic| walk_at "s1") => `(tactic| first
  | refine ⟨_, rfl, ?_⟩ | refine ⟨_, _, rfl, rfl, ?_⟩ | refine ⟨rfl, ?_⟩
  | refine ⟨_, _, _, _, rfl, rfl, by walk_at "sq", by walk_at "at", ?_⟩
  | refine Or.inl ⟨_, rfl, ?_⟩
  | refine ⟨_, _, rfl, Or.inl (by walk_at "sq"), ?_⟩
  | refine And.intro (by walk_at "sd") ?_)
local macro_rules | `(tactic| walk_at "s") => `(tactic| repeat walk_at "s1")

/-- what a deed is: erase a block, write or put words, power lost or whole -/
inductive Deed where
  | erase (x : V)
  | write (x : V) (ws : List Nat)
  | put (x : V) (ws : List Nat)
  | power (n : Option Nat)
def DeedT (K : PySem.W.Frag) (H : Hp) (t : Addr) (ws : List Nat) (name : String) (x : V) : Prop := ∃ b : Addr, SqT K H t [.str (Str.ofString name), x, .ref b] ∧ SqT K H b (intV ws) ∧ Spot x
def IsDeed (K : PySem.W.Frag) (H : Hp) (t : Addr) : Deed → Prop
  | .erase x => DeedT K H t [] "erase" x
  | .write x ws => DeedT K H t ws "write" x ∧ ws.length ≤ 17 ∧ ∀ w ∈ ws, w ≤ 65535
  | .put x ws => DeedT K H t ws "put" x ∧ ws.length ≤ 70 ∧ ∀ w ∈ ws, w ≤ 65535
  | .power n => DeedT K H t [] "power" (lV n) ∧ ∀ k, n = some k → k ≤ 60
def spDeed (K : PySem.W.Frag) : Sp := fun vs H Q _ => ∃ (c p : Addr) (n : Nat), vs = [.ref p, .int (n : Int)] ∧ Src c H p ∧ ∀ H' t d, Src c H' p → But p H H' → IsDeed K H' t d → Q (.ref t) H'
section
variable {P : Program} {w : World} {K : PySem.W.Frag} {mg : Str → Option Value} {base : Heap} {A : Ads}
theorem ok_law_deed (T : Txt K mg A) : FnOk P w K mg base CX0 8 A.a_law_deed A.d_law_deed ["_law_source_here", "_law_near_here"] (spDeed K) := by
  refine T.F_law_deed.ok sc_law_deed (fun vs H Q E h => ?_) (fun cdv B outer s H vs Q E hr h => ?_)
  · obtain ⟨l, pw, n, rfl, _⟩ := h
    rfl
  · obtain ⟨c, p, n, rfl, hs, q⟩ := h
    refine ⟨_, (pss_cons (ps_set (i := 2) sc_law_deed.nd rfl (.inl rfl) (pe_call (ok_law_draw T) (hr.mono (by omega)) rfl T.g_law_draw T.F_law_draw.kp T.b_law_draw .nil pass0 (pa_cons (pv 0) (pa_cons pe_int pa_nil))))
    (pss_cons (ps_if (pt_cmpR op_lt (pv 2) pe_int (nomark _)) (pss_one (ps_ret (pe_tup (pa_cons pe_str (pa_cons (pe_call (ok_law_block T) (hr.mono (by omega)) rfl T.g_law_block T.F_law_block.kp T.b_law_block .nil pass0 (pa_cons (pv 0) (pa_cons (pv 1) pa_nil))) (pa_cons (pe_tup pa_nil) pa_nil)))))) pss_nil)
    (pss_cons (ps_if (pt_cmpR op_lt (pv 2) pe_int (nomark _)) (pss_cons (ps_set (i := 3) sc_law_deed.nd rfl (.inl rfl) pe_int)
    (pss_cons (ps_if (pt_cmpR op_eq (pe_call (ok_law_draw T) (hr.mono (by omega)) rfl T.g_law_draw T.F_law_draw.kp T.b_law_draw .nil pass0 (pa_cons (pv 0) (pa_cons pe_int pa_nil))) pe_int (nomark _)) (pss_one (ps_set (i := 3) sc_law_deed.nd rfl (.inl rfl) (pe_ix ix_tup (pe_tup (pa_cons pe_int (pa_cons pe_int (pa_cons pe_int pa_nil)))) (pe_call (ok_law_draw T) (hr.mono (by omega)) rfl T.g_law_draw T.F_law_draw.kp T.b_law_draw .nil pass0 (pa_cons (pv 0) (pa_cons pe_int pa_nil))) (fun _ _ => rfl)))) pss_nil)
    (pss_cons (ps_set (i := 4) sc_law_deed.nd rfl (.inl rfl) (pe_call (ok_law_page T) (hr.mono (by omega)) rfl T.g_law_page T.F_law_page.kp T.b_law_page .nil pass0 (pa_cons (pv 0) (pa_cons (pv 1) pa_nil))))
    (pss_one (ps_ret (pe_tup (pa_cons pe_str (pa_cons (pv 4) (pa_cons (pe_call (ok_law_words T) (hr.mono (by omega)) rfl T.g_law_words T.F_law_words.kp T.b_law_words .nil pass0 (pa_cons (pv 0) (pa_cons (pv 3) pa_nil))) pa_nil))))))))) pss_nil)
    (pss_cons (ps_if (pt_cmpR op_lt (pv 2) pe_int (nomark _)) (pss_cons (ps_set (i := 4) sc_law_deed.nd rfl (.inl rfl) (pe_call (ok_law_page T) (hr.mono (by omega)) rfl T.g_law_page T.F_law_page.kp T.b_law_page .nil pass0 (pa_cons (pv 0) (pa_cons (pv 1) pa_nil))))
    (pss_one (ps_ret (pe_tup (pa_cons pe_str (pa_cons (pv 4) (pa_cons (pe_call (ok_law_words T) (hr.mono (by omega)) rfl T.g_law_words T.F_law_words.kp T.b_law_words .nil pass0 (pa_cons (pv 0) (pa_cons (pe_call (ok_law_draw T) (hr.mono (by omega)) rfl T.g_law_draw T.F_law_draw.kp T.b_law_draw .nil pass0 (pa_cons (pv 0) (pa_cons pe_int pa_nil))) pa_nil))) pa_nil))))))) pss_nil)
    (pss_cons (ps_if (pt_cmpR op_eq (pe_call (ok_law_draw T) (hr.mono (by omega)) rfl T.g_law_draw T.F_law_draw.kp T.b_law_draw .nil pass0 (pa_cons (pv 0) (pa_cons pe_int pa_nil))) pe_int (nomark _)) (pss_one (ps_ret (pe_tup (pa_cons pe_str (pa_cons pe_non (pa_cons (pe_tup pa_nil) pa_nil)))))) pss_nil)
    (pss_one (ps_ret (pe_tup (pa_cons pe_str (pa_cons (pe_call (ok_law_draw T) (hr.mono (by omega)) rfl T.g_law_draw T.F_law_draw.kp T.b_law_draw .nil pass0 (pa_cons (pv 0) (pa_cons pe_int pa_nil))) (pa_cons (pe_tup pa_nil) pa_nil))))))))))), ?_⟩
    refine ⟨_, rfl, c, p, 8, rfl, hs, by decide, by decide, fun H1 w1 lw hs1 b1 => ?_⟩
    refine ⟨_, rfl, _, _, rfl, rfl, _, rfl, ite2 (fun e => ?_) (fun e => ?_)⟩
    · refine ⟨_, rfl, _, rfl, c, p, n, rfl, hs1, fun H2 x hs2 b2 hx => ?_⟩
      refine ⟨lenOk (n := 0) rfl (by decide), fun t0 ht0 => ?_⟩
      have s0 := same_new (o := .tup []) ht0
      have v0 : upd H2 t0 (.tup []) t0 = some (.tup (intV [])) := upd_same
      generalize upd H2 t0 (.tup []) = H3 at s0 v0 ⊢
      refine ⟨lenOk (n := 3) rfl (by decide), fun t1 ht1 => ?_⟩
      have s1 := same_new (o := .tup [V.str (Str.ofString "erase"), x, .ref t0]) ht1
      exact q _ t1 (.erase x) (src_up (src_up hs2 s0) s1) ((b1.trans b2).trans ((But.of s0).trans (But.of s1))) ⟨t0, SqT.of upd_same, sqT_up (SqT.of v0) s1, hx⟩
    refine ⟨_, rfl, _, _, rfl, rfl, _, rfl, ite2 (fun e => ?_) (fun e => ?_)⟩
    · refine ⟨_, rfl, c, p, 8, rfl, hs1, by decide, by decide, fun H2 r2 l2 hs2 b2 => ?_⟩
      refine ⟨rfl, _, rfl, ite2 (fun e => ?_) (fun e => ?_)⟩
      · refine ⟨lenOk (n := 3) rfl (by decide), fun tp ntp => ?_⟩
        have s3 := same_new (o := .tup [V.int 15, V.int 17, V.int 0]) ntp
        refine ⟨_, rfl, c, p, 3, rfl, src_up hs2 s3, by decide, by decide, fun H4 k lk hs4 b4 => ?_⟩
        obtain ⟨m, hat, hm⟩ : ∃ m : Nat, atI [V.int 15, V.int 17, V.int 0] (k : Int) = some (.int (m : Int)) ∧ m ≤ 17 := by
          match k, lk with
          | 0, _ => exact ⟨15, rfl, by decide⟩
          | 1, _ => exact ⟨17, rfl, by decide⟩
          | 2, _ => exact ⟨0, rfl, by decide⟩
          | n + 3, h => exact absurd h (by omega)
        have tp4 := src_tup (src_up hs2 s3) b4 (show (upd H2 tp (.tup [V.int 15, V.int 17, V.int 0])) tp = some (.tup [V.int 15, V.int 17, V.int 0]) from upd_same)
        refine ⟨tp, _, _, _, rfl, rfl, SqT.of tp4, hat, ?_⟩
        refine ⟨_, rfl, _, rfl, c, p, n, rfl, hs4, fun H5 x hs5 b5 hx => ?_⟩
        refine ⟨_, rfl, _, rfl, _, rfl, c, p, m, rfl, hs5, by omega, fun H6 t0 ws hs6 b6 hl hw ht0 => ?_⟩
        refine ⟨lenOk (n := 3) rfl (by decide), fun t1 ht1 => ?_⟩
        have s1 := same_new (o := .tup [V.str (Str.ofString "write"), x, .ref t0]) ht1
        exact q _ t1 (.write x ws) (src_up hs6 s1) ((b1.trans (b2.trans ((But.of s3).trans b4))).trans (b5.trans (b6.trans (But.of s1)))) ⟨⟨t0, SqT.of upd_same, sqT_up ht0 s1, hx⟩, by omega, hw⟩
      · have hz : ((16 : Nat) : Int) = 16 := rfl
        refine ⟨_, rfl, _, rfl, c, p, n, rfl, hs2, fun H5 x hs5 b5 hx => ?_⟩
        refine ⟨_, rfl, _, rfl, _, rfl, c, p, 16, rfl, hs5, by decide, fun H6 t0 ws hs6 b6 hl hw ht0 => ?_⟩
        refine ⟨lenOk (n := 3) rfl (by decide), fun t1 ht1 => ?_⟩
        have s1 := same_new (o := .tup [V.str (Str.ofString "write"), x, .ref t0]) ht1
        exact q _ t1 (.write x ws) (src_up hs6 s1) ((b1.trans b2).trans (b5.trans (b6.trans (But.of s1)))) ⟨⟨t0, SqT.of upd_same, sqT_up ht0 s1, hx⟩, by omega, hw⟩
    refine ⟨_, rfl, _, _, rfl, rfl, _, rfl, ite2 (fun e => ?_) (fun e => ?_)⟩
    · refine ⟨_, rfl, _, rfl, c, p, n, rfl, hs1, fun H5 x hs5 b5 hx => ?_⟩
      refine ⟨_, rfl, _, rfl, _, rfl, c, p, 71, rfl, hs5, by decide, by decide, fun H7 k lk hs7 b7 => ?_⟩
      refine ⟨c, p, k, rfl, hs7, by omega, fun H6 t0 ws hs6 b6 hl hw ht0 => ?_⟩
      refine ⟨lenOk (n := 3) rfl (by decide), fun t1 ht1 => ?_⟩
      have s1 := same_new (o := .tup [V.str (Str.ofString "put"), x, .ref t0]) ht1
      exact q _ t1 (.put x ws) (src_up hs6 s1) (b1.trans (b5.trans (b7.trans (b6.trans (But.of s1))))) ⟨⟨t0, SqT.of upd_same, sqT_up ht0 s1, hx⟩, by omega, hw⟩
    · refine ⟨_, rfl, c, p, 3, rfl, hs1, by decide, by decide, fun H2 r2 l2 hs2 b2 => ?_⟩
      refine ⟨rfl, _, rfl, ite2 (fun e => ?_) (fun e => ?_)⟩
      · refine ⟨lenOk (n := 0) rfl (by decide), fun t0 ht0 => ?_⟩
        have s0 := same_new (o := .tup []) ht0
        have v0 : upd H2 t0 (.tup []) t0 = some (.tup (intV [])) := upd_same
        generalize upd H2 t0 (.tup []) = H3 at s0 v0 ⊢
        refine ⟨lenOk (n := 3) rfl (by decide), fun t1 ht1 => ?_⟩
        have s1 := same_new (o := .tup [V.str (Str.ofString "power"), V.non, .ref t0]) ht1
        exact q _ t1 (.power none) (src_up (src_up hs2 s0) s1) ((b1.trans b2).trans ((But.of s0).trans (But.of s1))) ⟨⟨t0, SqT.of upd_same, sqT_up (SqT.of v0) s1, .inl rfl⟩, fun k z => nomatch z⟩
      · refine ⟨_, rfl, c, p, 61, rfl, hs2, by decide, by decide, fun H4 k lk hs4 b4 => ?_⟩
        refine ⟨lenOk (n := 0) rfl (by decide), fun t0 ht0 => ?_⟩
        have s0 := same_new (o := .tup []) ht0
        have v0 : upd H4 t0 (.tup []) t0 = some (.tup (intV [])) := upd_same
        generalize upd H4 t0 (.tup []) = H3 at s0 v0 ⊢
        refine ⟨lenOk (n := 3) rfl (by decide), fun t1 ht1 => ?_⟩
        have s1 := same_new (o := .tup [V.str (Str.ofString "power"), V.int (k : Int), .ref t0]) ht1
        exact q _ t1 (.power (some k)) (src_up (src_up hs4 s0) s1) ((b1.trans (b2.trans b4)).trans ((But.of s0).trans (But.of s1))) ⟨⟨t0, SqT.of upd_same, sqT_up (SqT.of v0) s1, .inr (.inr ⟨_, rfl⟩)⟩, fun j z => by cases z; omega⟩
end
end R1

namespace R1
open PySem PySem.Spec PyProof.Rows L2 RK
local macro_rules | `(tactic| walk_at "sq") => `(tactic| first
  | exact SqL.of upd_same | exact upd_same | exact SqL.of (by assumption) | exact SqL.of (by rw [upd_ne (by assumption)]; assumption) | assumption)
local macro_rules | `(tactic| walk_at "sd") => `(tactic| first
  | assumption | omega | (refine Or.inl ⟨?_, ?_⟩ <;> omega) | (show _ ∧ _; constructor <;> omega) | (show _ ≠ _; simp; omega) | (exact Or.inl ⟨by decide, by decide⟩) | (exact Or.inr ⟨by decide, by decide⟩) | (show _ < _; decide) | (show _ ≤ _; decide))
local macro_rules | `(tactic| walk_at "at") => `(tactic| first | rfl | (refine atI_intV ?_ ?_ <;> omega) | assumption)
local macro_rules | `(tactic| walk_at "s1") => `(tactic| first
  | refine ⟨_, rfl, ?_⟩ | refine ⟨_, _, rfl, rfl, ?_⟩ | refine ⟨rfl, ?_⟩
  | refine ⟨_, _, _, _, rfl, rfl, by walk_at "sq", by walk_at "at", ?_⟩
  | refine Or.inl ⟨_, rfl, ?_⟩
  | refine ⟨_, _, rfl, Or.inl (by walk_at "sq"), ?_⟩
  | refine And.intro (by walk_at "sd") ?_)
local macro_rules | `(tactic| walk_at "s") => `(tactic| repeat walk_at "s1")

def spChk (K : PySem.W.Frag) (C : Addr) (nm : String) (hi : Int) : Sp := fun vs H Q E => ∃ (v : V) (d : PyData), vs = [v] ∧ Dp K H v d ∧ ((inD d 0 hi = true ∧ Q .non H) ∨ (inD d 0 hi = false ∧ ∀ dx H', Same H H' → H dx = none → H' dx = some (.xd [(nm, v)]) → E (.ref C) (some dx) H'))
section
variable {P : Program} {w : World} {K : PySem.W.Frag} {mg : Str → Option Value} {base : Heap} {A : Ads}
theorem ok_check_page (T : Txt K mg A) : FnOk P w K mg base (L2N.CX P w) 3 A.a_check_page A.d_check_page ["page"] (spChk K A.c_NoPage "page" 143) := by
  refine Fun.okN T.F_check_page sc_check_page (fun vs H Q E h => ?_) (fun cdv B outer s H vs Q E hr h => ?_)
  · obtain ⟨v, d, rfl, _⟩ := h
    rfl
  · obtain ⟨v, d, rfl, hd, h⟩ := h
    refine ⟨_, (pss_one (ps_if (pt_not (pt_val (pe_call (ok_is_between T) (hr.mono (by omega)) rfl T.g_is_between T.F_is_between.kp T.b_is_between .nil pass0 (pa_cons (pv 0) (pa_cons pe_int (pa_cons (pe_op op_sub (pe_glob (v := .int 144) rfl T.g_PAGES ⟨_, rfl⟩) pe_int) pa_nil)))))) (pss_one (L2N.ps_raise rfl (L2N.takes_of rfl rfl rfl rfl) (pmk_errN T.x_NoPage (ok_NoPage_init T) (hr.mono (by omega)) (pa_cons (pv 0) pa_nil)))) pss_nil)), ?_⟩
    refine ⟨_, rfl, _, _, rfl, rfl, v, d, 0, 143, rfl, hd, ?_⟩
    rcases h with ⟨e, q⟩ | ⟨e, q⟩
    · rw [e]
      exact ⟨_, rfl, ifF rfl q⟩
    · rw [e]
      refine ⟨_, rfl, ifT rfl ⟨_, rfl, keep_end fun dx H4 s4 n4 e4 => q dx H4 s4 n4 e4⟩⟩
theorem ok_check_block (T : Txt K mg A) : FnOk P w K mg base (L2N.CX P w) 3 A.a_check_block A.d_check_block ["block"] (spChk K A.c_NoBlock "block" 17) := by
  refine Fun.okN T.F_check_block sc_check_block (fun vs H Q E h => ?_) (fun cdv B outer s H vs Q E hr h => ?_)
  · obtain ⟨v, d, rfl, _⟩ := h
    rfl
  · obtain ⟨v, d, rfl, hd, h⟩ := h
    refine ⟨_, (pss_one (ps_if (pt_not (pt_val (pe_call (ok_is_between T) (hr.mono (by omega)) rfl T.g_is_between T.F_is_between.kp T.b_is_between .nil pass0 (pa_cons (pv 0) (pa_cons pe_int (pa_cons (pe_op op_sub (pe_glob (v := .int 18) rfl T.g_BLOCKS ⟨_, rfl⟩) pe_int) pa_nil)))))) (pss_one (L2N.ps_raise rfl (L2N.takes_of rfl rfl rfl rfl) (pmk_errN T.x_NoBlock (ok_NoBlock_init T) (hr.mono (by omega)) (pa_cons (pv 0) pa_nil)))) pss_nil)), ?_⟩
    refine ⟨_, rfl, _, _, rfl, rfl, v, d, 0, 17, rfl, hd, ?_⟩
    rcases h with ⟨e, q⟩ | ⟨e, q⟩
    · rw [e]
      exact ⟨_, rfl, ifF rfl q⟩
    · rw [e]
      refine ⟨_, rfl, ifT rfl ⟨_, rfl, keep_end fun dx H4 s4 n4 e4 => q dx H4 s4 n4 e4⟩⟩
end
end R1

namespace R1
open PySem PySem.Spec PyProof.Rows L2 RK
local macro_rules | `(tactic| walk_at "sq") => `(tactic| first
  | exact SqL.of upd_same | exact upd_same | exact SqL.of (by assumption) | exact SqL.of (by rw [upd_ne (by assumption)]; assumption) | assumption)
local macro_rules | `(tactic| walk_at "sd") => `(tactic| first
  | assumption | omega | (refine Or.inl ⟨?_, ?_⟩ <;> omega) | (show _ ∧ _; constructor <;> omega) | (show _ ≠ _; simp; omega) | (exact Or.inl ⟨by decide, by decide⟩) | (exact Or.inr ⟨by decide, by decide⟩) | (show _ < _; decide) | (show _ ≤ _; decide))
local macro_rules | `(tactic| walk_at "at") => `(tactic| first | rfl | (refine atI_intV ?_ ?_ <;> omega) | assumption)
local macro_rules | `(tactic| walk_at "s1") => `(tactic| first
  | refine ⟨_, rfl, ?_⟩ | refine ⟨_, _, rfl, rfl, ?_⟩ | refine ⟨rfl, ?_⟩
  | refine ⟨_, _, _, _, rfl, rfl, by walk_at "sq", by walk_at "at", ?_⟩
  | refine Or.inl ⟨_, rfl, ?_⟩
  | refine ⟨_, _, rfl, Or.inl (by walk_at "sq"), ?_⟩
  | refine And.intro (by walk_at "sd") ?_)
local macro_rules | `(tactic| walk_at "s") => `(tactic| repeat walk_at "s1")

def powD : PyData → Bool
  | .none => true
  | .int i => decide (0 ≤ i)
  | _ => false
def spPow (K : PySem.W.Frag) (C : Addr) : Sp := fun vs H Q E => ∃ (v : V) (d : PyData), vs = [v] ∧ Dp K H v d ∧ ((powD d = true ∧ Q .non H) ∨ (powD d = false ∧ ∀ dx H', Same H H' → H dx = none → H' dx = some (.xd [("power", v)]) → E (.ref C) (some dx) H'))
section
variable {P : Program} {w : World} {K : PySem.W.Frag} {mg : Str → Option Value} {base : Heap} {A : Ads}
theorem ok_check_power (T : Txt K mg A) : FnOk P w K mg base (L2N.CX P w) 3 A.a_check_power A.d_check_power ["units"] (spPow K A.c_BadPower) := by
  refine Fun.okN T.F_check_power sc_check_power (fun vs H Q E h => ?_) (fun cdv B outer s H vs Q E hr h => ?_)
  · obtain ⟨v, d, rfl, _⟩ := h
    rfl
  · obtain ⟨v, d, rfl, hd, h⟩ := h
    refine ⟨_, (pss_one (ps_if (PW.pt (pw_and (pt_cmpR op_notN (pv 0) pe_non (nomark _)) (pw_and1 (PW.pt (pw_or (pt_not (pt_val (pe_callB call_isi (by rfl) T.n_isinstance (by decide +kernel) (pa_cons (pv 0) (pa_cons (pe_bltn (v := .ty "int") (u := .type "int") (by rfl) T.n_int (by decide +kernel) rfl) pa_nil))))) (pw_or (pt_val (pe_callB call_isi (by rfl) T.n_isinstance (by decide +kernel) (pa_cons (pv 0) (pa_cons (pe_bltn (v := .ty "bool") (u := .type "bool") (by rfl) T.n_bool (by decide +kernel) rfl) pa_nil)))) (pw_or1 (pt_cmpR op_lt (pv 0) pe_int (nomark _))))))))) (pss_one (L2N.ps_raise rfl (L2N.takes_of rfl rfl rfl rfl) (pmk_errN T.x_BadPower (ok_BadPower_init T) (hr.mono (by omega)) (pa_cons (pv 0) pa_nil)))) pss_nil)), ?_⟩
    have bad : powD d = false → ∀ dx H', Same H H' → H dx = none → H' dx = some (.xd [("power", v)]) → E (.ref A.c_BadPower) (some dx) H' := fun e => by
      rcases h with ⟨e', _⟩ | ⟨_, q⟩
      · rw [e] at e'; cases e'
      · exact q
    have good : powD d = true → Q .non H := fun e => by
      rcases h with ⟨_, q⟩ | ⟨e', _⟩
      · exact q
      · rw [e] at e'; cases e'
    clear h
    refine ⟨_, rfl, rfl, _, rfl, ?_⟩
    cases hd with
    | non => exact ifF rfl (good rfl)
    | str x =>
      refine ifT rfl ⟨_, rfl, .str x, .ty "int", _, _, _, rfl, .ty "int", dp_ty (K := K) (.str x), kit_ty (kitT _ (dp_tn (K := K) (H := H) (.str x)) "int" (by decide)), _, rfl, ?_⟩
      exact ifT rfl (ifT rfl ⟨_, rfl, keep_end fun dx H4 s4 n4 e4 => bad rfl dx H4 s4 n4 e4⟩)
    | lst h t =>
      refine ifT rfl ⟨_, rfl, _, .ty "int", _, _, _, rfl, .ty "int", dp_ty (K := K) (.lst h t), kit_ty (kitT _ (dp_tn (K := K) (H := H) (.lst h t)) "int" (by decide)), _, rfl, ?_⟩
      exact ifT rfl (ifT rfl ⟨_, rfl, keep_end fun dx H4 s4 n4 e4 => bad rfl dx H4 s4 n4 e4⟩)
    | tup h t =>
      refine ifT rfl ⟨_, rfl, _, .ty "int", _, _, _, rfl, .ty "int", dp_ty (K := K) (.tup h t), kit_ty (kitT _ (dp_tn (K := K) (H := H) (.tup h t)) "int" (by decide)), _, rfl, ?_⟩
      exact ifT rfl (ifT rfl ⟨_, rfl, keep_end fun dx H4 s4 n4 e4 => bad rfl dx H4 s4 n4 e4⟩)
    | bl b =>
      refine ifT rfl ⟨_, rfl, .bl b, .ty "int", _, _, _, rfl, .ty "int", dp_ty (K := K) (.bl b), kit_ty (kitT _ (dp_tn (K := K) (H := H) (.bl b)) "int" (by decide)), _, rfl, ?_⟩
      refine ifF rfl ⟨_, rfl, .bl b, .ty "bool", _, _, _, rfl, .ty "bool", dp_ty (K := K) (.bl b), kit_ty (kitT _ (dp_tn (K := K) (H := H) (.bl b)) "bool" (by decide)), _, rfl, ?_⟩
      exact ifT rfl (ifT rfl ⟨_, rfl, keep_end fun dx H4 s4 n4 e4 => bad rfl dx H4 s4 n4 e4⟩)
    | int i =>
      refine ifT rfl ⟨_, rfl, .int i, .ty "int", _, _, _, rfl, .ty "int", dp_ty (K := K) (.int i), kit_ty (kitT _ (dp_tn (K := K) (H := H) (.int i)) "int" (by decide)), _, rfl, ?_⟩
      refine ifF rfl ⟨_, rfl, .int i, .ty "bool", _, _, _, rfl, .ty "bool", dp_ty (K := K) (.int i), kit_ty (kitT _ (dp_tn (K := K) (H := H) (.int i)) "bool" (by decide)), _, rfl, ?_⟩
      refine ifF (by show isB "int" "bool" = false; decide) ⟨_, rfl, _, _, rfl, rfl, _, rfl, ?_⟩
      exact ifB (fun e => ⟨_, rfl, keep_end fun dx H4 s4 n4 e4 => bad (decide_eq_false fun z => by have := of_decide_eq_true e; omega) dx H4 s4 n4 e4⟩) (fun e => good (decide_eq_true (by have := of_decide_eq_false e; omega)))
end
end R1

namespace R1
open PySem PySem.Spec PyProof.Rows L2 RK
local macro_rules | `(tactic| walk_at "sq") => `(tactic| first
  | exact SqL.of upd_same | exact upd_same | exact SqL.of (by assumption) | exact SqL.of (by rw [upd_ne (by assumption)]; assumption) | assumption)
local macro_rules | `(tactic| walk_at "sd") => `(tactic| first
  | assumption | omega | (refine Or.inl ⟨?_, ?_⟩ <;> omega) | (show _ ∧ _; constructor <;> omega) | (show _ ≠ _; simp; omega) | (exact Or.inl ⟨by decide, by decide⟩) | (exact Or.inr ⟨by decide, by decide⟩) | (show _ < _; decide) | (show _ ≤ _; decide))
local macro_rules | `(tactic| walk_at "at") => `(tactic| first | rfl | (refine atI_intV ?_ ?_ <;> omega) | assumption)
local macro_rules | `(tactic| walk_at "s1") => `(tactic| first
  | refine ⟨_, rfl, ?_⟩ | refine ⟨_, _, rfl, rfl, ?_⟩ | refine ⟨rfl, ?_⟩
  | refine ⟨_, _, _, _, rfl, rfl, by walk_at "sq", by walk_at "at", ?_⟩
  | refine Or.inl ⟨_, rfl, ?_⟩
  | refine ⟨_, _, rfl, Or.inl (by walk_at "sq"), ?_⟩
  | refine And.intro (by walk_at "sd") ?_)
local macro_rules | `(tactic| walk_at "s") => `(tactic| repeat walk_at "s1")

/-- the fields of a flash -/
def flF (l : Addr) (v : V) : List (Str × V) := [("pages", .ref l), ("left", v)]
def spUse (K : PySem.W.Frag) (C L : Addr) : Sp := fun vs H Q E => ∃ (f dx l : Addr) (p : Option Nat), vs = [.ref f] ∧ H f = some (.ins C dx (flF l (lV p))) ∧
  (p ≠ some 0 → ∀ H', (∀ b, b ≠ f → H' b = H b) → H' f = some (.ins C dx (flF l (lV (less p 1)))) → Q .non H') ∧
  (p = some 0 → ∀ dy t H', Same H H' → H dy = none → H' dy = some (.xd [("seen", .ref t)]) → SqT K H' t [] → E (.ref L) (some dy) H')
def spLim (K : PySem.W.Frag) (C B : Addr) : Sp := fun vs H Q E => ∃ (f dx l : Addr) (v0 v : V) (d : PyData), vs = [.ref f, v] ∧ H f = some (.ins C dx (flF l v0)) ∧ Dp K H v d ∧
  ((powD d = true ∧ Q .non (upd H f (.ins C dx (flF l v)))) ∨ (powD d = false ∧ ∀ dy H', Same H H' → H dy = none → H' dy = some (.xd [("power", v)]) → E (.ref B) (some dy) H'))
section
variable {P : Program} {w : World} {K : PySem.W.Frag} {mg : Str → Option Value} {base : Heap} {A : Ads}
theorem ok_use_power (T : Txt K mg A) : FnOk P w K mg base (L2N.CX P w) 3 A.a_use_power A.d_use_power ["flash"] (spUse K A.c_Flash A.c_PowerLost) := by
  refine Fun.okN T.F_use_power sc_use_power (fun vs H Q E h => ?_) (fun cdv B outer s H vs Q E hr h => ?_)
  · obtain ⟨f, dx, l, p, rfl, _⟩ := h
    rfl
  · obtain ⟨f, dx, l, p, rfl, hf, q, e⟩ := h
    refine ⟨_, (pss_one (ps_if (pt_cmpR op_notN (pe_fld (pv 0) rfl) pe_non (nomark _)) (pss_cons (ps_if (pt_cmpR op_eq (pe_fld (pv 0) rfl) pe_int (nomark _)) (pss_one (L2N.ps_raise rfl (L2N.takes_of rfl rfl rfl rfl) (pmk_errN T.x_PowerLost (ok_PowerLost_init T) (hr.mono (by omega)) (pa_cons (pe_tup pa_nil) pa_nil)))) pss_nil)
    (pss_one (ps_fldaug (pv 0) pe_int in_sub))) pss_nil)), ?_⟩
    refine ⟨_, rfl, f, A.c_Flash, dx, _, _, rfl, hf, T.cl_Flash, T.na_Flash_left, rfl, ?_⟩
    match p, q, e, hf with
    | none, q, e, hf => exact ⟨rfl, _, rfl, ifF rfl (q (by intro z; cases z) H (fun _ _ => rfl) hf)⟩
    | some 0, q, e, hf =>
      refine ⟨rfl, _, rfl, ifT rfl ?_⟩
      refine ⟨_, rfl, f, A.c_Flash, dx, _, _, rfl, hf, T.cl_Flash, T.na_Flash_left, rfl, ?_⟩
      refine ⟨rfl, _, rfl, ifT (by rfl) ?_⟩
      refine ⟨lenOk (n := 0) rfl (by decide), fun t ht => ?_⟩
      have s1 := same_new (o := .tup []) ht
      refine keep_end fun dy H4 s4 n4 e4 => e rfl dy t H4 (s1.trans s4) (s1.free n4) e4 (sqT_up (SqT.of upd_same) s4)
    | some (k + 1), q, e, hf =>
      refine ⟨rfl, _, rfl, ifT rfl ?_⟩
      refine ⟨_, rfl, f, A.c_Flash, dx, _, _, rfl, hf, T.cl_Flash, T.na_Flash_left, rfl, ?_⟩
      refine ⟨rfl, _, rfl, ifF (by show decide (V.int ((k + 1 : Nat) : Int) = V.int 0) = false; exact decide_eq_false (vint (by omega))) ?_⟩
      refine ⟨_, rfl, f, A.c_Flash, dx, _, _, rfl, hf, T.cl_Flash, T.na_Flash_left, rfl, _, _, rfl, rfl, dx, _, hf, (show 2 < 1000 by decide), ?_⟩
      refine q (fun z => by cases z) _ (fun b hb => upd_ne hb) ?_
      rw [upd_same]
      have : ((k + 1 : Nat) : Int) - 1 = ((k + 1 - 1 : Nat) : Int) := by omega
      show some (HO.ins A.c_Flash dx (flF l (.int (((k + 1 : Nat) : Int) - 1)))) = some (HO.ins A.c_Flash dx (flF l (.int ((k + 1 - 1 : Nat) : Int))))
      rw [this]
theorem ok_limit_power (T : Txt K mg A) : FnOk P w K mg base (L2N.CX P w) 5 A.a_limit_power A.d_limit_power ["flash", "units"] (spLim K A.c_Flash A.c_BadPower) := by
  refine Fun.okN T.F_limit_power sc_limit_power (fun vs H Q E h => ?_) (fun cdv B outer s H vs Q E hr h => ?_)
  · obtain ⟨f, dx, l, v0, v, d, rfl, _⟩ := h
    rfl
  · obtain ⟨f, dx, l, v0, v, d, rfl, hf, hd, h⟩ := h
    refine ⟨_, (pss_cons (ps_expr (pe_call (ok_check_power T) (hr.mono (by omega)) rfl T.g_check_power T.F_check_power.kp T.b_check_power .nil (L2N.passes_call (L2N.takes_of rfl rfl rfl rfl) (fun _ _ _ _ h => h)) (pa_cons (pv 1) pa_nil)))
    (pss_one (ps_fld (pv 0) (pv 1) rfl))), ?_⟩
    refine ⟨_, rfl, v, d, rfl, hd, ?_⟩
    rcases h with ⟨e, q⟩ | ⟨e, q⟩
    · refine .inl ⟨e, ?_⟩
      exact ⟨_, rfl, _, rfl, f, A.c_Flash, dx, _, rfl, hf, T.cl_Flash, T.na_Flash_left, (show 2 < 1000 by decide), q⟩
    · exact .inr ⟨e, q⟩
end
end R1

namespace R1
open PySem PySem.Spec PyProof.Rows L2 RK
local macro_rules | `(tactic| walk_at "sq") => `(tactic| first
  | exact SqL.of upd_same | exact upd_same | exact SqL.of (by assumption) | exact SqL.of (by rw [upd_ne (by assumption)]; assumption) | assumption)
local macro_rules | `(tactic| walk_at "sd") => `(tactic| first
  | assumption | omega | (refine Or.inl ⟨?_, ?_⟩ <;> omega) | (show _ ∧ _; constructor <;> omega) | (show _ ≠ _; simp; omega) | (exact Or.inl ⟨by decide, by decide⟩) | (exact Or.inr ⟨by decide, by decide⟩) | (show _ < _; decide) | (show _ ≤ _; decide))
local macro_rules | `(tactic| walk_at "at") => `(tactic| first | rfl | (refine atI_intV ?_ ?_ <;> omega) | assumption)
local macro_rules | `(tactic| walk_at "s1") => `(tactic| first
  | refine ⟨_, rfl, ?_⟩ | refine ⟨_, _, rfl, rfl, ?_⟩ | refine ⟨rfl, ?_⟩
  | refine ⟨_, _, _, _, rfl, rfl, by walk_at "sq", by walk_at "at", ?_⟩
  | refine Or.inl ⟨_, rfl, ?_⟩
  | refine ⟨_, _, rfl, Or.inl (by walk_at "sq"), ?_⟩
  | refine And.intro (by walk_at "sd") ?_)
local macro_rules | `(tactic| walk_at "s") => `(tactic| repeat walk_at "s1")

def spWoP (K : PySem.W.Frag) (C : Addr) : Sp := fun vs H Q _ => ∃ (f dx l : Addr) (v : V) (ps : List (List Nat)) (i n : Nat), vs = [.ref f, .int (i : Int), .int (n : Int)] ∧ H f = some (.ins C dx (flF l v)) ∧ PgK K H l ps ∧ i + n ≤ ps.length ∧ ps.length ≤ 144 ∧ (∀ x ∈ ps, x.length ≤ 16) ∧
  ∀ H' t, Same H H' → SqT K H' t (intV ((ps.drop i).take n).flatten) → Q (.ref t) H'
section
variable {P : Program} {w : World} {K : PySem.W.Frag} {mg : Str → Option Value} {base : Heap} {A : Ads}
theorem ok_words_of_pages (T : Txt K mg A) : FnOk P w K mg base CX0 3 A.a_words_of_pages A.d_words_of_pages ["flash", "page", "count"] (spWoP K A.c_Flash) := by
  refine T.F_words_of_pages.ok sc_words_of_pages (fun vs H Q E h => ?_) (fun cdv B outer s H vs Q E hr h => ?_)
  · obtain ⟨f, dx, l, v, ps, i, n, rfl, _⟩ := h
    rfl
  · obtain ⟨f, dx, l, v, ps, i, n, rfl, hf, hl, hin, h144, h16, q⟩ := h
    refine ⟨_, (pss_one (ps_ret (pe_callTy tuple_of (by rfl) T.n_tuple (by decide +kernel) (pa_cons (pe_lc2 (own := [("row", 3), ("word", 4)]) (vs1 := [4]) rfl sc_words_of_pages.nd (pi_list (pe_slice sl_list (pe_fld (pv 0) rfl) (po_some (pv 1)) (po_some (pe_op op_add (pv 1) (pv 2))))) (blkOk_by (own := [("row", 3), ("word", 4)]) (N := N_words_of_pages) (sc := defScope s_words_of_pages) (by decide +kernel)) (by decide) (fun _ _ _ _ _ => pg_name (i := 3) sc_words_of_pages.nd rfl (Or.inl rfl)) (fun _ _ _ _ _ => pts_nil) (fun _ _ _ _ _ => by exact (show PI _ _ _ (iTup K _) from (pi_tup (pv 3)))) (fun _ _ _ _ _ => pg_name (i := 4) sc_words_of_pages.nd rfl (Or.inl rfl)) (fun _ _ _ _ _ => pts_nil) (fun _ _ _ _ _ => by exact (pv 4))) pa_nil)))), ?_⟩
    obtain ⟨xs, el, ho⟩ := hl
    refine ⟨_, rfl, f, A.c_Flash, dx, _, _, rfl, hf, T.cl_Flash, T.na_Flash_pages, rfl, ?_⟩
    refine ⟨_, rfl, _, rfl, _, rfl, _, rfl, _, _, rfl, rfl, _, rfl, l, xs, rfl, SqL.of el, fun p hp => ?_⟩
    have s1 := same_new (o := .lst (cutV xs (some (i : Int)) (some ((i : Int) + (n : Int))))) hp
    have ec : cutV xs (some (i : Int)) (some ((i : Int) + (n : Int))) = (xs.drop i).take n := by
      rw [show (i : Int) + (n : Int) = ((i + n : Nat) : Int) by omega]
      exact cutV_off (by rw [ho.1]; omega)
    rw [ec] at s1 ⊢
    have e1 : upd H p (.lst ((xs.drop i).take n)) p = some (.lst ((xs.drop i).take n)) := upd_same
    generalize upd H p (.lst ((xs.drop i).take n)) = H1 at s1 e1 ⊢
    have ho1 := ho.up s1
    have hoc : OrdT K H1 ((xs.drop i).take n) ((ps.drop i).take n) := by
      refine ⟨by rw [List.length_take, List.length_take, List.length_drop, List.length_drop, ho1.1], fun k ws hk => ?_⟩
      rw [List.getElem?_take] at hk ⊢
      by_cases hkn : k < n
      · rw [if_pos hkn] at hk ⊢
        rw [List.getElem?_drop] at hk ⊢
        exact ho1.2 _ _ hk
      · rw [if_neg hkn] at hk
        cases hk
    have hr16 : ∀ x ∈ (ps.drop i).take n, x.length ≤ 16 := fun x hx => h16 x (List.mem_of_mem_drop (List.mem_of_mem_take hx))
    have hrl : ((ps.drop i).take n).length = n := by rw [List.length_take, List.length_drop]; omega
    generalize (xs.drop i).take n = ys at *
    generalize (ps.drop i).take n = rs at *
    refine ⟨p, rfl, ⟨_, SqL.of e1⟩, fun D hD => ?_⟩
    have fL : ∀ a, a ≤ rs.length → (rs.take a).flatten.length ≤ 16 * a := fun a ha => by
      induction a with
      | zero => exact Nat.le_refl _
      | succ a ih =>
        rw [List.take_succ_eq_append_getElem ha, List.flatten_append, List.length_append, List.flatten_singleton]
        have := ih (by omega)
        have := hr16 _ (List.getElem_mem ha)
        omega
    have n144 : n ≤ 144 := by omega
    refine lc2_it (walk_list (K := K) (a := p) (xs := ys)) (k := 3) (k1 := 4) (by decide) (fun a Hx => Same H1 Hx ∧ Hx D = some (.lst (intV (rs.take a).flatten))) ⟨same_new hD, upd_same⟩ (fun a Hx _ h => SqL.of (h.1 _ _ e1)) (fun a x Hx Hy ha hp0 y R hR => ?_) (fun Hx h => ?_)
    · obtain ⟨rfl, e⟩ := y
      obtain ⟨sx, hxD⟩ := hp0
      rw [hoc.1] at ha
      obtain ⟨t1, et, ht1⟩ := hoc.2 a _ (List.getElem?_eq_getElem ha)
      rw [et] at e
      cases e
      have hl16 := hr16 _ (List.getElem_mem ha)
      have hfa := fL a (by omega)
      have htk : (rs.take (a + 1)).flatten = (rs.take a).flatten ++ rs[a] := by
        rw [List.take_succ_eq_append_getElem ha, List.flatten_append, List.flatten_singleton]
      rw [htk] at hR
      generalize (rs.take a).flatten = pre at *
      generalize rs[a] = r at *
      refine ⟨_, rfl, t1, rfl, ⟨_, sqT_up ht1 sx⟩, ?_⟩
      refine hR _ _ _ _ _ (fun b Hz => Same H1 Hz ∧ Hz D = some (.lst (intV (pre ++ r.take b)))) (walk_tup (K := K) (a := t1) (xs := intV r)) ⟨sx, by rw [List.take_zero, List.append_nil]; exact hxD⟩ (fun b Hz _ h => sqT_up ht1 h.1) (fun j y Hz Hw hj hp1 yy => ?_) (fun Hz hp1 => ?_)
      · obtain ⟨rfl, e2⟩ := yy
        obtain ⟨sz, hzD⟩ := hp1
        rw [intV_len] at hj
        rw [intV_at hj] at e2
        cases e2
        refine ⟨_, rfl, _, hzD, ?_, same_mut sz hD, ?_⟩
        · rw [intV_len, List.length_append, List.length_take]
          exact lt_line (by omega)
        · rw [upd_same, List.take_succ_eq_append_getElem hj, ← List.append_assoc, intV_app _ [r[j]]]
          rw [List.getD_eq_getElem?_getD, List.getElem?_eq_getElem hj]
          rfl
      · rw [List.take_of_length_le (by rw [intV_len]; exact Nat.le_refl _)] at hp1
        exact hp1
    · obtain ⟨sx, hxD⟩ := h
      rw [List.take_of_length_le (by rw [hoc.1]; exact Nat.le_refl _)] at hxD
      refine ⟨D, _, rfl, .inl ⟨SqL.of hxD, fun t ht => ?_⟩⟩
      have s3 := same_new (o := .tup (intV rs.flatten)) ht
      exact q _ t (s1.trans (sx.trans s3)) (SqT.of upd_same)
end
end R1

namespace R1
open PySem PySem.Spec PyProof.Rows L2 RK
local macro_rules | `(tactic| walk_at "sq") => `(tactic| first
  | exact SqL.of upd_same | exact upd_same | exact SqL.of (by assumption) | exact SqL.of (by rw [upd_ne (by assumption)]; assumption) | assumption)
local macro_rules | `(tactic| walk_at "sd") => `(tactic| first
  | assumption | omega | (refine Or.inl ⟨?_, ?_⟩ <;> omega) | (show _ ∧ _; constructor <;> omega) | (show _ ≠ _; simp; omega) | (exact Or.inl ⟨by decide, by decide⟩) | (exact Or.inr ⟨by decide, by decide⟩) | (show _ < _; decide) | (show _ ≤ _; decide))
local macro_rules | `(tactic| walk_at "at") => `(tactic| first | rfl | (refine atI_intV ?_ ?_ <;> omega) | assumption)
local macro_rules | `(tactic| walk_at "s1") => `(tactic| first
  | refine ⟨_, rfl, ?_⟩ | refine ⟨_, _, rfl, rfl, ?_⟩ | refine ⟨rfl, ?_⟩
  | refine ⟨_, _, _, _, rfl, rfl, by walk_at "sq", by walk_at "at", ?_⟩
  | refine Or.inl ⟨_, rfl, ?_⟩
  | refine ⟨_, _, rfl, Or.inl (by walk_at "sq"), ?_⟩
  | refine And.intro (by walk_at "sd") ?_)
local macro_rules | `(tactic| walk_at "s") => `(tactic| repeat walk_at "s1")

theorem OrdT.putL {K : PySem.W.Frag} {H : Hp} {xs : List V} {ps : List (List Nat)} {l : Addr} {ys zs : List V} (h : OrdT K H xs ps) (el : H l = some (.lst ys)) : OrdT K (upd H l (.lst zs)) xs ps := ⟨h.1, fun k ws hw => let ⟨p, a, b⟩ := h.2 k ws hw; ⟨p, a, sqT_putL el b⟩⟩
theorem OrdT.snoc {K : PySem.W.Frag} {H : Hp} {xs : List V} {t : Addr} {ws : List Nat} {ps : List (List Nat)} (h : OrdT K H xs ps) (ht : SqT K H t (intV ws)) : OrdT K H (xs ++ [.ref t]) (ps ++ [ws]) := by
  refine ⟨by rw [List.length_append, List.length_append, h.1]; rfl, fun k r' hr => ?_⟩
  rcases Nat.lt_or_ge k ps.length with hk | hk
  · rw [List.getElem?_append_left hk] at hr
    rw [List.getElem?_append_left (by rw [h.1]; exact hk)]
    exact h.2 k r' hr
  · rw [List.getElem?_append_right hk] at hr
    rw [List.getElem?_append_right (by rw [h.1]; exact hk), h.1]
    match hz : k - ps.length, hr with
    | 0, hr => cases hr; exact ⟨t, rfl, ht⟩
    | n + 1, hr => cases hr
def cutR (ws : List Nat) (i : Nat) : List Nat := (ws.drop (16 * i)).take 16
theorem range_map_succ {α : Type} (f : Nat → α) (i : Nat) : (List.range (i + 1)).map f = (List.range i).map f ++ [f i] := by
  rw [List.range_succ, List.map_append]
  rfl
theorem range_map_at {α : Type} (f : Nat → α) {i n : Nat} (h : i < n) : ((List.range n).map f)[i]? = some (f i) := by
  rw [List.getElem?_map, List.getElem?_range h]
  rfl
theorem cutV_from {xs : List V} {a : Nat} (h : a ≤ 1000000) : cutV xs (some (a : Int)) none = xs.drop a := by
  show (xs.drop (HT.sIx xs.length 0 (some (a : Int)))).take (xs.length - HT.sIx xs.length 0 (some (a : Int))) = _
  rw [HT.sIx_nat]
  by_cases h2 : a ≤ xs.length
  · rw [Nat.min_eq_left h2, List.take_of_length_le (by rw [List.length_drop]; omega)]
  · rw [Nat.min_eq_right (by omega), List.drop_of_length_le (Nat.le_refl _), List.drop_of_length_le (by omega), List.take_nil]
def spRfp (K : PySem.W.Frag) : Sp := fun vs H Q _ => ∃ (wt : Addr) (ws : List Nat), vs = [.ref wt] ∧ SqT K H wt (intV ws) ∧ ws.length ≤ 100 ∧ ∀ H' l xs, Same H H' → H l = none → H' l = some (.lst xs) → OrdT K H' xs ((List.range (cntR ws)).map (rowAt ws)) → Q (.ref l) H'
section
variable {P : Program} {w : World} {K : PySem.W.Frag} {mg : Str → Option Value} {base : Heap} {A : Ads}
theorem sqT_any {K : PySem.W.Frag} {H : Hp} {a : Addr} {xs : List V} (h : SqT K (fun _ => none) a xs) : SqT K H a xs := sqT_up h fun _ _ z => by cases z
theorem q_blank (T : Txt K mg A) {H : Hp} : SqT K H A.t_BLANK_PAGE (intV blank) := sqT_any T.q_BLANK_PAGE
theorem ok_rows_for_pages (T : Txt K mg A) : FnOk P w K mg base CX0 3 A.a_rows_for_pages A.d_rows_for_pages ["words"] (spRfp K) := by
  refine T.F_rows_for_pages.ok sc_rows_for_pages (fun vs H Q E h => ?_) (fun cdv B outer s H vs Q E hr h => ?_)
  · obtain ⟨wt, ws, rfl, _⟩ := h
    rfl
  · obtain ⟨wt, ws, rfl, hwt, hwl, q⟩ := h
    refine ⟨_, (pss_cons (ps_setLc (i := 2) (own := [("at", 1)]) rfl sc_rows_for_pages.nd rfl rfl (sw_true rfl rfl rfl (by decide +kernel)) (pi_range3 (by rfl) T.n_range (pa_cons pe_int (pa_cons (pe_callB len_seq (by rfl) T.n_len (by decide +kernel) (pa_cons (pv 0) pa_nil)) (pa_cons (pe_glob (v := .int 16) rfl T.g_PAGE_WORDS ⟨_, rfl⟩) pa_nil)))) (blkOk_by (own := [("at", 1)]) (N := N_rows_for_pages) (sc := defScope s_rows_for_pages) (by decide +kernel)) (fun _ _ _ _ _ => pg_name (i := 1) sc_rows_for_pages.nd rfl (Or.inl rfl)) (fun _ _ _ _ _ => pts_nil) (fun _ _ _ _ _ => by exact (pe_callTy (r := (fun xs H Q => ∃ a ys, xs = [V.ref a] ∧ SqT K H a ys ∧ Q (V.ref a) H)) call_tupleT (by rfl) T.n_tuple (by decide +kernel) (pa_cons (pe_slice (r := rSlA K) sl_tupA (pv 0) (po_some (pv 1)) (po_some (pe_op op_add (pv 1) (pe_glob (v := .int 16) rfl T.g_PAGE_WORDS ⟨_, rfl⟩)))) pa_nil))))
    (pss_one (ps_ret (pe_lc (own := [("row", 3)]) rfl sc_rows_for_pages.nd (pi_list (pv 2)) (blkOk_by (own := [("row", 3)]) (N := N_rows_for_pages) (sc := defScope s_rows_for_pages) (by decide +kernel)) (fun _ _ _ _ _ => pg_name (i := 3) sc_rows_for_pages.nd rfl (Or.inl rfl)) (fun _ _ _ _ _ => pts_nil) (fun _ _ _ _ _ => by exact (pe_op (r := rCatA K) op_catA (pv 3) (pe_slice (r := rSlA K) sl_tupA (pe_glob (v := .ref A.t_BLANK_PAGE) rfl T.g_BLANK_PAGE rfl) (po_some (pe_callB (r := Evl.rLenS K) len_seq (by rfl) T.n_len (by decide +kernel) (pa_cons (pv 3) pa_nil))) po_none))))))), ?_⟩
    refine ⟨_, rfl, wt, _, rfl, .inr hwt, ?_⟩
    rw [intV_len]
    refine ⟨_, _, _, _, rfl, rg16 (by omega), fun D hD => ?_⟩
    have hcn : (ws.length + 15) / 16 = cntR ws := rfl
    rw [hcn]
    refine lc_inv (walk_rangeC (lo := 0) (c := 16) (n := cntR ws)) (fun i x => x = .int (0 + (i : Nat) * 16)) (fun i acc Hx => Same H Hx ∧ OrdT K Hx acc ((List.range i).map (cutR ws))) (by unfold cntR; omega) ⟨same_new hD, rfl, fun k ws hw => by cases hw⟩ (fun _ _ _ _ => trivial) (fun _ _ _ _ _ y => y) (fun i x acc Hx hi hacc hp hxD ex Q' q' => ?_) (fun acc Hx hacc hp hxD => ?_)
    · have ex : x = .int ((16 * i : Nat) : Int) := by rw [ex]; exact congrArg V.int (by omega)
      subst ex
      obtain ⟨sx, hx⟩ := hp
      refine ⟨_, rfl, _, rfl, _, rfl, _, rfl, _, _, rfl, rfl, _, rfl, slA_of (sqT_up hwt sx) fun t1 G1 s1 ht1 => ⟨t1, _, rfl, ht1, ?_⟩⟩
      have ec : cutV (intV ws) (some ((16 * i : Nat) : Int)) (some (((16 * i : Nat) : Int) + 16)) = intV (cutR ws i) := by
        rw [show ((16 * i : Nat) : Int) + 16 = ((16 * i + 16 : Nat) : Int) by omega, cutV_off (by rw [intV_len]; unfold cntR at hi; omega), intV_cut]
        rfl
      have ht1 : SqT K G1 t1 (intV (cutR ws i)) := by
        rw [← ec]
        exact ht1
      refine q' _ G1 (s1 _ _ hxD) ⟨same_mut (sx.trans s1) hD, ?_⟩
      rw [range_map_succ]
      exact ((hx.up s1).snoc ht1).putL (s1 _ _ hxD)
    · obtain ⟨sx, hx⟩ := hp
      refine ⟨_, rfl, D, rfl, ⟨_, SqL.of hxD⟩, fun D2 hD2 => ?_⟩
      refine lc_inv (walk_list (K := K) (a := D) (xs := acc)) (fun i x => acc[i]? = some x) (fun i acc2 Hy => Same Hx Hy ∧ OrdT K Hy acc2 ((List.range i).map (rowAt ws))) (by rw [hacc]; unfold cntR; omega) ⟨same_new hD2, rfl, fun k ws hw => by cases hw⟩ (fun i acc2 Hy h => SqL.of (h.1 _ _ hxD)) (fun _ _ _ _ _ y => y) (fun i x acc2 Hy hi hacc2 hp hyD ex Q' q' => ?_) (fun acc2 Hy hacc2 hp hyD => ?_)
      · obtain ⟨sy, hy⟩ := hp
        obtain ⟨t, et, ht⟩ := hx.2 i _ (range_map_at (cutR ws) (by omega))
        rw [et] at ex
        cases ex
        have ht := sqT_up ht sy
        have hc16 : (cutR ws i).length ≤ 16 := by unfold cutR; rw [List.length_take]; omega
        have hrow : rowAt ws i = cutR ws i ++ List.replicate (16 - (cutR ws i).length) 65535 := rfl
        generalize cutR ws i = r at *
        unfold tNoPart
        refine ⟨_, rfl, _, rfl, t, _, rfl, .inr ht, _, rfl, slA_of (q_blank T) fun t2 G2 s2 ht2 => ?_⟩
        rw [intV_len, cutV_from (by omega)] at ht2
        refine catA_of (sqT_up ht s2) ht2 (by rw [intV_len, List.length_drop, intV_len]; have : blank.length = 16 := rfl; omega) fun t4 G4 s4 ht4 => ?_
        have ht4 : SqT K G4 t4 (intV (rowAt ws i)) := by
          rw [hrow, intV_app]
          have : (intV blank).drop r.length = intV (List.replicate (16 - r.length) 65535) := by
            unfold intV blank
            rw [← List.map_drop, List.drop_replicate]
          rw [← this]
          exact ht4
        have s24 := s2.trans s4
        refine q' _ G4 (s24 _ _ hyD) ⟨same_mut (sy.trans s24) hD2, ?_⟩
        rw [range_map_succ]
        exact ((hy.up s24).snoc ht4).putL (s24 _ _ hyD)
      · rw [hacc] at hp
        exact q Hy D2 acc2 (sx.trans hp.1) (sx.free hD2) hyD hp.2
end
end R1

namespace R1
open PySem PySem.Spec PyProof.Rows L2 RK
local macro_rules | `(tactic| walk_at "sq") => `(tactic| first
  | exact SqL.of upd_same | exact upd_same | exact SqL.of (by assumption) | exact SqL.of (by rw [upd_ne (by assumption)]; assumption) | assumption)
local macro_rules | `(tactic| walk_at "sd") => `(tactic| first
  | assumption | omega | (refine Or.inl ⟨?_, ?_⟩ <;> omega) | (show _ ∧ _; constructor <;> omega) | (show _ ≠ _; simp; omega) | (exact Or.inl ⟨by decide, by decide⟩) | (exact Or.inr ⟨by decide, by decide⟩) | (show _ < _; decide) | (show _ ≤ _; decide))
local macro_rules | `(tactic| walk_at "at") => `(tactic| first | rfl | (refine atI_intV ?_ ?_ <;> omega) | assumption)
local macro_rules | `(tactic| walk_at "s1") => `(tactic| first
  | refine ⟨_, rfl, ?_⟩ | refine ⟨_, _, rfl, rfl, ?_⟩ | refine ⟨rfl, ?_⟩
  | refine ⟨_, _, _, _, rfl, rfl, by walk_at "sq", by walk_at "at", ?_⟩
  | refine Or.inl ⟨_, rfl, ?_⟩
  | refine ⟨_, _, rfl, Or.inl (by walk_at "sq"), ?_⟩
  | refine And.intro (by walk_at "sd") ?_)
local macro_rules | `(tactic| walk_at "s") => `(tactic| repeat walk_at "s1")

theorem while_k {c : TT} {tb : TS} {D : Ends} {σ : L2.St} {H : Hp} (E : L2.St → Hp → Prop) (hE : ∀ σ H, E σ H → D.nx σ H) (body : (∀ σ H, E σ H → D.nx σ H) → tWhile c tb D σ H) : tWhile c tb D σ H := body hE
/-- the flash at f -/
def FlS (K : PySem.W.Frag) (C : Addr) (H : Hp) (f dx l : Addr) (ps : List (List Nat)) (p : Option Nat) : Prop := H f = some (.ins C dx (flF l (lV p))) ∧ PgK K H l ps
theorem FlS.ne {K : PySem.W.Frag} {C : Addr} {H : Hp} {f dx l : Addr} {ps : List (List Nat)} {p : Option Nat} (h : FlS K C H f dx l ps p) : l ≠ f := fun z => by
  obtain ⟨a, xs, b, _⟩ := h
  rw [z, a] at b
  cases b
theorem PgK.same {K : PySem.W.Frag} {H H' : Hp} {l : Addr} {ps : List (List Nat)} (h : PgK K H l ps) (s : Same H H') : PgK K H' l ps := let ⟨xs, a, b⟩ := h; ⟨xs, s _ _ a, b.up s⟩
theorem FlS.up {K : PySem.W.Frag} {C : Addr} {H H' : Hp} {f dx l : Addr} {ps : List (List Nat)} {p : Option Nat} (h : FlS K C H f dx l ps p) (s : Same H H') : FlS K C H' f dx l ps p := ⟨s _ _ h.1, h.2.same s⟩
theorem sqT_butI {K : PySem.W.Frag} {H H1 : Hp} {a f : Addr} {xs : List V} {C dx : Addr} {fs : List (Str × V)} (h : SqT K H a xs) (hp : H f = some (.ins C dx fs)) (k1 : ∀ b, b ≠ f → H1 b = H b) : SqT K H1 a xs := by
  rcases h with h | h
  · have nq : a ≠ f := fun z => by
      subst z
      rcases h with h | ⟨o, h⟩ <;> rw [hp] at h <;> cases h
    rcases h with h | ⟨o, h⟩
    · exact .inl (.inl (by rw [k1 _ nq]; exact h))
    · exact .inl (.inr ⟨o, by rw [k1 _ nq]; exact h⟩)
  · exact .inr h
theorem PgK.butI {K : PySem.W.Frag} {H H1 : Hp} {l f : Addr} {ps : List (List Nat)} {C dx : Addr} {fs : List (Str × V)} (hl : PgK K H l ps) (hp : H f = some (.ins C dx fs)) (k1 : ∀ b, b ≠ f → H1 b = H b) : PgK K H1 l ps := by
  obtain ⟨xs, h1, h2⟩ := hl
  have nlp : l ≠ f := fun z => by rw [z, hp] at h1; cases h1
  exact ⟨xs, by rw [k1 _ nlp]; exact h1, h2.1, fun k ws hw => let ⟨q0, a, b'⟩ := h2.2 k ws hw; ⟨q0, a, sqT_butI b' hp k1⟩⟩
/-- what the power of a flash is spent on: to the end, or until it is lost -/
def spEnds (K : PySem.W.Frag) (C L : Addr) (f dx l : Addr) (H : Hp) (ps : List (List Nat)) (p : Option Nat) (ok : Bool) (Q : VK) (E : XK) : Prop :=
  (ok = true → ∀ H', Bt2 l f H H' → FlS K C H' f dx l ps p → Q .non H') ∧ (ok = false → ∀ dy t H', Bt2 l f H H' → FlS K C H' f dx l ps p → H' dy = some (.xd [("seen", .ref t)]) → SqT K H' t [] → E (.ref L) (some dy) H')
def spWP (K : PySem.W.Frag) (C L : Addr) : Sp := fun vs H Q E => ∃ (f dx l : Addr) (p : Option Nat) (ps : List (List Nat)) (g : Nat) (wt : Addr) (ws : List Nat), vs = [.ref f, .int (g : Int), .ref wt] ∧ FlS K C H f dx l ps p ∧ SqT K H wt (intV ws) ∧ ws.length = 16 ∧ g < 144 ∧ ps.length = 144 ∧ ps[g]? = some blank ∧
  spEnds K C L f dx l H (ps.set g (wrtW ws (lasts p (cntW ws 16)))) (less p (lasts p (cntW ws 16))) (decide (lasts p (cntW ws 16) = cntW ws 16)) Q E
theorem cntW_succ (ws : List Nat) (i : Nat) : cntW ws (i + 1) = if ws.getD i 0 = 65535 then cntW ws i else i + 1 := by
  unfold cntW
  rw [List.range_succ, List.foldl_append]
  rfl
theorem cntW_le (ws : List Nat) (n : Nat) : cntW ws n ≤ n := by
  induction n with
  | zero => exact Nat.le_refl _
  | succ n ih =>
    rw [cntW_succ]
    split <;> omega
theorem less_less (p : Option Nat) (i : Nat) : less (less p i) 1 = less p (i + 1) := by
  cases p with
  | none => rfl
  | some k => show some (k - i - 1) = some (k - (i + 1)); rw [Nat.sub_sub]
theorem less_zero (p : Option Nat) : less p 0 = p := by cases p <;> rfl
theorem lasts_zero (p : Option Nat) : lasts p 0 = 0 := by
  cases p with
  | none => rfl
  | some k => show min k 0 = 0; omega
theorem lasts_lost {p : Option Nat} {i c : Nat} (h : less p i = some 0) (e : lasts p i = i) (hc : i < c) : lasts p c = i := by
  match p, h, e with
  | some k, h, e =>
    have h : k - i = 0 := Option.some.inj h
    have e : min k i = i := e
    show min k c = i
    omega
theorem lasts_on {p : Option Nat} {i : Nat} (h : less p i ≠ some 0) (e : lasts p i = i) : lasts p (i + 1) = i + 1 := by
  match p, h, e with
  | none, h, e => rfl
  | some k, h, e =>
    have h : k - i ≠ 0 := fun z => h (congrArg some z)
    have e : min k i = i := e
    show min k (i + 1) = i + 1
    omega
section
variable {P : Program} {w : World} {K : PySem.W.Frag} {mg : Str → Option Value} {base : Heap} {A : Ads}
theorem ok_write_page (T : Txt K mg A) : FnOk P w K mg base (L2N.CX P w) 4 A.a_write_page A.d_write_page ["flash", "page", "words"] (spWP K A.c_Flash A.c_PowerLost) := by
  refine Fun.okN T.F_write_page sc_write_page (fun vs H Q E h => ?_) (fun cdv B outer s H vs Q E hr h => ?_)
  · obtain ⟨f, dx, l, p, ps, g, wt, ws, rfl, _⟩ := h
    rfl
  · obtain ⟨f, dx, l, p, ps, g, wt, ws, rfl, hF, hwt, hw16, hg, hpl, hpg, good, bad⟩ := h
    refine ⟨_, (pss_cons (ps_set (i := 3) sc_write_page.nd rfl (.inl rfl) (pe_callB len_seq (by rfl) T.n_len (by decide +kernel) (pa_cons (pv 2) pa_nil)))
    (pss_cons (ps_while (passes_of rfl) (PW.pt (pw_and (pt_cmpR op_gt (pv 3) pe_int (nomark _)) (pw_and1 (pt_cmpR op_eq (pe_ix ix_tup (pv 2) (pe_op op_sub (pv 3) pe_int) (fun _ _ => rfl)) (pe_glob (v := .int 65535) rfl T.g_BLANK ⟨_, rfl⟩) (nomark _))))) (pss_one (ps_aug (i := 3) sc_write_page.nd rfl (.inl rfl) pe_int ip_sub)))
    (pss_one (ps_for (passes_of rfl) rfl (pi_range1 (by rfl) T.n_range (pa_cons (pv 3) pa_nil)) (pg_name (i := 4) sc_write_page.nd rfl (.inl rfl))
      (pss_cons (ps_expr (pe_call (ok_use_power T) (hr.mono (by omega)) rfl T.g_use_power T.F_use_power.kp T.b_use_power .nil (L2N.passes_call (L2N.takes_of rfl rfl rfl rfl) (fun _ _ _ _ h => h)) (pa_cons (pv 0) pa_nil)))
    (pss_one (ps_asg (pe_op op_catA (pe_callTy call_tupleT (by rfl) T.n_tuple (by decide +kernel) (pa_cons (pe_slice sl_tupA (pv 2) po_none (po_some (pe_op op_add (pv 4) pe_int))) pa_nil)) (pe_slice sl_tupA (pe_glob (v := .ref A.t_BLANK_PAGE) rfl T.g_BLANK_PAGE rfl) (po_some (pe_op op_add (pv 4) pe_int)) po_none)) (pg_sub (pe_fld (pv 0) rfl) (pv 1) set_list)))))))), ?_⟩
    have nlf := hF.ne
    have hil : (intV ws).length = 16 := by rw [intV_len, hw16]
    refine ⟨_, rfl, wt, _, rfl, .inr hwt, ?_⟩
    rw [hil]
    have hc16 := cntW_le ws 16
    refine while_k (fun σ Hc => Hc = H ∧ σ = [some (.ref f), some (.int (g : Int)), some (.ref wt), some (.int ((cntW ws 16 : Nat) : Int)), none]) (fun σ Hc e => ?_) (fun fin => ⟨fun m σ Hc => ∃ k : Nat, σ = [some (.ref f), some (.int (g : Int)), some (.ref wt), some (.int (k : Int)), none] ∧ Hc = H ∧ k ≤ 16 ∧ cntW ws k = cntW ws 16 ∧ m = k, ⟨_, 16, rfl, rfl, Nat.le_refl _, rfl, rfl⟩, fun m σ Hc y => ?_⟩)
    · obtain ⟨rfl, rfl⟩ := e
      generalize cntW ws 16 = c at *
      refine ⟨_, rfl, (c : Int), rfl, by omega, by omega, ?_⟩
      have ps0 : ps.set g (wrtW ws 0) = ps := by
        have : wrtW ws 0 = blank := rfl
        rw [this]
        refine List.ext_getElem? fun j => ?_
        rw [List.getElem?_set]
        by_cases hj : g = j
        · subst hj
          rw [if_pos rfl, if_pos (by omega), hpg]
        · rw [if_neg hj]
      refine for_it (walk_range (lo := 0) (n := c)) (fun i σ Hx => ∃ o4, σ = [some (.ref f), some (.int (g : Int)), some (.ref wt), some (.int (c : Int)), o4] ∧ Bt2 l f Hc Hx ∧ FlS K A.c_Flash Hx f dx l (ps.set g (wrtW ws i)) (less p i) ∧ lasts p i = i) ⟨_, rfl, Bt2.refl, by rw [ps0, less_zero]; exact hF, lasts_zero p⟩ (fun _ _ _ _ _ => trivial) (fun i x σ Hx Hd hi y e => ?_) (fun σ Hx y => ?_)
      · obtain ⟨rfl, ex⟩ := e
        have ex : x = .int (i : Int) := by rw [ex]; exact congrArg V.int (by omega)
        subst ex
        obtain ⟨o4, rfl, bt, hfx, hla⟩ := y
        have hwx : SqT K Hd wt (intV ws) := by
          obtain ⟨xs0, ex0, _⟩ := hF.2
          rcases hwt with h | h
          · have n1 : wt ≠ l := fun z => by
              subst z
              rcases h with h | ⟨o, h⟩ <;> rw [ex0] at h <;> cases h
            have n2 : wt ≠ f := fun z => by
              subst z
              rcases h with h | ⟨o, h⟩ <;> rw [hF.1] at h <;> cases h
            rcases h with h | ⟨o, h⟩
            · exact .inl (.inl (bt _ _ n1 n2 h))
            · exact .inl (.inr ⟨o, bt _ _ n1 n2 h⟩)
          · exact .inr h
        refine ⟨_, rfl, f, dx, l, less p i, rfl, hfx.1, fun hne H1 k1 e1 => ?_, fun he dy t H1 s1 n1 e1 ht => ?_⟩
        · have hl1 := hfx.2.butI hfx.1 k1
          have hw1 := sqT_butI hwx hfx.1 k1
          rw [less_less] at e1
          have bt1 : Bt2 l f Hd H1 := fun b o _ h2 h => by rw [k1 _ h2]; exact h
          unfold tNoPart
          refine ⟨_, rfl, _, rfl, _, _, rfl, rfl, _, rfl, slA_of hw1 fun t1 G1 s1 ht1 => ⟨t1, _, rfl, ht1, ?_⟩⟩
          have ht1 : SqT K G1 t1 (intV (ws.take (i + 1))) := by
            have e : cutV (intV ws) none (some ((i : Int) + 1)) = intV (ws.take (i + 1)) := by
              rw [show (i : Int) + 1 = ((i + 1 : Nat) : Int) by omega, cutV_hi]
              unfold intV
              rw [List.map_take]
            rw [← e]
            exact ht1
          refine ⟨_, rfl, _, _, rfl, rfl, _, rfl, slA_of (q_blank T) fun t3 G3 s3 ht3 => ?_⟩
          have ht3 : SqT K G3 t3 (intV (List.replicate (16 - (i + 1)) 65535)) := by
            have e : cutV (intV blank) (some ((i : Int) + 1)) none = intV (List.replicate (16 - (i + 1)) 65535) := by
              rw [show (i : Int) + 1 = ((i + 1 : Nat) : Int) by omega, cutV_lo]
              unfold intV blank
              rw [← List.map_drop, List.drop_replicate]
            rw [← e]
            exact ht3
          refine catA_of (sqT_up ht1 s3) ht3 (by rw [intV_len, intV_len, List.length_take, List.length_replicate]; omega) fun t4 G4 s4 ht4 => ?_
          have ht4 : SqT K G4 t4 (intV (wrtW ws (i + 1))) := by
            unfold wrtW
            rw [intV_app]
            exact ht4
          have s14 := s1.trans (s3.trans s4)
          have hf4 := s14 _ _ e1
          obtain ⟨xs, el, ho⟩ := hl1
          have el4 := s14 _ _ el
          have hxl : xs.length = 144 := by rw [ho.1, List.length_set, hpl]
          have hix : ixN xs.length (g : Int) = some g := by
            unfold ixN
            rw [if_pos (by omega), if_pos (by omega)]
            exact congrArg some (by omega)
          refine ⟨_, rfl, f, A.c_Flash, dx, _, _, rfl, hf4, T.cl_Flash, T.na_Flash_pages, rfl, ?_⟩
          refine ⟨_, rfl, l, xs, _, _, rfl, rfl, el4, hix, ?_⟩
          refine ⟨_, rfl, bt.trans (bt1.trans ((Bt2.of s14).trans Bt2.putL)), ⟨?_, _, upd_same, ?_⟩, lasts_on hne hla⟩
          · rw [upd_ne nlf.symm]
            exact hf4
          · have := (ho.up s14).put el4 ht4 (zs := xs.set g (.ref t4)) (j := g)
            rw [List.set_set] at this
            exact this
        · have hlc := lasts_lost he hla hi
          rw [hlc] at bad
          refine bad (decide_eq_false (by omega)) dy t H1 (bt.trans (Bt2.of s1)) (hfx.up s1) e1 ht
      · obtain ⟨o4, rfl, bt, hfx, hla⟩ := y
        rw [hla] at good
        exact good (decide_eq_true rfl) Hx bt hfx
    · obtain ⟨_, rfl, rfl, hk, hcc, rfl⟩ := y
      refine ⟨_, rfl, _, _, rfl, rfl, _, rfl, ?_⟩
      by_cases hz : m = 0
      · subst hz
        refine ifF rfl ?_
        refine fin _ _ ⟨rfl, ?_⟩
        rw [← hcc]
        rfl
      obtain ⟨j, rfl⟩ : ∃ j, m = j + 1 := ⟨m - 1, by omega⟩
      refine ifT (decide_eq_true (by omega)) ?_
      have hat : atI (intV ws) (((j + 1 : Nat) : Int) - 1) = some (.int ((ws.getD j 0 : Nat) : Int)) := by
        rw [show ((j + 1 : Nat) : Int) - 1 = (j : Int) by omega]
        exact atI_nat (intV_at (by omega))
      rw [cntW_succ] at hcc
      refine ⟨_, rfl, _, rfl, _, _, rfl, rfl, wt, _, _, _, rfl, rfl, hwt, hat, rfl, _, rfl, ?_⟩
      by_cases hx : ws.getD j 0 = 65535
      · rw [if_pos hx] at hcc
        refine ifT (decide_eq_true (by rw [hx]; rfl)) ?_
        refine ⟨fun σ' H' => ∃ k : Nat, σ' = [some (.ref f), some (.int (g : Int)), some (.ref wt), some (.int (k : Int)), none] ∧ H' = Hc ∧ k ≤ 16 ∧ cntW ws k = cntW ws 16 ∧ k = j, fun σ' H' ⟨k, a, b, c, d, e⟩ => ⟨j, by omega, k, a, b, c, d, e.symm⟩, ?_⟩
        refine ⟨_, rfl, _, _, rfl, rfl, j, ?_, rfl, by omega, hcc, rfl⟩
        exact congrArg (fun z : Int => [some (V.ref f), some (V.int (g : Int)), some (V.ref wt), some (V.int z), none]) (show ((j + 1 : Nat) : Int) - 1 = (j : Int) by omega)
      · rw [if_neg hx] at hcc
        refine ifF (decide_eq_false (vint (by omega))) ?_
        refine fin _ _ ⟨rfl, ?_⟩
        rw [← hcc]
end
end R1

namespace R1
open PySem PySem.Spec PyProof.Rows L2 RK
local macro_rules | `(tactic| walk_at "sq") => `(tactic| first
  | exact SqL.of upd_same | exact upd_same | exact SqL.of (by assumption) | exact SqL.of (by rw [upd_ne (by assumption)]; assumption) | assumption)
local macro_rules | `(tactic| walk_at "sd") => `(tactic| first
  | assumption | omega | (refine Or.inl ⟨?_, ?_⟩ <;> omega) | (show _ ∧ _; constructor <;> omega) | (show _ ≠ _; simp; omega) | (exact Or.inl ⟨by decide, by decide⟩) | (exact Or.inr ⟨by decide, by decide⟩) | (show _ < _; decide) | (show _ ≤ _; decide))
local macro_rules | `(tactic| walk_at "at") => `(tactic| first | rfl | (refine atI_intV ?_ ?_ <;> omega) | assumption)
local macro_rules | `(tactic| walk_at "s1") => `(tactic| first
  | refine ⟨_, rfl, ?_⟩ | refine ⟨_, _, rfl, rfl, ?_⟩ | refine ⟨rfl, ?_⟩
  | refine ⟨_, _, _, _, rfl, rfl, by walk_at "sq", by walk_at "at", ?_⟩
  | refine Or.inl ⟨_, rfl, ?_⟩
  | refine ⟨_, _, rfl, Or.inl (by walk_at "sq"), ?_⟩
  | refine And.intro (by walk_at "sd") ?_)
local macro_rules | `(tactic| walk_at "s") => `(tactic| repeat walk_at "s1")

/-- what a def with a place does: it goes on, or raises the error of its own -/
def orErr (K : PySem.W.Frag) (B : Addr) (nm : String) (v : V) (H : Hp) (E : XK) : Prop := ∀ dy H', Same H H' → H dy = none → H' dy = some (.xd [(nm, v)]) → E (.ref B) (some dy) H'
def spErs (K : PySem.W.Frag) (C L B : Addr) : Sp := fun vs H Q E => ∃ (f dx l : Addr) (p : Option Nat) (ps : List (List Nat)) (v : V) (d : PyData), vs = [.ref f, v] ∧ FlS K C H f dx l ps p ∧ ps.length = 144 ∧ Dp K H v d ∧
  (inD d 0 17 = false → orErr K B "block" v H E) ∧ (∀ b : Nat, v = .int (b : Int) → b < 18 → spEnds K C L f dx l H (eraN ps b (lasts p 8)) (less p (lasts p 8)) (decide (lasts p 8 = 8)) Q E)
/-- the words of pages -/
def spGet (K : PySem.W.Frag) (C B : Addr) (nm : String) (hi : Int) (n : Nat) : Sp := fun vs H Q E => ∃ (f dx l : Addr) (u : V) (ps : List (List Nat)) (v : V) (d : PyData), vs = [.ref f, v] ∧ H f = some (.ins C dx (flF l u)) ∧ PgK K H l ps ∧ ps.length = 144 ∧ (∀ x ∈ ps, x.length ≤ 16) ∧ Dp K H v d ∧
  (inD d 0 hi = false → orErr K B nm v H E) ∧ (∀ b : Nat, v = .int (b : Int) → (b : Int) ≤ hi → ∀ H' t, Same H H' → SqT K H' t (intV ((ps.drop (n * b)).take n).flatten) → Q (.ref t) H')
theorem inD_true {d : PyData} {lo hi : Int} (h : inD d lo hi = true) : ∃ i : Int, d = .int i ∧ lo ≤ i ∧ i ≤ hi := by
  match d, h with
  | .int i, h => exact ⟨i, rfl, of_decide_eq_true h⟩
theorem dp_int {K : PySem.W.Frag} {H : Hp} {v : V} {i : Int} (h : Dp K H v (.int i)) : v = .int i := by
  cases h
  rfl
theorem inD_nat {K : PySem.W.Frag} {H : Hp} {v : V} {d : PyData} {hi : Int} (hd : Dp K H v d) (h : inD d 0 hi = true) : ∃ b : Nat, v = .int (b : Int) ∧ (b : Int) ≤ hi := by
  obtain ⟨i, rfl, h0, h1⟩ := inD_true h
  refine ⟨i.toNat, ?_, by omega⟩
  rw [dp_int hd]
  exact congrArg V.int (by omega)
section
variable {P : Program} {w : World} {K : PySem.W.Frag} {mg : Str → Option Value} {base : Heap} {A : Ads}
theorem ok_Flash_erase (T : Txt K mg A) : FnOk P w K mg base (L2N.CX P w) 5 A.a_Flash_erase A.d_Flash_erase ["self", "block"] (spErs K A.c_Flash A.c_PowerLost A.c_NoBlock) := by
  refine Fun.okN T.F_Flash_erase sc_Flash_erase (fun vs H Q E h => ?_) (fun cdv B outer s H vs Q E hr h => ?_)
  · obtain ⟨f, dx, l, p, ps, v, d, rfl, _⟩ := h
    rfl
  · obtain ⟨f, dx, l, p, ps, v, d, rfl, hF, hpl, hd, bad, good⟩ := h
    refine ⟨_, (pss_cons (ps_expr (pe_call (ok_check_block T) (hr.mono (by omega)) rfl T.g_check_block T.F_check_block.kp T.b_check_block .nil (L2N.passes_call (L2N.takes_of rfl rfl rfl rfl) (fun _ _ _ _ h => h)) (pa_cons (pv 1) pa_nil)))
    (pss_one (ps_for (passes_of rfl) rfl (pi_range2 (by rfl) T.n_range (pa_cons (pe_op op_mul (pv 1) (pe_glob (v := .int 8) rfl T.g_BLOCK_PAGES ⟨_, rfl⟩)) (pa_cons (pe_op op_mul (pe_op op_add (pv 1) pe_int) (pe_glob (v := .int 8) rfl T.g_BLOCK_PAGES ⟨_, rfl⟩)) pa_nil))) (pg_name (i := 2) sc_Flash_erase.nd rfl (.inl rfl))
      (pss_cons (ps_expr (pe_call (ok_use_power T) (hr.mono (by omega)) rfl T.g_use_power T.F_use_power.kp T.b_use_power .nil (L2N.passes_call (L2N.takes_of rfl rfl rfl rfl) (fun _ _ _ _ h => h)) (pa_cons (pv 0) pa_nil)))
    (pss_one (ps_asg (pe_glob (v := .ref A.t_BLANK_PAGE) rfl T.g_BLANK_PAGE rfl) (pg_sub (pe_fld (pv 0) rfl) (pv 2) set_list))))))), ?_⟩
    have nlf := hF.ne
    refine ⟨_, rfl, v, d, rfl, hd, ?_⟩
    by_cases hin : inD d 0 17 = true
    · refine .inl ⟨hin, ?_⟩
      obtain ⟨b, rfl, hb⟩ := inD_nat hd hin
      obtain ⟨gd, bd⟩ := good b rfl (by omega)
      clear good bad
      refine ⟨_, rfl, _, _, rfl, rfl, .inr ⟨by decide, by decide⟩, _, rfl, _, _, rfl, rfl, _, _, rfl, rfl, .inr ⟨by decide, by decide⟩, (b : Int) * 8, ((b : Int) + 1) * 8, rfl, ⟨by omega, by omega, by omega, by omega⟩, ?_⟩
      rw [show (((b : Int) + 1) * 8 - (b : Int) * 8).toNat = 8 by omega]
      have eraS : ∀ i, eraN ps b (i + 1) = (eraN ps b i).set (8 * b + i) blank := fun i => by
        unfold eraN
        rw [List.range_succ, List.foldl_append]
        rfl
      have eraL : ∀ i, (eraN ps b i).length = 144 := fun i => by
        induction i with
        | zero => exact hpl
        | succ i ih => rw [eraS, List.length_set]; exact ih
      refine for_it (walk_range (lo := (b : Int) * 8) (n := 8)) (fun i σ Hx => ∃ o2, σ = [some (.ref f), some (.int (b : Int)), o2] ∧ Bt2 l f H Hx ∧ FlS K A.c_Flash Hx f dx l (eraN ps b i) (less p i) ∧ lasts p i = i) ⟨_, rfl, Bt2.refl, by rw [less_zero]; exact hF, lasts_zero p⟩ (fun _ _ _ _ _ => trivial) (fun i x σ Hx Hd hi y e => ?_) (fun σ Hx y => ?_)
      · obtain ⟨rfl, ex⟩ := e
        have ex : x = .int ((8 * b + i : Nat) : Int) := by rw [ex]; exact congrArg V.int (by omega)
        subst ex
        obtain ⟨o2, rfl, bt, hfx, hla⟩ := y
        refine ⟨_, rfl, f, dx, l, less p i, rfl, hfx.1, fun hne H1 k1 e1 => ?_, fun he dy t H1 s1 n1 e1 ht => ?_⟩
        · have hl1 := hfx.2.butI hfx.1 k1
          rw [less_less] at e1
          have bt1 : Bt2 l f Hd H1 := fun b o _ h2 h => by rw [k1 _ h2]; exact h
          obtain ⟨xs, el, ho⟩ := hl1
          have hxl : xs.length = 144 := by rw [ho.1, eraL]
          have hix : ixN xs.length ((8 * b + i : Nat) : Int) = some (8 * b + i) := by
            unfold ixN
            rw [if_pos (by omega), if_pos (by omega)]
            exact congrArg some (by omega)
          refine ⟨_, rfl, f, A.c_Flash, dx, _, _, rfl, e1, T.cl_Flash, T.na_Flash_pages, rfl, ?_⟩
          refine ⟨_, rfl, l, xs, _, _, rfl, rfl, el, hix, ?_⟩
          refine ⟨_, rfl, bt.trans (bt1.trans Bt2.putL), ⟨?_, _, upd_same, ?_⟩, lasts_on hne hla⟩
          · rw [upd_ne nlf.symm]
            exact e1
          · rw [eraS]
            exact ho.put el (q_blank T)
        · have hlc := lasts_lost he hla hi
          rw [hlc] at bd
          exact bd (decide_eq_false (by omega)) dy t H1 (bt.trans (Bt2.of s1)) (hfx.up s1) e1 ht
      · obtain ⟨o2, rfl, bt, hfx, hla⟩ := y
        rw [hla] at gd
        exact gd (decide_eq_true rfl) Hx bt hfx
    · have hin : inD d 0 17 = false := by cases h : inD d 0 17 <;> first | rfl | exact absurd h hin
      exact .inr ⟨hin, fun dy H' s n e => bad hin dy H' s n e⟩
theorem ok_Flash_block_words (T : Txt K mg A) : FnOk P w K mg base (L2N.CX P w) 5 A.a_Flash_block_words A.d_Flash_block_words ["self", "block"] (spGet K A.c_Flash A.c_NoBlock "block" 17 8) := by
  refine Fun.okN T.F_Flash_block_words sc_Flash_block_words (fun vs H Q E h => ?_) (fun cdv B outer s H vs Q E hr h => ?_)
  · obtain ⟨f, dx, l, u, ps, v, d, rfl, _⟩ := h
    rfl
  · obtain ⟨f, dx, l, u, ps, v, d, rfl, hf, hl, hpl, h16, hd, bad, good⟩ := h
    refine ⟨_, (pss_cons (ps_expr (pe_call (ok_check_block T) (hr.mono (by omega)) rfl T.g_check_block T.F_check_block.kp T.b_check_block .nil (L2N.passes_call (L2N.takes_of rfl rfl rfl rfl) (fun _ _ _ _ h => h)) (pa_cons (pv 1) pa_nil)))
    (pss_one (ps_ret (pe_call (ok_words_of_pages T) (hr.mono (by omega)) rfl T.g_words_of_pages T.F_words_of_pages.kp T.b_words_of_pages .nil pass0 (pa_cons (pv 0) (pa_cons (pe_op op_mul (pv 1) (pe_glob (v := .int 8) rfl T.g_BLOCK_PAGES ⟨_, rfl⟩)) (pa_cons (pe_glob (v := .int 8) rfl T.g_BLOCK_PAGES ⟨_, rfl⟩) pa_nil))))))), ?_⟩
    refine ⟨_, rfl, v, d, rfl, hd, ?_⟩
    by_cases hin : inD d 0 17 = true
    · refine .inl ⟨hin, ?_⟩
      obtain ⟨b, rfl, hb⟩ := inD_nat hd hin
      refine ⟨_, rfl, _, rfl, _, _, rfl, rfl, .inr ⟨by decide, by decide⟩, f, dx, l, u, ps, 8 * b, 8, ?_, hf, hl, by omega, by omega, h16, fun H' t s ht => ?_⟩
      · exact congrArg (fun z : Int => [V.ref f, V.int z, V.int 8]) (show (b : Int) * 8 = ((8 * b : Nat) : Int) by omega)
      · exact good b rfl hb H' t s ht
    · have hin : inD d 0 17 = false := by cases h : inD d 0 17 <;> first | rfl | exact absurd h hin
      exact .inr ⟨hin, fun dy H' s n e => bad hin dy H' s n e⟩
theorem ok_Flash_slot_words (T : Txt K mg A) : FnOk P w K mg base (L2N.CX P w) 5 A.a_Flash_slot_words A.d_Flash_slot_words ["self", "slot"] (spGet K A.c_Flash A.c_NoSlot "slot" 1 64) := by
  refine Fun.okN T.F_Flash_slot_words sc_Flash_slot_words (fun vs H Q E h => ?_) (fun cdv B outer s H vs Q E hr h => ?_)
  · obtain ⟨f, dx, l, u, ps, v, d, rfl, _⟩ := h
    rfl
  · obtain ⟨f, dx, l, u, ps, v, d, rfl, hf, hl, hpl, h16, hd, bad, good⟩ := h
    refine ⟨_, (pss_cons (ps_if (pt_not (pt_val (pe_call (ok_is_between T) (hr.mono (by omega)) rfl T.g_is_between T.F_is_between.kp T.b_is_between .nil pass0 (pa_cons (pv 1) (pa_cons pe_int (pa_cons pe_int pa_nil)))))) (pss_one (L2N.ps_raise rfl (L2N.takes_of rfl rfl rfl rfl) (pmk_errN T.x_NoSlot (ok_NoSlot_init T) (hr.mono (by omega)) (pa_cons (pv 1) pa_nil)))) pss_nil)
    (pss_one (ps_ret (pe_call (ok_words_of_pages T) (hr.mono (by omega)) rfl T.g_words_of_pages T.F_words_of_pages.kp T.b_words_of_pages .nil pass0 (pa_cons (pv 0) (pa_cons (pe_op op_mul (pv 1) (pe_glob (v := .int 64) rfl T.g_SLOT_PAGES ⟨_, rfl⟩)) (pa_cons (pe_glob (v := .int 64) rfl T.g_SLOT_PAGES ⟨_, rfl⟩) pa_nil))))))), ?_⟩
    refine ⟨_, rfl, v, d, 0, 1, rfl, hd, ?_⟩
    by_cases hin : inD d 0 1 = true
    · rw [hin]
      obtain ⟨b, rfl, hb⟩ := inD_nat hd hin
      refine ⟨_, rfl, ifF rfl ?_⟩
      refine ⟨_, rfl, _, rfl, _, _, rfl, rfl, .inr ⟨by decide, by decide⟩, f, dx, l, u, ps, 64 * b, 64, ?_, hf, hl, by omega, by omega, h16, fun H' t s ht => ?_⟩
      · exact congrArg (fun z : Int => [V.ref f, V.int z, V.int 64]) (show (b : Int) * 64 = ((64 * b : Nat) : Int) by omega)
      · exact good b rfl hb H' t s ht
    · have hin : inD d 0 1 = false := by cases h : inD d 0 1 <;> first | rfl | exact absurd h hin
      rw [hin]
      refine ⟨_, rfl, ifT rfl ⟨_, rfl, keep_end fun dy H4 s4 n4 e4 => bad hin dy H4 s4 n4 e4⟩⟩
/-- one page -/
def spGi (K : PySem.W.Frag) (C B : Addr) : Sp := fun vs H Q E => ∃ (f dx l : Addr) (u : V) (ps : List (List Nat)) (v : V) (d : PyData), vs = [.ref f, v] ∧ H f = some (.ins C dx (flF l u)) ∧ PgK K H l ps ∧ ps.length = 144 ∧ Dp K H v d ∧
  (inD d 0 143 = false → orErr K B "page" v H E) ∧ (∀ b : Nat, v = .int (b : Int) → b < 144 → ∀ t, SqT K H t (intV (ps.getD b [])) → Q (.ref t) H)
theorem ok_Flash_getitem (T : Txt K mg A) : FnOk P w K mg base (L2N.CX P w) 5 A.a_Flash_getitem A.d_Flash_getitem ["self", "at"] (spGi K A.c_Flash A.c_NoPage) := by
  refine Fun.okN T.F_Flash_getitem sc_Flash_getitem (fun vs H Q E h => ?_) (fun cdv B outer s H vs Q E hr h => ?_)
  · obtain ⟨f, dx, l, u, ps, v, d, rfl, _⟩ := h
    rfl
  · obtain ⟨f, dx, l, u, ps, v, d, rfl, hf, hl, hpl, hd, bad, good⟩ := h
    refine ⟨_, (pss_cons (ps_expr (pe_call (ok_check_page T) (hr.mono (by omega)) rfl T.g_check_page T.F_check_page.kp T.b_check_page .nil (L2N.passes_call (L2N.takes_of rfl rfl rfl rfl) (fun _ _ _ _ h => h)) (pa_cons (pv 1) pa_nil)))
    (pss_one (ps_ret (pe_ix ix_list (pe_fld (pv 0) rfl) (pv 1) (fun _ _ => rfl))))), ?_⟩
    refine ⟨_, rfl, v, d, rfl, hd, ?_⟩
    by_cases hin : inD d 0 143 = true
    · refine .inl ⟨hin, ?_⟩
      obtain ⟨b, rfl, hb⟩ := inD_nat hd hin
      obtain ⟨xs, el, ho⟩ := hl
      have hpb : ps[b]? = some (ps.getD b []) := by
        rw [List.getD_eq_getElem?_getD, List.getElem?_eq_getElem (by omega)]
        rfl
      obtain ⟨t, ht1, ht2⟩ := ho.2 _ _ hpb
      refine ⟨_, rfl, f, A.c_Flash, dx, _, _, rfl, hf, T.cl_Flash, T.na_Flash_pages, rfl, ?_⟩
      exact ⟨_, rfl, l, xs, (b : Int), _, rfl, rfl, SqL.of el, atI_nat ht1, good b rfl (by omega) t ht2⟩
    · have hin : inD d 0 143 = false := by cases h : inD d 0 143 <;> first | rfl | exact absurd h hin
      exact .inr ⟨hin, fun dy H' s n e => bad hin dy H' s n e⟩
end
end R1

namespace R1
open PySem PySem.Spec PyProof.Rows L2 RK
local macro_rules | `(tactic| walk_at "sq") => `(tactic| first
  | exact SqL.of upd_same | exact upd_same | exact SqL.of (by assumption) | exact SqL.of (by rw [upd_ne (by assumption)]; assumption) | assumption)
local macro_rules | `(tactic| walk_at "sd") => `(tactic| first
  | assumption | omega | (refine Or.inl ⟨?_, ?_⟩ <;> omega) | (show _ ∧ _; constructor <;> omega) | (show _ ≠ _; simp; omega) | (exact Or.inl ⟨by decide, by decide⟩) | (exact Or.inr ⟨by decide, by decide⟩) | (show _ < _; decide) | (show _ ≤ _; decide))
local macro_rules | `(tactic| walk_at "at") => `(tactic| first | rfl | (refine atI_intV ?_ ?_ <;> omega) | assumption)
local macro_rules | `(tactic| walk_at "s1") => `(tactic| first
  | refine ⟨_, rfl, ?_⟩ | refine ⟨_, _, rfl, rfl, ?_⟩ | refine ⟨rfl, ?_⟩
  | refine ⟨_, _, _, _, rfl, rfl, by walk_at "sq", by walk_at "at", ?_⟩
  | refine Or.inl ⟨_, rfl, ?_⟩
  | refine ⟨_, _, rfl, Or.inl (by walk_at "sq"), ?_⟩
  | refine And.intro (by walk_at "sd") ?_)
local macro_rules | `(tactic| walk_at "s") => `(tactic| repeat walk_at "s1")

/-- a comprehension with one test over the pairs of an enumerated list -/
theorem lc_enumL {K : PySem.W.Frag} {a : Addr} {xs : List V} {tt : TT} {te : TE} {σ : L2.St} {H1 : Hp} {D : Addr} {Qd : Hp → Prop} {k k1 : Nat} (hk : k ≠ k1) (c : Nat → Bool) (f : Nat → V) (hD : H1 D = none) (ha : SqL K H1 a xs) (hn : xs.length ≤ 1000000)
    (ht : ∀ i x H, i < xs.length → Same H1 H → xs[i]? = some x → ∀ Q : Bool → Hp → Prop, Q (c i) H → tt ((((σ.set k1 none).set k none).set k (some (.int (i : Nat)))).set k1 (some x)) H Q)
    (hs : ∀ i x H, i < xs.length → c i = true → Same H1 H → xs[i]? = some x → ∀ Q : VK, (∀ H3, Same H H3 → Q (f i) H3) → te ((((σ.set k1 none).set k none).set k (some (.int (i : Nat)))).set k1 (some x)) H Q)
    (hd : ∀ H, Same H1 H → H D = some (.lst (((List.range xs.length).filter c).map f)) → Qd H) :
    ∃ W : Nat → Nat → Hp → Prop, (∃ m, W 0 m (upd H1 D (.lst []))) ∧ ∀ i m H, W i m H →
      ((Ite K a).stop i H ∧ Qd H) ∨ ((Ite K a).go i H ∧ ∃ Nx : Hp → Prop, (∀ H', Nx H' → ∃ m', m' < m ∧ W (i + 1) m' H') ∧ ∀ x H', (Ite K a).yld i H x H' → gTup K 2 (gCons (gName k) (gCons (gName k1) gNil)) x (wipe σ [k, k1]) H' fun σ2 H2 => wipe σ2 [k, k1] = wipe σ [k, k1] ∧ tt σ2 H2 fun b H3 =>
        if b = true then te σ2 H3 fun y H4 => ∃ acc, H4 D = some (.lst acc) ∧ acc.length < sizeLine ∧ Nx (upd H4 D (.lst (acc ++ [y]))) else Nx H3) := by
  refine lc_it (walk_enum (K := K) (a := a) (xs := xs)) (fun i H => Same H1 H ∧ H D = some (.lst (((List.range i).filter c).map f))) ⟨same_new hD, upd_same⟩ (fun i H _ h => sqL_up ha h.1) (fun i x H H' hi hp y => ?_) fun H h => hd H h.1 h.2
  obtain ⟨sm, e⟩ := hp
  obtain ⟨T, u, z, rfl, nT, rfl, hu, hz⟩ := y
  cases hu
  have sT := same_new (o := .tup [.int (i : Nat), z]) nT
  refine ⟨T, _, rfl, SqT.of upd_same, rfl, _, _, rfl, _, _, rfl, rfl, ?_, ?_⟩
  · show ((((((σ.set k1 none).set k none).set k (some (.int (i : Nat)))).set k1 (some z)).set k1 none).set k none) = (σ.set k1 none).set k none
    rw [List.set_set, List.set_set, List.set_comm _ _ hk, List.set_set, List.set_set]
  show tt ((((σ.set k1 none).set k none).set k (some (.int (i : Nat)))).set k1 (some z)) _ _
  refine ht i z _ hi (sm.trans sT) hz _ ?_
  by_cases hc : c i = true
  · rw [if_pos hc]
    refine hs i z _ hi hc (sm.trans sT) hz _ fun H3 s3 => ?_
    have e3 := s3 _ _ (sT _ _ e)
    refine ⟨_, e3, ?_, same_mut (sm.trans (sT.trans s3)) hD, ?_⟩
    · rw [List.length_map]
      refine Nat.lt_of_le_of_lt (List.length_filter_le _ _) ?_
      rw [List.length_range]
      exact Nat.lt_of_lt_of_le (Nat.lt_of_lt_of_le hi hn) (by decide)
    · rw [upd_same, List.range_succ, List.filter_append, List.map_append]
      rw [show [i].filter c = [i] by simp only [List.filter, hc]]
      rfl
  · rw [if_neg hc]
    refine ⟨sm.trans sT, ?_⟩
    rw [sT _ _ e, List.range_succ, List.filter_append, List.map_append]
    rw [show [i].filter c = [] by simp only [List.filter, hc]]
    rw [List.map_nil, List.append_nil]
/-- the first page that is written already -/
def fndW (ps : List (List Nat)) (rs : List (Nat × List Nat)) : Option (Nat × List Nat) := rs.find? fun r => decide (ps.getD r.1 [] ≠ blank)
def spSi (K : PySem.W.Frag) (C L B1 B2 B3 : Addr) : Sp := fun vs H Q E => ∃ (f dx l : Addr) (p : Option Nat) (ps : List (List Nat)) (v : V) (d : PyData) (wt : Addr) (ws : List Nat), vs = [.ref f, v, .ref wt] ∧ FlS K C H f dx l ps p ∧ ps.length = 144 ∧ Dp K H v d ∧ SqT K H wt (intV ws) ∧ ws.length ≤ 100 ∧
  (inD d 0 143 = false → orErr K B1 "page" v H E) ∧ (∀ b : Nat, v = .int (b : Int) → b < 144 → (ws.length ≠ 16 → orErr K B2 "length" (.int (ws.length : Nat)) H E) ∧ (ws.length = 16 → ps.getD b [] ≠ blank → orErr K B3 "page" (.int (b : Int)) H E) ∧
    (ws.length = 16 → ps.getD b [] = blank → spEnds K C L f dx l H (ps.set b (wrtW ws (lasts p (cntW ws 16)))) (less p (lasts p (cntW ws 16))) (decide (lasts p (cntW ws 16) = cntW ws 16)) Q E))
def spPut (K : PySem.W.Frag) (C L B1 B3 : Addr) : Sp := fun vs H Q E => ∃ (f dx l : Addr) (p : Option Nat) (ps : List (List Nat)) (v : V) (d : PyData) (wt : Addr) (ws : List Nat), vs = [.ref f, v, .ref wt] ∧ FlS K C H f dx l ps p ∧ ps.length = 144 ∧ Dp K H v d ∧ SqT K H wt (intV ws) ∧ ws.length ≤ 100 ∧
  (inD d 0 143 = false → orErr K B1 "page" v H E) ∧ (∀ b : Nat, v = .int (b : Int) → b < 144 → (144 < b + cntR ws → orErr K B1 "page" (.int 144) H E) ∧
    (b + cntR ws ≤ 144 → (∀ r, fndW ps (rowsN b ws (cntR ws)) = some r → orErr K B3 "page" (.int (r.1 : Int)) H E) ∧
      (fndW ps (rowsN b ws (cntR ws)) = none → spEnds K C L f dx l H (fillN (rowsN b ws (cntR ws)) ps p).1 (fillN (rowsN b ws (cntR ws)) ps p).2.1 (fillN (rowsN b ws (cntR ws)) ps p).2.2 Q E)))
theorem getD_at {ps : List (List Nat)} {b : Nat} (h : b < ps.length) : ps[b]? = some (ps.getD b []) := by
  rw [List.getD_eq_getElem?_getD, List.getElem?_eq_getElem h]
  rfl
section
variable {P : Program} {w : World} {K : PySem.W.Frag} {mg : Str → Option Value} {base : Heap} {A : Ads}
theorem ok_Flash_setitem (T : Txt K mg A) : FnOk P w K mg base (L2N.CX P w) 6 A.a_Flash_setitem A.d_Flash_setitem ["self", "at", "worth"] (spSi K A.c_Flash A.c_PowerLost A.c_NoPage A.c_TooLong A.c_Written) := by
  refine Fun.okN T.F_Flash_setitem sc_Flash_setitem (fun vs H Q E h => ?_) (fun cdv B outer s H vs Q E hr h => ?_)
  · obtain ⟨f, dx, l, p, ps, v, d, wt, ws, rfl, _⟩ := h
    rfl
  · obtain ⟨f, dx, l, p, ps, v, d, wt, ws, rfl, hF, hpl, hd, hwt, hwl, bad, good⟩ := h
    refine ⟨_, (pss_cons (ps_expr (pe_call (ok_check_page T) (hr.mono (by omega)) rfl T.g_check_page T.F_check_page.kp T.b_check_page .nil (L2N.passes_call (L2N.takes_of rfl rfl rfl rfl) (fun _ _ _ _ h => h)) (pa_cons (pv 1) pa_nil)))
    (pss_cons (ps_if (pt_cmpR op_ne (pe_callB len_seq (by rfl) T.n_len (by decide +kernel) (pa_cons (pv 2) pa_nil)) (pe_glob (v := .int 16) rfl T.g_PAGE_WORDS ⟨_, rfl⟩) (nomark _)) (pss_one (L2N.ps_raise rfl (L2N.takes_of rfl rfl rfl rfl) (pmk_errN T.x_TooLong (ok_TooLong_init T) (hr.mono (by omega)) (pa_cons (pe_callB len_seq (by rfl) T.n_len (by decide +kernel) (pa_cons (pv 2) pa_nil)) pa_nil)))) pss_nil)
    (pss_cons (ps_if (pt_cmpR (op_neD hr.units) (pe_ix ix_list (pe_fld (pv 0) rfl) (pv 1) (fun _ _ => rfl)) (pe_glob (v := .ref A.t_BLANK_PAGE) rfl T.g_BLANK_PAGE rfl) (nomark _)) (pss_one (L2N.ps_raise rfl (L2N.takes_of rfl rfl rfl rfl) (pmk_errN T.x_Written (ok_Written_init T) (hr.mono (by omega)) (pa_cons (pv 1) pa_nil)))) pss_nil)
    (pss_one (ps_expr (pe_call (ok_write_page T) (hr.mono (by omega)) rfl T.g_write_page T.F_write_page.kp T.b_write_page .nil (L2N.passes_call (L2N.takes_of rfl rfl rfl rfl) (fun _ _ _ _ h => h)) (pa_cons (pv 0) (pa_cons (pv 1) (pa_cons (pv 2) pa_nil))))))))), ?_⟩
    refine ⟨_, rfl, v, d, rfl, hd, ?_⟩
    by_cases hin : inD d 0 143 = true
    · refine .inl ⟨hin, ?_⟩
      obtain ⟨b, rfl, hb⟩ := inD_nat hd hin
      obtain ⟨g1, g2, g3⟩ := good b rfl (by omega)
      clear good bad
      refine ⟨_, rfl, wt, _, rfl, .inr hwt, ?_⟩
      rw [intV_len]
      refine ⟨rfl, _, rfl, ?_⟩
      by_cases h16 : ws.length = 16
      · refine ifF (by rw [h16]; rfl) ?_
        obtain ⟨xs, el, ho⟩ := id hF.2
        obtain ⟨t, ht1, ht2⟩ := ho.2 _ _ (getD_at (b := b) (by omega))
        refine ⟨_, rfl, f, A.c_Flash, dx, _, _, rfl, hF.1, T.cl_Flash, T.na_Flash_pages, rfl, ?_⟩
        refine ⟨_, rfl, l, xs, (b : Int), _, rfl, rfl, SqL.of el, atI_nat ht1, ?_⟩
        refine ⟨_, _, dp_ints ht2, dp_ints (q_blank T), ints_shaped _, ints_shaped _, ?_⟩
        rw [eqv_ints]
        by_cases hbl : ps.getD b [] = blank
        · refine ⟨_, rfl, ifF (c := !decide (ps.getD b [] = blank)) (by rw [decide_eq_true hbl]; rfl) ?_⟩
          exact ⟨_, rfl, _, rfl, _, rfl, f, dx, l, p, ps, b, wt, ws, rfl, hF, hwt, h16, by omega, hpl, by rw [← hbl]; exact getD_at (by omega), g3 h16 hbl⟩
        · refine ⟨_, rfl, ifT (c := !decide (ps.getD b [] = blank)) (by rw [decide_eq_false hbl]; rfl) ?_⟩
          exact ⟨_, rfl, keep_end fun dy H4 s4 n4 e4 => g2 h16 hbl dy H4 s4 n4 e4⟩
      · refine ifT (by show (!decide (V.int (ws.length : Int) = V.int 16)) = true; rw [decide_eq_false (vint (by omega))]; rfl) ?_
        refine ⟨_, rfl, wt, _, rfl, .inr hwt, ?_⟩
        rw [intV_len]
        exact keep_end fun dy H4 s4 n4 e4 => g1 h16 dy H4 s4 n4 e4
    · have hin : inD d 0 143 = false := by cases h : inD d 0 143 <;> first | rfl | exact absurd h hin
      exact .inr ⟨hin, fun dy H' s n e => bad hin dy H' s n e⟩
end
end R1

namespace R1
open PySem PySem.Spec PyProof.Rows L2 RK
local macro_rules | `(tactic| walk_at "sq") => `(tactic| first
  | exact SqL.of upd_same | exact upd_same | exact SqL.of (by assumption) | exact SqL.of (by rw [upd_ne (by assumption)]; assumption) | assumption)
local macro_rules | `(tactic| walk_at "sd") => `(tactic| first
  | assumption | omega | (refine Or.inl ⟨?_, ?_⟩ <;> omega) | (show _ ∧ _; constructor <;> omega) | (show _ ≠ _; simp; omega) | (exact Or.inl ⟨by decide, by decide⟩) | (exact Or.inr ⟨by decide, by decide⟩) | (show _ < _; decide) | (show _ ≤ _; decide))
local macro_rules | `(tactic| walk_at "at") => `(tactic| first | rfl | (refine atI_intV ?_ ?_ <;> omega) | assumption)
local macro_rules | `(tactic| walk_at "s1") => `(tactic| first
  | refine ⟨_, rfl, ?_⟩ | refine ⟨_, _, rfl, rfl, ?_⟩ | refine ⟨rfl, ?_⟩
  | refine ⟨_, _, _, _, rfl, rfl, by walk_at "sq", by walk_at "at", ?_⟩
  | refine Or.inl ⟨_, rfl, ?_⟩
  | refine ⟨_, _, rfl, Or.inl (by walk_at "sq"), ?_⟩
  | refine And.intro (by walk_at "sd") ?_)
local macro_rules | `(tactic| walk_at "s") => `(tactic| repeat walk_at "s1")

/-- the places of the rows that hold a word -/
def dueN (ws : List Nat) (n : Nat) : List Nat := (List.range n).filter fun i => decide (rowAt ws i ≠ blank)
theorem rowsN_due (g : Nat) (ws : List Nat) (n : Nat) : rowsN g ws n = (dueN ws n).map fun i => (g + i, rowAt ws i) := rfl
theorem dueN_lt {ws : List Nat} {n i : Nat} (h : i ∈ dueN ws n) : i < n := List.mem_range.1 (List.mem_filter.1 h).1
theorem dueN_pair (ws : List Nat) (n : Nat) : (dueN ws n).Pairwise (· < ·) := List.Pairwise.filter _ List.pairwise_lt_range
theorem bt2_sq {K : PySem.W.Frag} {H H' : Hp} {l f a : Addr} {xs ys : List V} {C dx : Addr} {fs : List (Str × V)} (h : SqT K H a xs) (el : H l = some (.lst ys)) (ef : H f = some (.ins C dx fs)) (bt : Bt2 l f H H') : SqT K H' a xs := by
  rcases h with h | h
  · have n1 : a ≠ l := fun z => by
      subst z
      rcases h with h | ⟨o, h⟩ <;> rw [el] at h <;> cases h
    have n2 : a ≠ f := fun z => by
      subst z
      rcases h with h | ⟨o, h⟩ <;> rw [ef] at h <;> cases h
    rcases h with h | ⟨o, h⟩
    · exact .inl (.inl (bt _ _ n1 n2 h))
    · exact .inl (.inr ⟨o, bt _ _ n1 n2 h⟩)
  · exact .inr h
section
variable {P : Program} {w : World} {K : PySem.W.Frag} {mg : Str → Option Value} {base : Heap} {A : Ads}
theorem ok_Flash_put_in (T : Txt K mg A) : FnOk P w K mg base (L2N.CX P w) 6 A.a_Flash_put_in A.d_Flash_put_in ["self", "page", "words"] (spPut K A.c_Flash A.c_PowerLost A.c_NoPage A.c_Written) := by
  refine Fun.okN T.F_Flash_put_in sc_Flash_put_in (fun vs H Q E h => ?_) (fun cdv B outer s H vs Q E hr h => ?_)
  · obtain ⟨f, dx, l, p, ps, v, d, wt, ws, rfl, _⟩ := h
    rfl
  · obtain ⟨f, dx, l, p, ps, v, d, wt, ws, rfl, hF, hpl, hd, hwt, hwl, bad, good⟩ := h
    refine ⟨_, (pss_cons (ps_expr (pe_call (ok_check_page T) (hr.mono (by omega)) rfl T.g_check_page T.F_check_page.kp T.b_check_page .nil (L2N.passes_call (L2N.takes_of rfl rfl rfl rfl) (fun _ _ _ _ h => h)) (pa_cons (pv 1) pa_nil)))
    (pss_cons (ps_set (i := 3) sc_Flash_put_in.nd rfl (.inl rfl) (pe_call (ok_rows_for_pages T) (hr.mono (by omega)) rfl T.g_rows_for_pages T.F_rows_for_pages.kp T.b_rows_for_pages .nil pass0 (pa_cons (pv 2) pa_nil)))
    (pss_cons (ps_if (pt_cmpR op_gt (pe_op op_add (pv 1) (pe_callB len_seq (by rfl) T.n_len (by decide +kernel) (pa_cons (pv 3) pa_nil))) (pe_glob (v := .int 144) rfl T.g_PAGES ⟨_, rfl⟩) (nomark _)) (pss_one (L2N.ps_raise rfl (L2N.takes_of rfl rfl rfl rfl) (pmk_errN T.x_NoPage (ok_NoPage_init T) (hr.mono (by omega)) (pa_cons (pe_glob (v := .int 144) rfl T.g_PAGES ⟨_, rfl⟩) pa_nil)))) pss_nil)
    (pss_cons (ps_setLc (i := 6) (own := [("number", 4), ("row", 5)]) rfl sc_Flash_put_in.nd rfl rfl (sw_true rfl rfl rfl (by decide +kernel)) (pi_enum (by rfl) T.n_enumerate (pa_cons (pv 3) pa_nil)) (blkOk_by (own := [("number", 4), ("row", 5)]) (N := N_Flash_put_in) (sc := defScope s_Flash_put_in) (by decide +kernel)) (fun _ _ _ _ _ => (show PG _ _ (gTup K 2 (gCons (gName 4) (gCons (gName 5) gNil))) from pg_tup (by rfl) (pgs_cons (pg_name (i := 4) sc_Flash_put_in.nd rfl (Or.inl rfl)) (pgs_cons (pg_name (i := 5) sc_Flash_put_in.nd rfl (Or.inl rfl)) pgs_nil)))) (fun _ _ _ _ _ => pts_one (by exact (pt_cmpR (r := rNeD K) (op_neD hr.units) (pv 5) (pe_glob (v := .ref A.t_BLANK_PAGE) rfl T.g_BLANK_PAGE rfl) (nomark _)))) (fun _ _ _ _ _ => by exact (pv 4)))
    (pss_cons (ps_for (passes_of rfl) rfl (pi_list (pv 6)) (pg_name (i := 4) sc_Flash_put_in.nd rfl (.inl rfl))
      (pss_one (ps_if (pt_cmpR (op_neD hr.units) (pe_ix ix_list (pe_fld (pv 0) rfl) (pe_op op_add (pv 1) (pv 4)) (fun _ _ => rfl)) (pe_glob (v := .ref A.t_BLANK_PAGE) rfl T.g_BLANK_PAGE rfl) (nomark _)) (pss_one (L2N.ps_raise rfl (L2N.takes_of rfl rfl rfl rfl) (pmk_errN T.x_Written (ok_Written_init T) (hr.mono (by omega)) (pa_cons (pe_op op_add (pv 1) (pv 4)) pa_nil)))) pss_nil)))
    (pss_one (ps_for (passes_of rfl) rfl (pi_list (pv 6)) (pg_name (i := 4) sc_Flash_put_in.nd rfl (.inl rfl))
      (pss_one (ps_expr (pe_call (ok_write_page T) (hr.mono (by omega)) rfl T.g_write_page T.F_write_page.kp T.b_write_page .nil (L2N.passes_call (L2N.takes_of rfl rfl rfl rfl) (fun _ _ _ _ h => h)) (pa_cons (pv 0) (pa_cons (pe_op op_add (pv 1) (pv 4)) (pa_cons (pe_ix ix_list (pv 3) (pv 4) (fun _ _ => rfl)) pa_nil))))))))))))), ?_⟩
    refine ⟨_, rfl, v, d, rfl, hd, ?_⟩
    by_cases hin : inD d 0 143 = true
    · refine .inl ⟨hin, ?_⟩
      obtain ⟨b, rfl, hb⟩ := inD_nat hd hin
      obtain ⟨g1, g2⟩ := good b rfl (by omega)
      clear good bad
      refine ⟨_, rfl, wt, ws, rfl, hwt, hwl, fun H1 R xs s1 nR eR hO => ?_⟩
      have hc7 : cntR ws ≤ 7 := by unfold cntR; omega
      have hxl : xs.length = cntR ws := by rw [hO.1, List.length_map, List.length_range]
      refine ⟨_, rfl, _, rfl, R, _, rfl, .inl (SqL.of eR), _, _, rfl, rfl, _, _, rfl, rfl, _, rfl, ?_⟩
      rw [hxl]
      by_cases hbig : 144 < b + cntR ws
      · refine ifT (decide_eq_true (by omega)) ?_
        exact keep_end fun dy H4 s4 n4 e4 => g1 hbig dy H4 (s1.trans s4) (s1.free n4) e4
      refine ifF (decide_eq_false (by omega)) ?_
      obtain ⟨g3, g4⟩ := g2 (by omega)
      clear g1 g2
      refine ⟨_, rfl, R, xs, rfl, SqL.of eR, fun D hD => ?_⟩
      refine lc_enumL (k := 4) (k1 := 5) (by decide) (fun i => decide (rowAt ws i ≠ blank)) (fun i => .int (i : Nat)) hD (SqL.of eR) (by omega) (fun i x Hx hi sx hx Qx q => ?_) (fun i x Hx hi hc sx hx Qx q => ?_) (fun Hx sx hxD => ?_)
      · obtain ⟨t, et, ht⟩ := hO.2 i _ (range_map_at (rowAt ws) (by omega))
        rw [et] at hx
        cases hx
        refine ⟨_, rfl, _, _, dp_ints (sqT_up ht sx), dp_ints (q_blank T), ints_shaped _, ints_shaped _, ?_⟩
        rw [eqv_ints]
        have e : (!decide (rowAt ws i = blank)) = decide (rowAt ws i ≠ blank) := by
          by_cases h : rowAt ws i = blank
          · rw [decide_eq_true h, decide_eq_false (fun z => z h)]; rfl
          · rw [decide_eq_false h, decide_eq_true h]; rfl
        rw [e]
        exact ⟨_, rfl, q⟩
      · exact ⟨_, rfl, q Hx (Same.refl _)⟩
      · rw [hxl] at hxD
        have hxD : Hx D = some (.lst ((dueN ws (cntR ws)).map fun i : Nat => V.int (i : Int))) := hxD
        have hFx := hF.up (s1.trans sx)
        have hOx := hO.up sx
        have eRx := sx _ _ eR
        have n144 : b + cntR ws ≤ 144 := by omega
        have rsd : rowsN b ws (cntR ws) = (dueN ws (cntR ws)).map fun i => (b + i, rowAt ws i) := rfl
        have hdl : ∀ i ∈ dueN ws (cntR ws), i < cntR ws := fun i h => dueN_lt h
        have hpw := dueN_pair ws (cntR ws)
        have hr16 : ∀ r ∈ rowsN b ws (cntR ws), r.2.length = 16 := fun r h => (rowsN_of h).2
        generalize hdue : dueN ws (cntR ws) = due at *
        generalize hrs : rowsN b ws (cntR ws) = rs at *
        have hrl : rs.length = due.length := by rw [rsd, List.length_map]
        have hlst : SqL K Hx D (due.map fun i : Nat => V.int (i : Int)) := SqL.of hxD
        have hvl : (due.map fun i : Nat => V.int (i : Int)).length = due.length := List.length_map ..
        refine ⟨_, rfl, D, rfl, ⟨_, hlst⟩, for_it (walk_list (K := K) (a := D) (xs := due.map fun i : Nat => V.int (i : Int))) (fun i σ Hc => ∃ o4, σ = [some (.ref f), some (.int (b : Int)), some (.ref wt), some (.ref R), o4, none, some (.ref D)] ∧ Hc = Hx ∧ fndW ps (rs.take i) = none) ⟨_, rfl, rfl, rfl⟩ (fun i σ Hc _ y => by obtain ⟨_, _, rfl, _⟩ := y; exact hlst) (fun i x σ Hc Hd hi y e => ?_) (fun σ Hc y => ?_)⟩
        · obtain ⟨o4, rfl, rfl, hfn⟩ := y
          obtain ⟨rfl, e⟩ := e
          rw [hvl] at hi
          rw [List.getElem?_map, List.getElem?_eq_getElem hi] at e
          cases e
          have hri : rs[i]? = some (b + due[i], rowAt ws due[i]) := by
            rw [rsd, List.getElem?_map, List.getElem?_eq_getElem hi]
            rfl
          have hdi := hdl _ (List.getElem_mem hi)
          generalize due[i] = k at *
          obtain ⟨xp, elp, hop⟩ := id hFx.2
          obtain ⟨t, ht1, ht2⟩ := hop.2 _ _ (getD_at (b := b + k) (by omega))
          refine ⟨_, rfl, f, A.c_Flash, dx, _, _, rfl, hFx.1, T.cl_Flash, T.na_Flash_pages, rfl, ?_⟩
          refine ⟨_, rfl, _, rfl, _, _, rfl, rfl, l, xp, ((b + k : Nat) : Int), _, rfl, congrArg V.int (by omega), SqL.of elp, atI_nat ht1, ?_⟩
          refine ⟨_, _, dp_ints ht2, dp_ints (q_blank T), ints_shaped _, ints_shaped _, ?_⟩
          rw [eqv_ints]
          have htk : rs.take (i + 1) = rs.take i ++ [(b + k, rowAt ws k)] := by rw [List.take_add_one, hri]; rfl
          by_cases hbl : ps.getD (b + k) [] = blank
          · refine ⟨_, rfl, ifF (c := !decide (ps.getD (b + k) [] = blank)) (by rw [decide_eq_true hbl]; rfl) ?_⟩
            refine ⟨_, rfl, rfl, ?_⟩
            rw [htk]
            unfold fndW at hfn ⊢
            rw [List.find?_append, hfn, List.find?_cons_of_neg (by rw [decide_eq_true_eq]; exact fun z => z hbl)]
            rfl
          · refine ⟨_, rfl, ifT (c := !decide (ps.getD (b + k) [] = blank)) (by rw [decide_eq_false hbl]; rfl) ?_⟩
            have hfd : fndW ps rs = some (b + k, rowAt ws k) := by
              have hsp : rs = rs.take (i + 1) ++ rs.drop (i + 1) := (List.take_append_drop (i + 1) rs).symm
              unfold fndW at hfn ⊢
              rw [hsp, List.find?_append, htk, List.find?_append, hfn, List.find?_cons_of_pos (by rw [decide_eq_true_eq]; exact hbl)]
              rfl
            refine ⟨_, rfl, _, rfl, _, _, rfl, rfl, keep_end fun dy H4 s4 n4 e4 => g3 _ hfd dy H4 (s1.trans (sx.trans s4)) (s1.free (sx.free n4)) ?_⟩
            rw [e4]
            exact congrArg (fun z : Int => some (HO.xd [(Str.ofString "page", V.int z)])) (show (b : Int) + (k : Int) = ((b + k : Nat) : Int) by omega)
        · obtain ⟨o4, rfl, rfl, hfn⟩ := y
          rw [List.take_of_length_le (by rw [hvl, hrl]; exact Nat.le_refl _)] at hfn
          obtain ⟨gd, bd⟩ := g4 hfn
          clear g3 g4
          obtain ⟨xp0, elp0, _⟩ := id hFx.2
          obtain ⟨xl0, el0, _⟩ := id hF.2
          have nRl : R ≠ l := fun z => by rw [z, el0] at nR; cases nR
          have nRf : R ≠ f := fun z => by rw [z, hF.1] at nR; cases nR
          have nDl : D ≠ l := fun z => by rw [z, s1 _ _ el0] at hD; cases hD
          have nDf : D ≠ f := fun z => by rw [z, s1 _ _ hF.1] at hD; cases hD
          refine ⟨_, rfl, D, rfl, ⟨_, hlst⟩, for_it (walk_list (K := K) (a := D) (xs := due.map fun i : Nat => V.int (i : Int))) (fun i σ Hy => ∃ o4 ps' p', σ = [some (.ref f), some (.int (b : Int)), some (.ref wt), some (.ref R), o4, none, some (.ref D)] ∧ Bt2 l f Hc Hy ∧ FlS K A.c_Flash Hy f dx l ps' p' ∧ ps'.length = 144 ∧ (∀ r ∈ rs.drop i, ps'.getD r.1 [] = blank) ∧ fillN rs ps p = fillN (rs.drop i) ps' p')
            ⟨_, ps, p, rfl, Bt2.refl, hFx, hpl, (fun r hr => ?_), rfl⟩ (fun i σ Hy _ y => ?_) (fun i x σ Hy Hd hi y e => ?_) (fun σ Hy y => ?_)⟩
          · unfold fndW at hfn
            have := List.find?_eq_none.1 hfn r (List.mem_of_mem_drop hr)
            by_cases h : ps.getD r.1 [] = blank
            · exact h
            · exact absurd (decide_eq_true h) this
          · obtain ⟨_, _, _, _, bt, _⟩ := y
            exact SqL.of (bt _ _ nDl nDf hxD)
          · obtain ⟨o4, ps', p', rfl, bt, hFy, hpl', hblk, hf⟩ := y
            obtain ⟨rfl, e⟩ := e
            rw [hvl] at hi
            rw [List.getElem?_map, List.getElem?_eq_getElem hi] at e
            cases e
            have hri : rs[i]? = some (b + due[i], rowAt ws due[i]) := by
              rw [rsd, List.getElem?_map, List.getElem?_eq_getElem hi]
              rfl
            have hdi := hdl _ (List.getElem_mem hi)
            have hlater : ∀ r ∈ rs.drop (i + 1), b + due[i] < r.1 := fun r hr => by
              rw [rsd, ← List.map_drop] at hr
              obtain ⟨j, hj, rfl⟩ := List.mem_map.1 hr
              have := List.drop_eq_getElem_cons hi
              have hp2 : (due.drop i).Pairwise (· < ·) := hpw.sublist (List.drop_sublist _ _)
              rw [this] at hp2
              have := (List.pairwise_cons.1 hp2).1 j hj
              show b + due[i] < b + j
              omega
            generalize due[i] = k at *
            have hi2 : i < rs.length := by rw [hrl]; exact hi
            have hdr : rs.drop i = (b + k, rowAt ws k) :: rs.drop (i + 1) := by
              rw [List.drop_eq_getElem_cons hi2]
              rw [List.getElem?_eq_getElem hi2] at hri
              rw [Option.some.inj hri]
            rw [hdr] at hf hblk
            have hk16 : (rowAt ws k).length = 16 := hr16 (b + k, rowAt ws k) (List.mem_of_getElem? hri)
            obtain ⟨t, et, ht⟩ := hOx.2 k _ (range_map_at (rowAt ws) hdi)
            have htd := bt2_sq ht elp0 hFx.1 bt
            have eRd := bt _ _ nRl nRf eRx
            have hbk := hblk _ List.mem_cons_self
            rw [fillN_cons] at hf
            refine ⟨_, rfl, _, rfl, _, rfl, _, _, rfl, rfl, _, rfl, _, rfl, R, xs, (k : Int), _, rfl, rfl, SqL.of eRd, atI_nat et, ?_⟩
            refine ⟨f, dx, l, p', ps', b + k, t, rowAt ws k, congrArg (fun z : Int => [V.ref f, V.int z, V.ref t]) (show (b : Int) + (k : Int) = ((b + k : Nat) : Int) by omega), hFy, htd, hk16, by omega, hpl', by rw [← hbk]; exact getD_at (by omega), fun hok H' bt2 hF2 => ?_, fun hno dy t' H' bt2 hF2 e2 ht2 => ?_⟩
            · have hok := of_decide_eq_true hok
              simp only [] at hf
              rw [if_pos hok] at hf
              refine ⟨_, _, _, rfl, bt.trans bt2, hF2, by rw [List.length_set]; exact hpl', fun r hr => ?_, hf⟩
              have h1 := hlater r hr
              have h2 := hblk r (List.mem_cons_of_mem _ hr)
              rw [List.getD_eq_getElem?_getD, List.getElem?_set_ne (by omega), ← List.getD_eq_getElem?_getD]
              exact h2
            · have hno := of_decide_eq_false hno
              simp only [] at hf
              rw [if_neg hno] at hf
              rw [hf] at bd
              exact bd rfl dy t' H' ((Bt2.of (s1.trans sx)).trans (bt.trans bt2)) hF2 e2 ht2
          · obtain ⟨o4, ps', p', rfl, bt, hFy, hpl', hblk, hf⟩ := y
            rw [List.drop_of_length_le (by rw [hvl, hrl]; exact Nat.le_refl _), fillN_nil] at hf
            rw [hf] at gd
            exact gd rfl Hy ((Bt2.of (s1.trans sx)).trans bt) hFy
    · have hin : inD d 0 143 = false := by cases h : inD d 0 143 <;> first | rfl | exact absurd h hin
      exact .inr ⟨hin, fun dy H' s n e => bad hin dy H' s n e⟩
end
end R1

namespace R1
open PySem PySem.Spec PyProof.Rows L2 RK
local macro_rules | `(tactic| walk_at "sq") => `(tactic| first
  | exact SqL.of upd_same | exact upd_same | exact SqL.of (by assumption) | exact SqL.of (by rw [upd_ne (by assumption)]; assumption) | assumption)
local macro_rules | `(tactic| walk_at "sd") => `(tactic| first
  | assumption | omega | (refine Or.inl ⟨?_, ?_⟩ <;> omega) | (show _ ∧ _; constructor <;> omega) | (show _ ≠ _; simp; omega) | (exact Or.inl ⟨by decide, by decide⟩) | (exact Or.inr ⟨by decide, by decide⟩) | (show _ < _; decide) | (show _ ≤ _; decide))
local macro_rules | `(tactic| walk_at "at") => `(tactic| first | rfl | (refine atI_intV ?_ ?_ <;> omega) | assumption)
local macro_rules | `(tactic| walk_at "s1") => `(tactic| first
  | refine ⟨_, rfl, ?_⟩ | refine ⟨_, _, rfl, rfl, ?_⟩ | refine ⟨rfl, ?_⟩
  | refine ⟨_, _, _, _, rfl, rfl, by walk_at "sq", by walk_at "at", ?_⟩
  | refine Or.inl ⟨_, rfl, ?_⟩
  | refine ⟨_, _, rfl, Or.inl (by walk_at "sq"), ?_⟩
  | refine And.intro (by walk_at "sd") ?_)
local macro_rules | `(tactic| walk_at "s") => `(tactic| repeat walk_at "s1")

def page0 : List (List Nat) := List.replicate 144 blank
def spFlI (K : PySem.W.Frag) (C : Addr) : Sp := fun vs H Q _ => ∃ (f dx : Addr), vs = [.ref f] ∧ H f = some (.ins C dx []) ∧ ∀ H' l, (∀ b o, b ≠ f → H b = some o → H' b = some o) → H l = none → FlS K C H' f dx l page0 none → Q .non H'
def spPwI (K : PySem.W.Frag) (C B : Addr) : Sp := fun vs H Q E => ∃ (x dx f : Addr) (v : V) (d : PyData), vs = [.ref x, .ref f, v] ∧ H x = some (.ins C dx []) ∧ Dp K H v d ∧ (powD d = true → ∀ H', (∀ b, b ≠ x → H' b = H b) → Q .non H') ∧ (powD d = false → orErr K B "power" v H E)
section
variable {P : Program} {w : World} {K : PySem.W.Frag} {mg : Str → Option Value} {base : Heap} {A : Ads}
theorem ok_Power_init (T : Txt K mg A) : FnOk P w K mg base (L2N.CX P w) 5 A.a_Power_init A.d_Power_init ["self", "flash", "units"] (spPwI K A.c_Power A.c_BadPower) := by
  refine Fun.okN T.F_Power_init sc_Power_init (fun vs H Q E h => ?_) (fun cdv B outer s H vs Q E hr h => ?_)
  · obtain ⟨x, dx, f, v, d, rfl, _⟩ := h
    rfl
  · obtain ⟨x, dx, f, v, d, rfl, hx, hd, good, bad⟩ := h
    refine ⟨_, (pss_cons (ps_expr (pe_call (ok_check_power T) (hr.mono (by omega)) rfl T.g_check_power T.F_check_power.kp T.b_check_power .nil (L2N.passes_call (L2N.takes_of rfl rfl rfl rfl) (fun _ _ _ _ h => h)) (pa_cons (pv 2) pa_nil)))
    (pss_cons (ps_fld (pv 0) (pv 1) rfl)
    (pss_one (ps_fld (pv 0) (pv 2) rfl)))), ?_⟩
    refine ⟨_, rfl, v, d, rfl, hd, ?_⟩
    by_cases hp : powD d = true
    · refine .inl ⟨hp, ?_⟩
      refine ⟨_, rfl, _, rfl, x, A.c_Power, dx, _, rfl, hx, T.cl_Power, T.na_Power_flash, (show 0 < 1000 by decide), ?_⟩
      refine ⟨_, rfl, _, rfl, x, A.c_Power, dx, _, rfl, upd_same, T.cl_Power, T.na_Power_units, (show 1 < 1000 by decide), ?_⟩
      exact good hp _ fun b hb => by rw [upd_ne hb, upd_ne hb]
    · have hp : powD d = false := by cases h : powD d <;> first | rfl | exact absurd h hp
      exact .inr ⟨hp, fun dy H' s n e => bad hp dy H' s n e⟩
theorem ok_Flash_init (T : Txt K mg A) : FnOk P w K mg base CX0 5 A.a_Flash_init A.d_Flash_init ["self"] (spFlI K A.c_Flash) := by
  refine T.F_Flash_init.ok sc_Flash_init (fun vs H Q E h => ?_) (fun cdv B outer s H vs Q E hr h => ?_)
  · obtain ⟨f, dx, rfl, _⟩ := h
    rfl
  · obtain ⟨f, dx, rfl, hf, q⟩ := h
    refine ⟨_, (pss_cons (ps_fld (pv 0) (pe_op op_rep (pe_lst (pa_cons (pe_glob (v := .ref A.t_BLANK_PAGE) rfl T.g_BLANK_PAGE rfl) pa_nil)) (pe_glob (v := .int 144) rfl T.g_PAGES ⟨_, rfl⟩)) rfl)
    (pss_one (ps_fld (pv 0) pe_non rfl))), ?_⟩
    refine ⟨lenOk (n := 1) rfl (by decide), fun p hp => ?_⟩
    have npf : p ≠ f := fun z => by rw [z, hf] at hp; cases hp
    have s1 := same_new (o := .lst [V.ref A.t_BLANK_PAGE]) hp
    have e1 : upd H p (.lst [V.ref A.t_BLANK_PAGE]) p = some (.lst [V.ref A.t_BLANK_PAGE]) := upd_same
    generalize upd H p (.lst [V.ref A.t_BLANK_PAGE]) = H1 at s1 e1 ⊢
    refine ⟨p, 144, _, rfl, rfl, e1, by decide, by decide, (show 1 * 144 ≤ sizeLine by decide), fun l hl => ?_⟩
    have hN : (144 : Int).toNat = 144 := rfl
    rw [hN, List.flatten_replicate_singleton]
    have s2 := same_new (o := .lst (List.replicate 144 (V.ref A.t_BLANK_PAGE))) hl
    have e2 : upd H1 l (.lst (List.replicate 144 (V.ref A.t_BLANK_PAGE))) l = some (.lst (List.replicate 144 (V.ref A.t_BLANK_PAGE))) := upd_same
    generalize upd H1 l (.lst (List.replicate 144 (V.ref A.t_BLANK_PAGE))) = H2 at s2 e2 ⊢
    have s12 := s1.trans s2
    have nlf : l ≠ f := fun z => by rw [z, s1 _ _ hf] at hl; cases hl
    refine ⟨_, rfl, f, A.c_Flash, dx, _, rfl, s12 _ _ hf, T.cl_Flash, T.na_Flash_pages, (show 0 < 1000 by decide), ?_⟩
    refine ⟨_, rfl, f, A.c_Flash, dx, _, rfl, upd_same, T.cl_Flash, T.na_Flash_left, (show 1 < 1000 by decide), ?_⟩
    refine q _ l (fun b o nb eb => by rw [upd_ne nb, upd_ne nb]; exact s12 _ _ eb) (s1.free hl) ⟨upd_same, _, by rw [upd_ne nlf, upd_ne nlf]; exact e2, by rw [List.length_replicate]; rfl, fun k ws hk => ?_⟩
    have hk2 : ws = blank ∧ k < 144 := by
      unfold page0 at hk
      rw [List.getElem?_replicate] at hk
      by_cases h : k < 144
      · rw [if_pos h] at hk
        exact ⟨(Option.some.inj hk).symm, h⟩
      · rw [if_neg h] at hk
        cases hk
    obtain ⟨rfl, hk3⟩ := hk2
    refine ⟨A.t_BLANK_PAGE, ?_, q_blank T⟩
    rw [List.getElem?_replicate, if_pos hk3]
end
end R1

namespace R1
open PySem PySem.Spec PyProof.Rows L2 RK
local macro_rules | `(tactic| walk_at "sq") => `(tactic| first
  | exact SqL.of upd_same | exact upd_same | exact SqL.of (by assumption) | exact SqL.of (by rw [upd_ne (by assumption)]; assumption) | assumption)
local macro_rules | `(tactic| walk_at "sd") => `(tactic| first
  | assumption | omega | (refine Or.inl ⟨?_, ?_⟩ <;> omega) | (show _ ∧ _; constructor <;> omega) | (show _ ≠ _; simp; omega) | (exact Or.inl ⟨by decide, by decide⟩) | (exact Or.inr ⟨by decide, by decide⟩) | (show _ < _; decide) | (show _ ≤ _; decide))
local macro_rules | `(tactic| walk_at "at") => `(tactic| first | rfl | (refine atI_intV ?_ ?_ <;> omega) | assumption)
local macro_rules | `(tactic| walk_at "s1") => `(tactic| first
  | refine ⟨_, rfl, ?_⟩ | refine ⟨_, _, rfl, rfl, ?_⟩ | refine ⟨rfl, ?_⟩
  | refine ⟨_, _, _, _, rfl, rfl, by walk_at "sq", by walk_at "at", ?_⟩
  | refine Or.inl ⟨_, rfl, ?_⟩
  | refine ⟨_, _, rfl, Or.inl (by walk_at "sq"), ?_⟩
  | refine And.intro (by walk_at "sd") ?_)
local macro_rules | `(tactic| walk_at "s") => `(tactic| repeat walk_at "s1")

/-- a place as a value -/
def datV : V → PyData
  | .bl b => .bool b
  | .int i => .int i
  | _ => .none
def numV : V → Nat
  | .int i => i.toNat
  | _ => 0
theorem dp_spot {K : PySem.W.Frag} {H : Hp} {x : V} (h : Spot x) : Dp K H x (datV x) := by
  rcases h with rfl | rfl | ⟨i, rfl⟩
  · exact .non
  · exact .bl true
  · exact .int i
theorem spot_in {x : V} {hi : Int} (h : Spot x) (e : inD (datV x) 0 hi = true) : x = .int ((numV x : Nat) : Int) ∧ ((numV x : Nat) : Int) ≤ hi := by
  rcases h with rfl | rfl | ⟨i, rfl⟩
  · cases e
  · cases e
  · have e : 0 ≤ i ∧ i ≤ hi := of_decide_eq_true e
    show V.int i = V.int ((i.toNat : Nat) : Int) ∧ ((i.toNat : Nat) : Int) ≤ hi
    refine ⟨congrArg V.int ?_, ?_⟩ <;> omega
def res (nm : String) (d : PyData) : PyData := .tuple [.str (Str.ofString nm), d, .bool true]
def okR : PyData := res "done" .none
def endR (b : Bool) : PyData := if b = true then okR else res "lost" (.tuple [])
abbrev Run := PyData × List (List Nat) × Option Nat
def putD (b : Nat) (ws : List Nat) (ps : List (List Nat)) (p : Option Nat) : Run :=
  match fndW ps (rowsN b ws (cntR ws)) with
  | some r => (res "written" (.int (r.1 : Int)), ps, p)
  | none => (endR (fillN (rowsN b ws (cntR ws)) ps p).2.2, (fillN (rowsN b ws (cntR ws)) ps p).1, (fillN (rowsN b ws (cntR ws)) ps p).2.1)
def runD : Deed → List (List Nat) → Option Nat → Run
  | .power n, ps, p => (okR, ps, n)
  | .erase x, ps, p => if inD (datV x) 0 17 = true then (endR (decide (lasts p 8 = 8)), eraN ps (numV x) (lasts p 8), less p (lasts p 8)) else (res "block" (datV x), ps, p)
  | .write x ws, ps, p => if inD (datV x) 0 143 = true then
      (if ws.length ≠ 16 then (res "long" (.int (ws.length : Nat)), ps, p) else if ps.getD (numV x) [] ≠ blank then (res "written" (datV x), ps, p) else putD (numV x) ws ps p)
    else (res "page" (datV x), ps, p)
  | .put x ws, ps, p => if inD (datV x) 0 143 = true then (if 144 < numV x + cntR ws then (res "page" (.int 144), ps, p) else putD (numV x) ws ps p) else (res "page" (datV x), ps, p)
theorem rowAt_16 {ws : List Nat} (h : ws.length = 16) : rowAt ws 0 = ws := by
  unfold rowAt
  rw [List.drop_zero, List.take_of_length_le (by omega), h]
  simp
theorem put_one {b : Nat} {ws : List Nat} {ps : List (List Nat)} {p : Option Nat} (h : ws.length = 16) (hb : b < ps.length) (hbl : ps.getD b [] = blank) :
    putD b ws ps p = (endR (decide (lasts p (cntW ws 16) = cntW ws 16)), ps.set b (wrtW ws (lasts p (cntW ws 16))), less p (lasts p (cntW ws 16))) := by
  have hc : cntR ws = 1 := by unfold cntR; rw [h]
  have hr : rowsN b ws (cntR ws) = if ws ≠ blank then [(b, ws)] else [] := by
    rw [hc, rowsN_succ, rowAt_16 h]
    rfl
  unfold putD
  rw [hr]
  by_cases hz : ws = blank
  · rw [if_neg (fun z => z hz)]
    have hc0 : cntW ws 16 = 0 := by rw [hz]; rfl
    rw [hc0, lasts_zero, less_zero]
    have hw0 : wrtW ws 0 = blank := rfl
    rw [hw0]
    have hs : ps.set b blank = ps := by
      refine List.ext_getElem? fun j => ?_
      rw [List.getElem?_set]
      by_cases hj : b = j
      · subst hj
        rw [if_pos rfl, if_pos hb, ← hbl]
        exact (getD_at hb).symm
      · rw [if_neg hj]
    rw [hs]
    rfl
  · rw [if_pos hz]
    have hf : fndW ps [(b, ws)] = none := by
      unfold fndW
      rw [List.find?_cons_of_neg (by rw [decide_eq_true_eq]; exact fun z => z hbl)]
      rfl
    rw [hf]
    show (endR (fillN [(b, ws)] ps p).2.2, (fillN [(b, ws)] ps p).1, (fillN [(b, ws)] ps p).2.1) = _
    rw [fillN_cons]
    by_cases hd : lasts p (cntW ws 16) = cntW ws 16
    · simp only []
      rw [if_pos hd, fillN_nil, decide_eq_true hd]
    · simp only []
      rw [if_neg hd, decide_eq_false hd]
def dName : Deed → String
  | .erase _ => "erase"
  | .write _ _ => "write"
  | .put _ _ => "put"
  | .power _ => "power"
def dSpot : Deed → V
  | .erase x => x
  | .write x _ => x
  | .put x _ => x
  | .power n => lV n
def dWords : Deed → List Nat
  | .erase _ => []
  | .write _ ws => ws
  | .put _ ws => ws
  | .power _ => []
theorem isDeed_t {K : PySem.W.Frag} {H : Hp} {t : Addr} {d : Deed} (h : IsDeed K H t d) : DeedT K H t (dWords d) (dName d) (dSpot d) := by
  cases d with
  | erase x => exact h
  | write x ws => exact h.1
  | put x ws => exact h.1
  | power n => exact h.1
theorem dx_spot {K : PySem.W.Frag} {H : Hp} {x : V} (h : Spot x) : Dx K H noS x (datV x) := by
  rcases h with rfl | rfl | ⟨i, rfl⟩
  · exact .non
  · exact .bl true
  · exact .int i
theorem inD_k {k hi : Nat} (h : k < hi + 1) : inD (datV (.int (k : Int))) 0 (hi : Int) = true := decide_eq_true (by omega)
theorem numV_k (k : Nat) : numV (.int (k : Int)) = k := by show (k : Int).toNat = k; omega
theorem run_erase {k : Nat} {ps : List (List Nat)} {p : Option Nat} (h : k < 18) : runD (.erase (.int (k : Int))) ps p = (endR (decide (lasts p 8 = 8)), eraN ps k (lasts p 8), less p (lasts p 8)) := by
  have : inD (datV (.int (k : Int))) 0 17 = true := inD_k (hi := 17) h
  show (if inD (datV (.int (k : Int))) 0 17 = true then _ else _) = _
  rw [if_pos this, numV_k]
theorem run_write {k : Nat} {ws : List Nat} {ps : List (List Nat)} {p : Option Nat} (h : k < 144) : runD (.write (.int (k : Int)) ws) ps p = if ws.length ≠ 16 then (res "long" (.int (ws.length : Nat)), ps, p) else if ps.getD k [] ≠ blank then (res "written" (.int (k : Int)), ps, p) else putD k ws ps p := by
  have : inD (datV (.int (k : Int))) 0 143 = true := inD_k (hi := 143) h
  show (if inD (datV (.int (k : Int))) 0 143 = true then _ else _) = _
  rw [if_pos this, numV_k]
  rfl
theorem run_put {k : Nat} {ws : List Nat} {ps : List (List Nat)} {p : Option Nat} (h : k < 144) : runD (.put (.int (k : Int)) ws) ps p = if 144 < k + cntR ws then (res "page" (.int 144), ps, p) else putD k ws ps p := by
  have : inD (datV (.int (k : Int))) 0 143 = true := inD_k (hi := 143) h
  show (if inD (datV (.int (k : Int))) 0 143 = true then _ else _) = _
  rw [if_pos this, numV_k]
theorem nm_erase_erase : decide (V.str (Str.ofString "erase") = V.str (Str.ofString "erase")) = true := by decide +kernel
theorem nm_erase_write : decide (V.str (Str.ofString "erase") = V.str (Str.ofString "write")) = false := by decide +kernel
theorem nm_erase_put : decide (V.str (Str.ofString "erase") = V.str (Str.ofString "put")) = false := by decide +kernel
theorem nm_write_erase : decide (V.str (Str.ofString "write") = V.str (Str.ofString "erase")) = false := by decide +kernel
theorem nm_write_write : decide (V.str (Str.ofString "write") = V.str (Str.ofString "write")) = true := by decide +kernel
theorem nm_write_put : decide (V.str (Str.ofString "write") = V.str (Str.ofString "put")) = false := by decide +kernel
theorem nm_put_erase : decide (V.str (Str.ofString "put") = V.str (Str.ofString "erase")) = false := by decide +kernel
theorem nm_put_write : decide (V.str (Str.ofString "put") = V.str (Str.ofString "write")) = false := by decide +kernel
theorem nm_put_put : decide (V.str (Str.ofString "put") = V.str (Str.ofString "put")) = true := by decide +kernel
theorem nm_power_erase : decide (V.str (Str.ofString "power") = V.str (Str.ofString "erase")) = false := by decide +kernel
theorem nm_power_write : decide (V.str (Str.ofString "power") = V.str (Str.ofString "write")) = false := by decide +kernel
theorem nm_power_put : decide (V.str (Str.ofString "power") = V.str (Str.ofString "put")) = false := by decide +kernel
def spDone (K : PySem.W.Frag) (C : Addr) : Sp := fun vs H Q _ => ∃ (f dx l t : Addr) (ps : List (List Nat)) (p : Option Nat) (d : Deed), vs = [.ref f, .ref t] ∧ FlS K C H f dx l ps p ∧ ps.length = 144 ∧ IsDeed K H t d ∧
  ∀ H' r, Bt2 l f H H' → FlS K C H' f dx l (runD d ps p).2.1 (runD d ps p).2.2 → Dx K H' noS (.ref r) (runD d ps p).1 → Q (.ref r) H'
theorem mk_res {K : PySem.W.Frag} {H : Hp} {r : Addr} {nm : String} {v : V} {d : PyData} (h : H r = some (.tup [.str (Str.ofString nm), v, .bl true])) (hv : Dx K H noS v d) : Dx K H noS (.ref r) (res nm d) :=
  .tup (XT.of h fun z => z.elim) (.cons (.str _) (.cons hv (.cons (.bl _) .nil)))
section
variable {P : Program} {w : World} {K : PySem.W.Frag} {mg : Str → Option Value} {base : Heap} {A : Ads}
theorem ok_law_done (T : Txt K mg A) : FnOk P w K mg base CX0 8 A.a_law_done A.d_law_done ["_law_flash", "_law_deed_here"] (spDone K A.c_Flash) := by
  refine T.F_law_done.ok sc_law_done (fun vs H Q E h => ?_) (fun cdv B outer s H vs Q E hr h => ?_)
  · obtain ⟨f, dx, l, t, ps, p, d, rfl, _⟩ := h
    rfl
  · obtain ⟨f, dx, l, t, ps, p, d, rfl, hF, hpl, hd, q⟩ := h
    refine ⟨_, (pss_cons (ps_asg (pv 1) (pg_tup (by rfl) (pgs_cons (pg_name (i := 2) sc_law_done.nd rfl (.inl rfl)) (pgs_cons (pg_name (i := 3) sc_law_done.nd rfl (.inl rfl)) (pgs_cons (pg_name (i := 4) sc_law_done.nd rfl (.inl rfl)) pgs_nil)))))
    (pss_cons (ps_try_asN (i := 5) rfl rfl sc_law_done.nd rfl rfl (.cons ⟨rfl, by decide, .inl T.g_NoPage⟩ (fun a o cls d ps hz hf => (pss_one (ps_ret (pe_tup (pa_cons pe_str (pa_cons (pe_xf T.x_NoPage.xf T.x_NoPage.no hz.zc hf (pv 5)) (pa_cons (pe_callB (call_isEx T.x_NoPage.ex hz.zc hf) (by rfl) T.n_isinstance (by decide +kernel) (pa_cons (pv 5) (pa_cons (pe_glob (v := .ref A.c_RomError) rfl T.g_RomError rfl) pa_nil))) pa_nil)))))))
      (.cons ⟨rfl, by decide, .inl T.g_NoBlock⟩ (fun a o cls d ps hz hf => (pss_one (ps_ret (pe_tup (pa_cons pe_str (pa_cons (pe_xf T.x_NoBlock.xf T.x_NoBlock.no hz.zc hf (pv 5)) (pa_cons (pe_callB (call_isEx T.x_NoBlock.ex hz.zc hf) (by rfl) T.n_isinstance (by decide +kernel) (pa_cons (pv 5) (pa_cons (pe_glob (v := .ref A.c_RomError) rfl T.g_RomError rfl) pa_nil))) pa_nil)))))))
      (.cons ⟨rfl, by decide, .inl T.g_TooLong⟩ (fun a o cls d ps hz hf => (pss_one (ps_ret (pe_tup (pa_cons pe_str (pa_cons (pe_xf T.x_TooLong.xf T.x_TooLong.no hz.zc hf (pv 5)) (pa_cons (pe_callB (call_isEx T.x_TooLong.ex hz.zc hf) (by rfl) T.n_isinstance (by decide +kernel) (pa_cons (pv 5) (pa_cons (pe_glob (v := .ref A.c_RomError) rfl T.g_RomError rfl) pa_nil))) pa_nil)))))))
      (.cons ⟨rfl, by decide, .inl T.g_Written⟩ (fun a o cls d ps hz hf => (pss_one (ps_ret (pe_tup (pa_cons pe_str (pa_cons (pe_xf T.x_Written.xf T.x_Written.no hz.zc hf (pv 5)) (pa_cons (pe_callB (call_isEx T.x_Written.ex hz.zc hf) (by rfl) T.n_isinstance (by decide +kernel) (pa_cons (pv 5) (pa_cons (pe_glob (v := .ref A.c_RomError) rfl T.g_RomError rfl) pa_nil))) pa_nil)))))))
      (.cons ⟨rfl, by decide, .inl T.g_PowerLost⟩ (fun a o cls d ps hz hf => (pss_one (ps_ret (pe_tup (pa_cons pe_str (pa_cons (pe_xf T.x_PowerLost.xf T.x_PowerLost.no hz.zc hf (pv 5)) (pa_cons (pe_and (pe_callB (call_isEx T.x_PowerLost.ex hz.zc hf) (by rfl) T.n_isinstance (by decide +kernel) (pa_cons (pv 5) (pa_cons (pe_glob (v := .ref A.c_RomError) rfl T.g_RomError rfl) pa_nil))) (pe_one (pe_callB (call_isEx T.x_PowerLost.ex hz.zc hf) (by rfl) T.n_isinstance (by decide +kernel) (pa_cons (pv 5) (pa_cons (pe_bltn (v := .ty "ValueError") (u := .type "ValueError") (by rfl) T.n_ValueError (by decide +kernel) rfl) pa_nil))))) pa_nil)))))))
      .nil))))) (fun W pn xe tk _ => (pss_one (ps_if (pt_cmpR op_eq (pv 2) pe_str (nomark _)) (pss_one (ps_expr (DK.pe_methS (pv 0) T.cl_Flash T.me_Flash_erase (ok_Flash_erase T) (hr.mono (by omega)) T.b_Flash_erase (fun σ => L2N.passAt tk σ) (pa_cons (pv 3) pa_nil)))) (pss_one (ps_if (pt_cmpR op_eq (pv 2) pe_str (nomark _)) (pss_one (ps_asg (pv 4) (DK.pg_subO (pv 0) (pv 3) T.o_Flash_setitem T.ns_Flash (FnOk.raw (ok_Flash_setitem T) T.b_Flash_setitem .nil) (fun σ => L2N.passAt tk σ) (hr.mono (by omega))))) (pss_one (ps_if (pt_cmpR op_eq (pv 2) pe_str (nomark _)) (pss_one (ps_expr (DK.pe_methS (pv 0) T.cl_Flash T.me_Flash_put_in (ok_Flash_put_in T) (hr.mono (by omega)) T.b_Flash_put_in (fun σ => L2N.passAt tk σ) (pa_cons (pv 3) (pa_cons (pv 4) pa_nil))))) (pss_one (ps_expr (pe_callS (ok_limit_power T) (hr.mono (by omega)) rfl T.g_limit_power T.F_limit_power.kp T.b_limit_power (fun σ => L2N.passAt tk σ) (pa_cons (pv 0) (pa_cons (pv 3) pa_nil)))))))))))))
    (pss_one (ps_ret (pe_tup (pa_cons pe_str (pa_cons pe_non (pa_cons pe_bl pa_nil)))))))), ?_⟩
    obtain ⟨b, ht, hb, hx⟩ := isDeed_t hd
    refine ⟨_, rfl, t, _, rfl, ht, rfl, _, _, rfl, _, _, rfl, _, _, rfl, rfl, ?_⟩
    unfold L2.tSeq
    dsimp only
    generalize hW : RK.wAs _ 5 _ _ = W
    have fin : ∀ {fld nm' : String} {v : V} {dv : PyData} {dy : Addr} {H' : Hp} {ps' : List (List Nat)} {p' : Option Nat}, H' dy = some (.xd [(fld, v)]) → Dx K H' noS v dv → Bt2 l f H H' → FlS K A.c_Flash H' f dx l ps' p' → runD d ps p = (res nm' dv, ps', p') → ∀ r, H' r = none → Q (.ref r) (upd H' r (.tup [.str (Str.ofString nm'), v, .bl true])) := fun {fld nm' v dv dy H' ps' p'} e1 hv bt hF' er r hr => by
      have s1 := same_new (o := .tup [.str (Str.ofString nm'), v, .bl true]) hr
      refine q _ r (bt.trans (Bt2.of s1)) ?_ ?_
      · rw [er]
        exact hF'.up s1
      · rw [er]
        exact mk_res upd_same (Dx.up (Out.of s1) hv)
    have hP : ∀ (v : V) (dv : PyData) (dy : Addr) (H' : Hp) (ps' : List (List Nat)) (p' : Option Nat), H' dy = some (.xd [("page", v)]) → Dx K H' noS v dv → Bt2 l f H H' → FlS K A.c_Flash H' f dx l ps' p' → runD d ps p = (res "page" dv, ps', p') → W (.ref A.c_NoPage) (some dy) [some (.ref f), some (.ref t), some (.str (Str.ofString (dName d))), some (dSpot d), some (.ref b), none] H' := fun v dv dy H' ps' p' e1 hv bt hF' er => by
      rw [← hW]
      refine .inl ⟨T.x_NoPage.te, fun a ha => ?_⟩
      refine ⟨_, rfl, rfl, rfl, dy, _, v, rfl, e1, rfl, ?_⟩
      refine ⟨_, rfl, dy, rfl, rfl, .ref A.c_RomError, .ref A.c_RomError, true, _, rfl, fun _ h => h, T.k_NoPage_RomError, e1, ?_⟩
      exact ⟨lenOk (n := 3) rfl (by decide), fun r hr => fin e1 hv bt hF' er r hr⟩
    have hB : ∀ (v : V) (dv : PyData) (dy : Addr) (H' : Hp) (ps' : List (List Nat)) (p' : Option Nat), H' dy = some (.xd [("block", v)]) → Dx K H' noS v dv → Bt2 l f H H' → FlS K A.c_Flash H' f dx l ps' p' → runD d ps p = (res "block" dv, ps', p') → W (.ref A.c_NoBlock) (some dy) [some (.ref f), some (.ref t), some (.str (Str.ofString (dName d))), some (dSpot d), some (.ref b), none] H' := fun v dv dy H' ps' p' e1 hv bt hF' er => by
      rw [← hW]
      refine .inr ⟨T.e_NoBlock_NoPage, .inl ⟨T.x_NoBlock.te, fun a ha => ?_⟩⟩
      refine ⟨_, rfl, rfl, rfl, dy, _, v, rfl, e1, rfl, ?_⟩
      refine ⟨_, rfl, dy, rfl, rfl, .ref A.c_RomError, .ref A.c_RomError, true, _, rfl, fun _ h => h, T.k_NoBlock_RomError, e1, ?_⟩
      exact ⟨lenOk (n := 3) rfl (by decide), fun r hr => fin e1 hv bt hF' er r hr⟩
    have hT : ∀ (v : V) (dv : PyData) (dy : Addr) (H' : Hp) (ps' : List (List Nat)) (p' : Option Nat), H' dy = some (.xd [("length", v)]) → Dx K H' noS v dv → Bt2 l f H H' → FlS K A.c_Flash H' f dx l ps' p' → runD d ps p = (res "long" dv, ps', p') → W (.ref A.c_TooLong) (some dy) [some (.ref f), some (.ref t), some (.str (Str.ofString (dName d))), some (dSpot d), some (.ref b), none] H' := fun v dv dy H' ps' p' e1 hv bt hF' er => by
      rw [← hW]
      refine .inr ⟨T.e_TooLong_NoPage, .inr ⟨T.e_TooLong_NoBlock, .inl ⟨T.x_TooLong.te, fun a ha => ?_⟩⟩⟩
      refine ⟨_, rfl, rfl, rfl, dy, _, v, rfl, e1, rfl, ?_⟩
      refine ⟨_, rfl, dy, rfl, rfl, .ref A.c_RomError, .ref A.c_RomError, true, _, rfl, fun _ h => h, T.k_TooLong_RomError, e1, ?_⟩
      exact ⟨lenOk (n := 3) rfl (by decide), fun r hr => fin e1 hv bt hF' er r hr⟩
    have hR : ∀ (v : V) (dv : PyData) (dy : Addr) (H' : Hp) (ps' : List (List Nat)) (p' : Option Nat), H' dy = some (.xd [("page", v)]) → Dx K H' noS v dv → Bt2 l f H H' → FlS K A.c_Flash H' f dx l ps' p' → runD d ps p = (res "written" dv, ps', p') → W (.ref A.c_Written) (some dy) [some (.ref f), some (.ref t), some (.str (Str.ofString (dName d))), some (dSpot d), some (.ref b), none] H' := fun v dv dy H' ps' p' e1 hv bt hF' er => by
      rw [← hW]
      refine .inr ⟨T.e_Written_NoPage, .inr ⟨T.e_Written_NoBlock, .inr ⟨T.e_Written_TooLong, .inl ⟨T.x_Written.te, fun a ha => ?_⟩⟩⟩⟩
      refine ⟨_, rfl, rfl, rfl, dy, _, v, rfl, e1, rfl, ?_⟩
      refine ⟨_, rfl, dy, rfl, rfl, .ref A.c_RomError, .ref A.c_RomError, true, _, rfl, fun _ h => h, T.k_Written_RomError, e1, ?_⟩
      exact ⟨lenOk (n := 3) rfl (by decide), fun r hr => fin e1 hv bt hF' er r hr⟩
    have hL : ∀ (v : V) (dv : PyData) (dy : Addr) (H' : Hp) (ps' : List (List Nat)) (p' : Option Nat), H' dy = some (.xd [("seen", v)]) → Dx K H' noS v dv → Bt2 l f H H' → FlS K A.c_Flash H' f dx l ps' p' → runD d ps p = (res "lost" dv, ps', p') → W (.ref A.c_PowerLost) (some dy) [some (.ref f), some (.ref t), some (.str (Str.ofString (dName d))), some (dSpot d), some (.ref b), none] H' := fun v dv dy H' ps' p' e1 hv bt hF' er => by
      rw [← hW]
      refine .inr ⟨T.e_PowerLost_NoPage, .inr ⟨T.e_PowerLost_NoBlock, .inr ⟨T.e_PowerLost_TooLong, .inr ⟨T.e_PowerLost_Written, .inl ⟨T.x_PowerLost.te, fun a ha => ?_⟩⟩⟩⟩⟩
      refine ⟨_, rfl, rfl, rfl, dy, _, v, rfl, e1, rfl, ?_⟩
      refine ⟨_, rfl, dy, rfl, rfl, .ref A.c_RomError, .ref A.c_RomError, true, _, rfl, fun _ h => h, T.k_PowerLost_RomError, e1, true, rfl, ifT rfl ?_⟩
      refine ⟨_, rfl, dy, rfl, rfl, .ty "ValueError", .type "ValueError", true, _, rfl, fun _ h => h, T.k_PowerLost_ValueError, e1, ?_⟩
      exact ⟨lenOk (n := 3) rfl (by decide), fun r hr => fin e1 hv bt hF' er r hr⟩
    have fini : ∀ (H' : Hp) (ps' : List (List Nat)) (p' : Option Nat), Bt2 l f H H' → FlS K A.c_Flash H' f dx l ps' p' → runD d ps p = (okR, ps', p') → ∀ r, H' r = none → Q (.ref r) (upd H' r (.tup [.str (Str.ofString "done"), .non, .bl true])) := fun H' ps' p' bt hF' er r hr => by
      have s1 := same_new (o := .tup [.str (Str.ofString "done"), .non, .bl true]) hr
      refine q _ r (bt.trans (Bt2.of s1)) ?_ ?_
      · rw [er]
        exact hF'.up s1
      · rw [er]
        exact mk_res upd_same .non
    clear hW
    have empD : ∀ {G : Hp} {z : Addr}, SqT K G z [] → Dx K G noS (.ref z) (.tuple []) := fun h => .tup (xt_sq h fun _ z => z.elim) .nil
    cases d with
    | erase x =>
      refine ⟨_, rfl, rfl, _, rfl, ifT (decide_eq_true rfl) ?_⟩
      refine ⟨_, rfl, f, dx, _, rfl, hF.1, rfl, _, rfl, f, dx, l, p, ps, x, datV x, rfl, hF, hpl, dp_spot hx, fun hin => ?_, fun k ek hk => ?_⟩
      · exact fun dy H1 s1 n1 e1 => hB x (datV x) dy H1 ps p e1 (dx_spot hx) (Bt2.of s1) (hF.up s1) (if_neg (by rw [hin]; decide))
      · subst ek
        have er : runD (.erase (.int (k : Int))) ps p = (endR (decide (lasts p 8 = 8)), eraN ps k (lasts p 8), less p (lasts p 8)) := run_erase hk
        refine ⟨fun ok H' bt hF' => ?_, fun no dy t0 H' bt hF' e1 ht0 => ?_⟩
        · rw [ok] at er
          exact ⟨lenOk (n := 3) rfl (by decide), fun r hr => fini H' _ _ bt hF' er r hr⟩
        · rw [no] at er
          exact hL (.ref t0) (.tuple []) dy H' _ _ e1 (empD ht0) bt hF' er
    | write x ws =>
      refine ⟨_, rfl, rfl, _, rfl, ifF nm_write_erase ?_⟩
      refine ⟨_, rfl, rfl, _, rfl, ifT nm_write_write ?_⟩
      refine ⟨_, rfl, _, rfl, _, rfl, f, dx, _, rfl, hF.1, f, dx, l, p, ps, x, datV x, b, ws, rfl, hF, hpl, dp_spot hx, hb, by have := hd.2.1; omega, fun hin => ?_, fun k ek hk => ⟨fun h16 => ?_, fun h16 hbl => ?_, fun h16 hbl => ?_⟩⟩
      · exact fun dy H1 s1 n1 e1 => hP x (datV x) dy H1 ps p e1 (dx_spot hx) (Bt2.of s1) (hF.up s1) (if_neg (by rw [hin]; decide))
      · subst ek
        exact fun dy H1 s1 n1 e1 => hT _ _ dy H1 ps p e1 (.int _) (Bt2.of s1) (hF.up s1) (by rw [run_write hk, if_pos h16])
      · subst ek
        exact fun dy H1 s1 n1 e1 => hR _ _ dy H1 ps p e1 (.int _) (Bt2.of s1) (hF.up s1) (by rw [run_write hk, if_neg (fun z => z h16), if_pos hbl])
      · subst ek
        have er : runD (.write (.int (k : Int)) ws) ps p = (endR (decide (lasts p (cntW ws 16) = cntW ws 16)), ps.set k (wrtW ws (lasts p (cntW ws 16))), less p (lasts p (cntW ws 16))) := by rw [run_write hk, if_neg (fun z => z h16), if_neg (fun z => z hbl), put_one h16 (by omega) hbl]
        refine ⟨fun ok H' bt hF' => ?_, fun no dy t0 H' bt hF' e1 ht0 => ?_⟩
        · rw [ok] at er
          exact ⟨lenOk (n := 3) rfl (by decide), fun r hr => fini H' _ _ bt hF' er r hr⟩
        · rw [no] at er
          exact hL (.ref t0) (.tuple []) dy H' _ _ e1 (empD ht0) bt hF' er
    | put x ws =>
      refine ⟨_, rfl, rfl, _, rfl, ifF nm_put_erase ?_⟩
      refine ⟨_, rfl, rfl, _, rfl, ifF nm_put_write ?_⟩
      refine ⟨_, rfl, rfl, _, rfl, ifT nm_put_put ?_⟩
      refine ⟨_, rfl, f, dx, _, rfl, hF.1, rfl, _, rfl, _, rfl, f, dx, l, p, ps, x, datV x, b, ws, rfl, hF, hpl, dp_spot hx, hb, by have := hd.2.1; omega, fun hin => ?_, fun k ek hk => ⟨fun hbig => ?_, fun hsm => ⟨fun r hr => ?_, fun hn => ?_⟩⟩⟩
      · exact fun dy H1 s1 n1 e1 => hP x (datV x) dy H1 ps p e1 (dx_spot hx) (Bt2.of s1) (hF.up s1) (if_neg (by rw [hin]; decide))
      · subst ek
        exact fun dy H1 s1 n1 e1 => hP _ _ dy H1 ps p e1 (.int _) (Bt2.of s1) (hF.up s1) (by rw [run_put hk, if_pos hbig])
      · subst ek
        exact fun dy H1 s1 n1 e1 => hR _ _ dy H1 ps p e1 (.int _) (Bt2.of s1) (hF.up s1) (by rw [run_put hk, if_neg (by omega)]; unfold putD; rw [hr])
      · subst ek
        have er : runD (.put (.int (k : Int)) ws) ps p = (endR (fillN (rowsN k ws (cntR ws)) ps p).2.2, (fillN (rowsN k ws (cntR ws)) ps p).1, (fillN (rowsN k ws (cntR ws)) ps p).2.1) := by rw [run_put hk, if_neg (by omega)]; unfold putD; rw [hn]
        refine ⟨fun ok H' bt hF' => ?_, fun no dy t0 H' bt hF' e1 ht0 => ?_⟩
        · rw [ok] at er
          exact ⟨lenOk (n := 3) rfl (by decide), fun r hr => fini H' _ _ bt hF' er r hr⟩
        · rw [no] at er
          exact hL (.ref t0) (.tuple []) dy H' _ _ e1 (empD ht0) bt hF' er
    | power n =>
      refine ⟨_, rfl, rfl, _, rfl, ifF nm_power_erase ?_⟩
      refine ⟨_, rfl, rfl, _, rfl, ifF nm_power_write ?_⟩
      refine ⟨_, rfl, rfl, _, rfl, ifF nm_power_put ?_⟩
      have hn : powD (datV (lV n)) = true := by
        cases n with
        | none => rfl
        | some k => exact decide_eq_true (show (0 : Int) ≤ (k : Int) by omega)
      refine ⟨_, rfl, _, rfl, f, dx, l, lV p, lV n, datV (lV n), rfl, hF.1, dp_spot hx, .inl ⟨hn, ?_⟩⟩
      refine ⟨lenOk (n := 3) rfl (by decide), fun r hr => fini _ ps n ?_ ⟨upd_same, hF.2.butI hF.1 fun b hb => upd_ne hb⟩ rfl r hr⟩
      exact fun b o _ h2 h => by rw [upd_ne h2]; exact h
end
end R1

namespace R1
open PySem PySem.Spec PyProof.Rows L2 RK
local macro_rules | `(tactic| walk_at "sq") => `(tactic| first
  | exact SqL.of upd_same | exact upd_same | exact SqL.of (by assumption) | exact SqL.of (by rw [upd_ne (by assumption)]; assumption) | assumption)
local macro_rules | `(tactic| walk_at "sd") => `(tactic| first
  | assumption | omega | (refine Or.inl ⟨?_, ?_⟩ <;> omega) | (show _ ∧ _; constructor <;> omega) | (show _ ≠ _; simp; omega) | (exact Or.inl ⟨by decide, by decide⟩) | (exact Or.inr ⟨by decide, by decide⟩) | (show _ < _; decide) | (show _ ≤ _; decide))
local macro_rules | `(tactic| walk_at "at") => `(tactic| first | rfl | (refine atI_intV ?_ ?_ <;> omega) | assumption)
local macro_rules | `(tactic| walk_at "s1") => `(tactic| first
  | refine ⟨_, rfl, ?_⟩ | refine ⟨_, _, rfl, rfl, ?_⟩ | refine ⟨rfl, ?_⟩
  | refine ⟨_, _, _, _, rfl, rfl, by walk_at "sq", by walk_at "at", ?_⟩
  | refine Or.inl ⟨_, rfl, ?_⟩
  | refine ⟨_, _, rfl, Or.inl (by walk_at "sq"), ?_⟩
  | refine And.intro (by walk_at "sd") ?_)
local macro_rules | `(tactic| walk_at "s") => `(tactic| repeat walk_at "s1")

def spExp (K : PySem.W.Frag) : Sp := fun vs H Q _ => ∃ (l pw t : Addr) (ps : List (List Nat)) (p : Option Nat) (d : Deed), vs = [.ref l, .ref pw, .ref t] ∧ PgK K H l ps ∧ H pw = some (.lst [lV p]) ∧ l ≠ pw ∧ ps.length = 144 ∧ IsDeed K H t d ∧
  ∀ H' r, Bt2 l pw H H' → PgK K H' l (runD d ps p).2.1 → H' pw = some (.lst [lV (runD d ps p).2.2]) → Dx K H' noS (.ref r) (runD d ps p).1 → Q (.ref r) H'
theorem nm_power_power : decide (V.str (Str.ofString "power") = V.str (Str.ofString "power")) = true := by decide +kernel
theorem nm_erase_power : decide (V.str (Str.ofString "erase") = V.str (Str.ofString "power")) = false := by decide +kernel
theorem nm_write_power : decide (V.str (Str.ofString "write") = V.str (Str.ofString "power")) = false := by decide +kernel
theorem nm_put_power : decide (V.str (Str.ofString "put") = V.str (Str.ofString "power")) = false := by decide +kernel
section
variable {P : Program} {w : World} {K : PySem.W.Frag} {mg : Str → Option Value} {base : Heap} {A : Ads}
theorem ok_law_expected (T : Txt K mg A) : FnOk P w K mg base CX0 8 A.a_law_expected A.d_law_expected ["_law_pages", "_law_power", "_law_deed_here"] (spExp K) := by
  refine T.F_law_expected.ok sc_law_expected (fun vs H Q E h => ?_) (fun cdv B outer s H vs Q E hr h => ?_)
  · obtain ⟨l, pw, t, ps, p, d, rfl, _⟩ := h
    rfl
  · obtain ⟨l, pw, t, ps, p, d, rfl, hl, hp, nlp, hpl, hd, q⟩ := h
    refine ⟨_, (pss_cons (ps_asg (pv 2) (pg_tup (by rfl) (pgs_cons (pg_name (i := 3) sc_law_expected.nd rfl (.inl rfl)) (pgs_cons (pg_name (i := 4) sc_law_expected.nd rfl (.inl rfl)) (pgs_cons (pg_name (i := 5) sc_law_expected.nd rfl (.inl rfl)) pgs_nil)))))
    (pss_cons (ps_set (i := 6) sc_law_expected.nd rfl (.inl rfl) (pe_op op_repT (pe_tup (pa_cons pe_int pa_nil)) pe_int))
    (pss_cons (ps_if (pt_cmpR op_eq (pv 3) pe_str (nomark _)) (pss_cons (ps_asg (pv 4) (pg_sub (pv 1) pe_int set_list))
    (pss_one (ps_ret (pe_tup (pa_cons pe_str (pa_cons pe_non (pa_cons pe_bl pa_nil))))))) pss_nil)
    (pss_cons (ps_set (i := 7) sc_law_expected.nd rfl (.inl rfl) pe_bl)
    (pss_cons (ps_if (pt_cmpR op_eq (pv 3) pe_str (nomark _)) (pss_cons (ps_if (pt_not (pt_val (pe_call (ok_law_is_below T) (hr.mono (by omega)) rfl T.g_law_is_below T.F_law_is_below.kp T.b_law_is_below .nil pass0 (pa_cons (pv 4) (pa_cons pe_int pa_nil))))) (pss_one (ps_ret (pe_tup (pa_cons pe_str (pa_cons (pv 4) (pa_cons pe_bl pa_nil)))))) pss_nil)
    (pss_one (ps_set (i := 7) sc_law_expected.nd rfl (.inl rfl) (pe_call (ok_law_erase T) (hr.mono (by omega)) rfl T.g_law_erase T.F_law_erase.kp T.b_law_erase .nil pass0 (pa_cons (pv 0) (pa_cons (pv 1) (pa_cons (pv 4) pa_nil))))))) (pss_cons (ps_if (pt_not (pt_val (pe_call (ok_law_is_below T) (hr.mono (by omega)) rfl T.g_law_is_below T.F_law_is_below.kp T.b_law_is_below .nil pass0 (pa_cons (pv 4) (pa_cons pe_int pa_nil))))) (pss_one (ps_ret (pe_tup (pa_cons pe_str (pa_cons (pv 4) (pa_cons pe_bl pa_nil)))))) pss_nil)
    (pss_cons (ps_if (PW.pt (pw_and (pt_cmpR op_eq (pv 3) pe_str (nomark _)) (pw_and1 (pt_cmpR op_ne (pe_callB len_seq (by rfl) T.n_len (by decide +kernel) (pa_cons (pv 5) pa_nil)) pe_int (nomark _))))) (pss_one (ps_ret (pe_tup (pa_cons pe_str (pa_cons (pe_callB len_seq (by rfl) T.n_len (by decide +kernel) (pa_cons (pv 5) pa_nil)) (pa_cons pe_bl pa_nil)))))) pss_nil)
    (pss_cons (ps_if (PW.pt (pw_and (pt_cmpR op_eq (pv 3) pe_str (nomark _)) (pw_and1 (pt_cmpR (op_neD hr.units) (pe_ix ix_list (pv 0) (pv 4) (fun _ _ => rfl)) (pv 6) (nomark _))))) (pss_one (ps_ret (pe_tup (pa_cons pe_str (pa_cons (pv 4) (pa_cons pe_bl pa_nil)))))) pss_nil)
    (pss_cons (ps_if (PW.pt (pw_and (pt_cmpR op_eq (pv 3) pe_str (nomark _)) (pw_and1 (pt_cmpR op_gt (pe_callB len_seq (by rfl) T.n_len (by decide +kernel) (pa_cons (pv 5) pa_nil)) (pe_op op_mul pe_int (pe_op op_sub pe_int (pv 4))) (nomark _))))) (pss_one (ps_ret (pe_tup (pa_cons pe_str (pa_cons pe_int (pa_cons pe_bl pa_nil)))))) pss_nil)
    (pss_cons (ps_for PassesOwn.never rfl (pi_list (pe_call (ok_law_rows T) (hr.mono (by omega)) rfl T.g_law_rows T.F_law_rows.kp T.b_law_rows .nil pass0 (pa_cons (pv 4) (pa_cons (pv 5) pa_nil)))) (pg_tup (by rfl) (pgs_cons (pg_name (i := 8) sc_law_expected.nd rfl (.inl rfl)) (pgs_cons (pg_name (i := 9) sc_law_expected.nd rfl (.inl rfl)) pgs_nil)))
      (pss_one (ps_if (pt_cmpR (op_neD hr.units) (pe_ix ix_list (pv 0) (pv 8) (fun _ _ => rfl)) (pv 6) (nomark _)) (pss_one (ps_ret (pe_tup (pa_cons pe_str (pa_cons (pv 8) (pa_cons pe_bl pa_nil)))))) pss_nil)))
    (pss_one (ps_set (i := 7) sc_law_expected.nd rfl (.inl rfl) (pe_call (ok_law_fill T) (hr.mono (by omega)) rfl T.g_law_fill T.F_law_fill.kp T.b_law_fill .nil pass0 (pa_cons (pv 0) (pa_cons (pv 1) (pa_cons (pv 4) (pa_cons (pv 5) pa_nil)))))))))))))
    (pss_cons (ps_if (pt_val (pv 7)) (pss_one (ps_ret (pe_tup (pa_cons pe_str (pa_cons pe_non (pa_cons pe_bl pa_nil)))))) pss_nil)
    (pss_one (ps_ret (pe_tup (pa_cons pe_str (pa_cons (pe_tup pa_nil) (pa_cons pe_bl pa_nil)))))))))))), ?_⟩
    obtain ⟨b, ht, hb, hx⟩ := isDeed_t hd
    have fin : ∀ {nm' : String} {v : V} {dv : PyData} {H' : Hp} {ps' : List (List Nat)} {p' : Option Nat}, Dx K H' noS v dv → Bt2 l pw H H' → PgK K H' l ps' → H' pw = some (.lst [lV p']) → runD d ps p = (res nm' dv, ps', p') → ∀ r, H' r = none → Q (.ref r) (upd H' r (.tup [.str (Str.ofString nm'), v, .bl true])) := fun {nm' v dv H' ps' p'} hv bt hl' hp' er r hr => by
      have s1 := same_new (o := .tup [.str (Str.ofString nm'), v, .bl true]) hr
      refine q _ r (bt.trans (Bt2.of s1)) ?_ ?_ ?_
      · rw [er]
        exact hl'.same s1
      · rw [er]
        exact s1 _ _ hp'
      · rw [er]
        exact mk_res upd_same (Dx.up (Out.of s1) hv)
    have empD : ∀ {G : Hp} {z : Addr}, SqT K G z [] → Dx K G noS (.ref z) (.tuple []) := fun h => .tup (xt_sq h fun _ z => z.elim) .nil
    refine ⟨_, rfl, t, _, rfl, ht, rfl, _, _, rfl, _, _, rfl, _, _, rfl, rfl, ?_⟩
    refine ⟨lenOk (n := 1) rfl (by decide), fun t1 ht1 => ?_⟩
    have s1 := same_new (o := .tup [V.int 65535]) ht1
    have v1 : upd H t1 (.tup [V.int 65535]) t1 = some (.tup [V.int 65535]) := upd_same
    generalize upd H t1 (.tup [V.int 65535]) = G1 at s1 v1 ⊢
    refine ⟨t1, 16, _, rfl, rfl, SqT.of v1, (fun z => by cases z), by decide, by decide, by decide, fun t2 nt2 => ?_⟩
    have s2 := same_new (o := .tup (List.replicate (16 : Int).toNat [V.int 65535]).flatten) nt2
    have v2 : upd G1 t2 (.tup (List.replicate (16 : Int).toNat [V.int 65535]).flatten) t2 = some (.tup (intV blank)) := upd_same
    generalize upd G1 t2 (.tup (List.replicate (16 : Int).toNat [V.int 65535]).flatten) = G2 at s2 v2 ⊢
    have ht2 : SqT K G2 t2 (intV blank) := SqT.of v2
    have s12 := s1.trans s2
    have hp2 := s12 _ _ hp
    have hl2 := hl.same s12
    have hb2 := sqT_up hb s12
    have bt2 := Bt2.of (l := l) (p := pw) s12
    have dpx : ∀ {G : Hp} {x : V}, Spot x → Dp K G x (datV x) := fun h => dp_spot h
    cases d with
    | power n =>
      refine ⟨_, rfl, rfl, _, rfl, ifT nm_power_power ?_⟩
      refine ⟨_, rfl, _, rfl, pw, _, 0, 0, rfl, rfl, hp2, rfl, ?_⟩
      refine ⟨lenOk (n := 3) rfl (by decide), fun r hr => fin (p' := n) .non (bt2.trans fun b o _ h2 h => by rw [upd_ne h2]; exact h) (hl2.but nlp hp2 fun b hb => upd_ne hb) upd_same rfl r hr⟩
    | erase x =>
      refine ⟨_, rfl, rfl, _, rfl, ifF nm_erase_power ?_⟩
      refine ⟨_, rfl, rfl, _, rfl, ifT nm_erase_erase ?_⟩
      refine ⟨_, rfl, x, datV x, 18, rfl, dpx hx, ?_⟩
      by_cases hin : inD (datV x) 0 17 = true
      · refine ⟨_, rfl, ifF (c := !inD (datV x) 0 17) (by rw [hin]; rfl) ?_⟩
        obtain ⟨ex, hk⟩ := spot_in (x := x) hx hin
        generalize numV x = k at ex hk
        subst ex
        have hk : k < 18 := by omega
        refine ⟨_, rfl, _, rfl, _, rfl, l, pw, ps, p, k, rfl, hl2, hp2, nlp, hk, hpl, fun H5 bt5 pg5 hp5 => ?_⟩
        have er := run_erase (ps := ps) (p := p) hk
        generalize decide (lasts p 8 = 8) = ok at er ⊢
        have bt25 := bt2.trans bt5
        cases ok with
        | true => exact ⟨_, rfl, true, rfl, ifT rfl ⟨lenOk (n := 3) rfl (by decide), fun r hr => fin .non bt25 pg5 hp5 er r hr⟩⟩
        | false =>
          refine ⟨_, rfl, false, rfl, ifF rfl ?_⟩
          refine ⟨lenOk (n := 0) rfl (by decide), fun z0 hz0 => ?_⟩
          have s5 := same_new (o := .tup []) hz0
          have ez0 : upd H5 z0 (.tup []) z0 = some (.tup []) := upd_same
          generalize upd H5 z0 (.tup []) = H6 at s5 ez0 ⊢
          exact ⟨lenOk (n := 3) rfl (by decide), fun r hr => fin (empD (SqT.of ez0)) (bt25.trans (Bt2.of s5)) (pg5.same s5) (s5 _ _ hp5) er r hr⟩
      · have hin : inD (datV x) 0 17 = false := by cases h : inD (datV x) 0 17 <;> first | rfl | exact absurd h hin
        refine ⟨_, rfl, ifT (c := !inD (datV x) 0 17) (by rw [hin]; rfl) ?_⟩
        exact ⟨_, rfl, lenOk (n := 3) rfl (by decide), fun r hr => fin (dx_spot hx) bt2 hl2 hp2 (if_neg (by rw [hin]; decide)) r hr⟩
    | write x ws =>
      refine ⟨_, rfl, rfl, _, rfl, ifF nm_write_power ?_⟩
      refine ⟨_, rfl, rfl, _, rfl, ifF nm_write_erase ?_⟩
      refine ⟨_, rfl, x, datV x, 144, rfl, dpx hx, ?_⟩
      have hwl : ws.length ≤ 100 := by have := hd.2.1; omega
      by_cases hin : inD (datV x) 0 143 = true
      · refine ⟨_, rfl, ifF (c := !inD (datV x) 0 143) (by rw [hin]; rfl) ?_⟩
        obtain ⟨ex, hk⟩ := spot_in (x := x) hx hin
        generalize numV x = k at ex hk
        subst ex
        have hk : k < 144 := by omega
        refine ⟨_, rfl, rfl, _, rfl, ifT nm_write_write ?_⟩
        refine ⟨_, rfl, b, _, rfl, .inr hb2, ?_⟩
        rw [show (intV (dWords (.write (.int (k : Int)) ws))).length = ws.length from intV_len ws]
        refine ⟨rfl, _, rfl, ?_⟩
        by_cases h16 : ws.length = 16
        · refine ifF (by rw [h16]; rfl) ?_
          refine ⟨_, rfl, rfl, _, rfl, ifT nm_write_write ?_⟩
          obtain ⟨xp, elp, hop⟩ := id hl2
          obtain ⟨tq, hq1, hq2⟩ := hop.2 _ _ (getD_at (b := k) (by omega))
          refine ⟨_, rfl, _, rfl, l, xp, _, _, rfl, rfl, SqL.of elp, atI_nat hq1, ?_⟩
          refine ⟨_, rfl, _, _, dp_ints hq2, dp_ints ht2, ints_shaped _, ints_shaped _, ?_⟩
          rw [eqv_ints]
          by_cases hbl : ps.getD k [] = blank
          · refine ⟨_, rfl, ifF (c := !decide (ps.getD k [] = blank)) (by rw [decide_eq_true hbl]; rfl) ?_⟩
            refine ⟨_, rfl, rfl, _, rfl, ifF nm_write_put ?_⟩
            have hput : runD (.write (.int (k : Int)) ws) ps p = putD k ws ps p := by rw [run_write hk, if_neg (fun z => z h16), if_neg (fun z => z hbl)]
            have hkc : k + cntR ws ≤ 144 := by unfold cntR; omega
            refine ⟨_, rfl, _, rfl, b, k, ws, rfl, hb2, hwl, by omega, fun H3 R xs s3 nR eR hR => ?_⟩
            have ht3 := sqT_up ht2 s3
            have hl3 := hl2.same s3
            have hp3 := s3 _ _ hp2
            have hb3 := sqT_up hb2 s3
            have bt3 := bt2.trans (Bt2.of (l := l) (p := pw) s3)
            have hrm : ∀ r ∈ rowsN k ws (cntR ws), r.1 < 144 := fun r h => by have := (rowsN_of h).1; omega
            have hrd : ∀ (i : Nat) (r : Nat × List Nat), (rowsN k ws (cntR ws))[i]? = some r → fndW ps ((rowsN k ws (cntR ws)).take i) = none → ps.getD r.1 [] ≠ blank → fndW ps (rowsN k ws (cntR ws)) = some r := fun i r hi hn hb => by
              have hsp : rowsN k ws (cntR ws) = (rowsN k ws (cntR ws)).take (i + 1) ++ (rowsN k ws (cntR ws)).drop (i + 1) := (List.take_append_drop _ _).symm
              have htk : (rowsN k ws (cntR ws)).take (i + 1) = (rowsN k ws (cntR ws)).take i ++ [r] := by rw [List.take_add_one, hi]; rfl
              unfold fndW at hn ⊢
              rw [hsp, List.find?_append, htk, List.find?_append, hn, List.find?_cons_of_pos (by rw [decide_eq_true_eq]; exact hb)]
              rfl
            have hsl : SqL K H3 R xs := SqL.of eR
            refine ⟨R, rfl, ⟨_, hsl⟩, for_it (walk_list (K := K) (a := R) (xs := xs)) (fun i σ Hc => ∃ o8 o9, σ = [some (.ref l), some (.ref pw), some (.ref t), some (.str (Str.ofString "write")), some (.int (k : Int)), some (.ref b), some (.ref t2), some (.bl true), o8, o9] ∧ Hc = H3 ∧ fndW ps ((rowsN k ws (cntR ws)).take i) = none) ⟨_, _, rfl, rfl, rfl⟩ (fun i σ Hc _ y => by obtain ⟨_, _, _, rfl, _⟩ := y; exact hsl) (fun i x σ Hc Hd hi y e => ?_) (fun σ Hc y => ?_)⟩
            · obtain ⟨o8, o9, rfl, rfl, hfn⟩ := y
              obtain ⟨rfl, e⟩ := e
              have hi2 : i < (rowsN k ws (cntR ws)).length := by rw [← hR.1]; exact hi
              have hri := List.getElem?_eq_getElem hi2
              obtain ⟨v, hv, a1, b1, rfl, ha, hb1⟩ := hR.2 i _ hri
              have hm1 := hrm _ (List.getElem_mem hi2)
              generalize (rowsN k ws (cntR ws))[i] = r at *
              rw [hv] at e
              cases e
              obtain ⟨xp, elp, hop⟩ := id hl3
              obtain ⟨tq, hq1, hq2⟩ := hop.2 _ _ (getD_at (b := r.1) (by omega))
              refine ⟨a1, _, rfl, ha, rfl, _, _, rfl, _, _, rfl, rfl, ?_⟩
              refine ⟨_, rfl, _, rfl, l, xp, _, _, rfl, rfl, SqL.of elp, atI_nat hq1, ?_⟩
              refine ⟨_, rfl, _, _, dp_ints hq2, dp_ints ht3, ints_shaped _, ints_shaped _, ?_⟩
              rw [eqv_ints]
              by_cases hbl : ps.getD r.1 [] = blank
              · refine ⟨_, rfl, ifF (c := !decide (ps.getD r.1 [] = blank)) (by rw [decide_eq_true hbl]; rfl) ?_⟩
                refine ⟨_, _, rfl, rfl, ?_⟩
                rw [List.take_add_one, hri]
                unfold fndW at hfn ⊢
                rw [List.find?_append, hfn]
                show (([r] : List (Nat × List Nat)).find? (fun r => decide (ps.getD r.1 [] ≠ blank))) = none
                rw [List.find?_cons_of_neg (by rw [decide_eq_true_eq]; exact fun z => z hbl)]
                rfl
              · refine ⟨_, rfl, ifT (c := !decide (ps.getD r.1 [] = blank)) (by rw [decide_eq_false hbl]; rfl) ?_⟩
                have hfd := hrd i r hri hfn hbl
                exact ⟨_, rfl, lenOk (n := 3) rfl (by decide), fun r0 hr0 => fin (.int _) bt3 hl3 hp3 (by rw [hput]; unfold putD; rw [hfd]) r0 hr0⟩
            · obtain ⟨o8, o9, rfl, rfl, hfn⟩ := y
              rw [List.take_of_length_le (by rw [hR.1]; exact Nat.le_refl _)] at hfn
              refine ⟨_, rfl, _, rfl, _, rfl, _, rfl, l, pw, b, ps, p, k, ws, rfl, hl3, hp3, nlp, hb3, hwl, by omega, hpl, fun H4 bt4 pg4 hp4 => ?_⟩
              have er : runD (.write (.int (k : Int)) ws) ps p = (endR (fillN (rowsN k ws (cntR ws)) ps p).2.2, (fillN (rowsN k ws (cntR ws)) ps p).1, (fillN (rowsN k ws (cntR ws)) ps p).2.1) := by
                rw [hput]
                unfold putD
                rw [hfn]
              generalize (fillN (rowsN k ws (cntR ws)) ps p).2.2 = ok at er ⊢
              have bt34 := bt3.trans bt4
              cases ok with
              | true => exact ⟨_, rfl, true, rfl, ifT rfl ⟨lenOk (n := 3) rfl (by decide), fun r hr => fin .non bt34 pg4 hp4 er r hr⟩⟩
              | false =>
                refine ⟨_, rfl, false, rfl, ifF rfl ?_⟩
                refine ⟨lenOk (n := 0) rfl (by decide), fun z0 hz0 => ?_⟩
                have s5 := same_new (o := .tup []) hz0
                have ez0 : upd H4 z0 (.tup []) z0 = some (.tup []) := upd_same
                generalize upd H4 z0 (.tup []) = H5 at s5 ez0 ⊢
                exact ⟨lenOk (n := 3) rfl (by decide), fun r hr => fin (empD (SqT.of ez0)) (bt34.trans (Bt2.of s5)) (pg4.same s5) (s5 _ _ hp4) er r hr⟩
          · refine ⟨_, rfl, ifT (c := !decide (ps.getD k [] = blank)) (by rw [decide_eq_false hbl]; rfl) ?_⟩
            exact ⟨_, rfl, lenOk (n := 3) rfl (by decide), fun r hr => fin (.int _) bt2 hl2 hp2 (by rw [run_write hk, if_neg (fun z => z h16), if_pos hbl]) r hr⟩
        · refine ifT (by show (!decide (V.int (ws.length : Int) = V.int 16)) = true; rw [decide_eq_false (vint (by omega))]; rfl) ?_
          refine ⟨_, rfl, b, _, rfl, .inr hb2, ?_⟩
          rw [show (intV (dWords (.write (.int (k : Int)) ws))).length = ws.length from intV_len ws]
          exact ⟨lenOk (n := 3) rfl (by decide), fun r hr => fin (.int _) bt2 hl2 hp2 (by rw [run_write hk, if_pos h16]) r hr⟩
      · have hin : inD (datV x) 0 143 = false := by cases h : inD (datV x) 0 143 <;> first | rfl | exact absurd h hin
        refine ⟨_, rfl, ifT (c := !inD (datV x) 0 143) (by rw [hin]; rfl) ?_⟩
        exact ⟨_, rfl, lenOk (n := 3) rfl (by decide), fun r hr => fin (dx_spot hx) bt2 hl2 hp2 (if_neg (by rw [hin]; decide)) r hr⟩
    | put x ws =>
      refine ⟨_, rfl, rfl, _, rfl, ifF nm_put_power ?_⟩
      refine ⟨_, rfl, rfl, _, rfl, ifF nm_put_erase ?_⟩
      refine ⟨_, rfl, x, datV x, 144, rfl, dpx hx, ?_⟩
      have hwl : ws.length ≤ 100 := by have := hd.2.1; omega
      by_cases hin : inD (datV x) 0 143 = true
      · refine ⟨_, rfl, ifF (c := !inD (datV x) 0 143) (by rw [hin]; rfl) ?_⟩
        obtain ⟨ex, hk⟩ := spot_in (x := x) hx hin
        generalize numV x = k at ex hk
        subst ex
        have hk : k < 144 := by omega
        refine ⟨_, rfl, rfl, _, rfl, ifF nm_put_write ?_⟩
        refine ⟨_, rfl, rfl, _, rfl, ifF nm_put_write ?_⟩
        refine ⟨_, rfl, rfl, _, rfl, ifT nm_put_put ?_⟩
        refine ⟨_, rfl, b, _, rfl, .inr hb2, ?_⟩
        rw [show (intV (dWords (.put (.int (k : Int)) ws))).length = ws.length from intV_len ws]
        refine ⟨_, rfl, _, _, rfl, rfl, _, _, rfl, rfl, .inl ⟨by decide, by decide⟩, _, _, rfl, rfl, _, rfl, ?_⟩
        by_cases hbig : 144 < k + cntR ws
        · refine ifT (decide_eq_true (by unfold cntR at hbig; omega)) ?_
          exact ⟨lenOk (n := 3) rfl (by decide), fun r hr => fin (.int _) bt2 hl2 hp2 (by rw [run_put hk, if_pos hbig]) r hr⟩
        · refine ifF (decide_eq_false (by unfold cntR at hbig; omega)) ?_
          have hput : runD (.put (.int (k : Int)) ws) ps p = putD k ws ps p := by rw [run_put hk, if_neg hbig]
          have hkc : k + cntR ws ≤ 144 := by omega
          refine ⟨_, rfl, _, rfl, b, k, ws, rfl, hb2, hwl, by omega, fun H3 R xs s3 nR eR hR => ?_⟩
          have ht3 := sqT_up ht2 s3
          have hl3 := hl2.same s3
          have hp3 := s3 _ _ hp2
          have hb3 := sqT_up hb2 s3
          have bt3 := bt2.trans (Bt2.of (l := l) (p := pw) s3)
          have hrm : ∀ r ∈ rowsN k ws (cntR ws), r.1 < 144 := fun r h => by have := (rowsN_of h).1; omega
          have hrd : ∀ (i : Nat) (r : Nat × List Nat), (rowsN k ws (cntR ws))[i]? = some r → fndW ps ((rowsN k ws (cntR ws)).take i) = none → ps.getD r.1 [] ≠ blank → fndW ps (rowsN k ws (cntR ws)) = some r := fun i r hi hn hb => by
            have hsp : rowsN k ws (cntR ws) = (rowsN k ws (cntR ws)).take (i + 1) ++ (rowsN k ws (cntR ws)).drop (i + 1) := (List.take_append_drop _ _).symm
            have htk : (rowsN k ws (cntR ws)).take (i + 1) = (rowsN k ws (cntR ws)).take i ++ [r] := by rw [List.take_add_one, hi]; rfl
            unfold fndW at hn ⊢
            rw [hsp, List.find?_append, htk, List.find?_append, hn, List.find?_cons_of_pos (by rw [decide_eq_true_eq]; exact hb)]
            rfl
          have hsl : SqL K H3 R xs := SqL.of eR
          refine ⟨R, rfl, ⟨_, hsl⟩, for_it (walk_list (K := K) (a := R) (xs := xs)) (fun i σ Hc => ∃ o8 o9, σ = [some (.ref l), some (.ref pw), some (.ref t), some (.str (Str.ofString "put")), some (.int (k : Int)), some (.ref b), some (.ref t2), some (.bl true), o8, o9] ∧ Hc = H3 ∧ fndW ps ((rowsN k ws (cntR ws)).take i) = none) ⟨_, _, rfl, rfl, rfl⟩ (fun i σ Hc _ y => by obtain ⟨_, _, _, rfl, _⟩ := y; exact hsl) (fun i x σ Hc Hd hi y e => ?_) (fun σ Hc y => ?_)⟩
          · obtain ⟨o8, o9, rfl, rfl, hfn⟩ := y
            obtain ⟨rfl, e⟩ := e
            have hi2 : i < (rowsN k ws (cntR ws)).length := by rw [← hR.1]; exact hi
            have hri := List.getElem?_eq_getElem hi2
            obtain ⟨v, hv, a1, b1, rfl, ha, hb1⟩ := hR.2 i _ hri
            have hm1 := hrm _ (List.getElem_mem hi2)
            generalize (rowsN k ws (cntR ws))[i] = r at *
            rw [hv] at e
            cases e
            obtain ⟨xp, elp, hop⟩ := id hl3
            obtain ⟨tq, hq1, hq2⟩ := hop.2 _ _ (getD_at (b := r.1) (by omega))
            refine ⟨a1, _, rfl, ha, rfl, _, _, rfl, _, _, rfl, rfl, ?_⟩
            refine ⟨_, rfl, _, rfl, l, xp, _, _, rfl, rfl, SqL.of elp, atI_nat hq1, ?_⟩
            refine ⟨_, rfl, _, _, dp_ints hq2, dp_ints ht3, ints_shaped _, ints_shaped _, ?_⟩
            rw [eqv_ints]
            by_cases hbl : ps.getD r.1 [] = blank
            · refine ⟨_, rfl, ifF (c := !decide (ps.getD r.1 [] = blank)) (by rw [decide_eq_true hbl]; rfl) ?_⟩
              refine ⟨_, _, rfl, rfl, ?_⟩
              rw [List.take_add_one, hri]
              unfold fndW at hfn ⊢
              rw [List.find?_append, hfn]
              show (([r] : List (Nat × List Nat)).find? (fun r => decide (ps.getD r.1 [] ≠ blank))) = none
              rw [List.find?_cons_of_neg (by rw [decide_eq_true_eq]; exact fun z => z hbl)]
              rfl
            · refine ⟨_, rfl, ifT (c := !decide (ps.getD r.1 [] = blank)) (by rw [decide_eq_false hbl]; rfl) ?_⟩
              have hfd := hrd i r hri hfn hbl
              exact ⟨_, rfl, lenOk (n := 3) rfl (by decide), fun r0 hr0 => fin (.int _) bt3 hl3 hp3 (by rw [hput]; unfold putD; rw [hfd]) r0 hr0⟩
          · obtain ⟨o8, o9, rfl, rfl, hfn⟩ := y
            rw [List.take_of_length_le (by rw [hR.1]; exact Nat.le_refl _)] at hfn
            refine ⟨_, rfl, _, rfl, _, rfl, _, rfl, l, pw, b, ps, p, k, ws, rfl, hl3, hp3, nlp, hb3, hwl, by omega, hpl, fun H4 bt4 pg4 hp4 => ?_⟩
            have er : runD (.put (.int (k : Int)) ws) ps p = (endR (fillN (rowsN k ws (cntR ws)) ps p).2.2, (fillN (rowsN k ws (cntR ws)) ps p).1, (fillN (rowsN k ws (cntR ws)) ps p).2.1) := by
              rw [hput]
              unfold putD
              rw [hfn]
            generalize (fillN (rowsN k ws (cntR ws)) ps p).2.2 = ok at er ⊢
            have bt34 := bt3.trans bt4
            cases ok with
            | true => exact ⟨_, rfl, true, rfl, ifT rfl ⟨lenOk (n := 3) rfl (by decide), fun r hr => fin .non bt34 pg4 hp4 er r hr⟩⟩
            | false =>
              refine ⟨_, rfl, false, rfl, ifF rfl ?_⟩
              refine ⟨lenOk (n := 0) rfl (by decide), fun z0 hz0 => ?_⟩
              have s5 := same_new (o := .tup []) hz0
              have ez0 : upd H4 z0 (.tup []) z0 = some (.tup []) := upd_same
              generalize upd H4 z0 (.tup []) = H5 at s5 ez0 ⊢
              exact ⟨lenOk (n := 3) rfl (by decide), fun r hr => fin (empD (SqT.of ez0)) (bt34.trans (Bt2.of s5)) (pg4.same s5) (s5 _ _ hp4) er r hr⟩
      · have hin : inD (datV x) 0 143 = false := by cases h : inD (datV x) 0 143 <;> first | rfl | exact absurd h hin
        refine ⟨_, rfl, ifT (c := !inD (datV x) 0 143) (by rw [hin]; rfl) ?_⟩
        exact ⟨_, rfl, lenOk (n := 3) rfl (by decide), fun r hr => fin (dx_spot hx) bt2 hl2 hp2 (if_neg (by rw [hin]; decide)) r hr⟩
end
end R1

namespace R1
open PySem PySem.Spec PyProof.Rows L2 RK
local macro_rules | `(tactic| walk_at "sq") => `(tactic| first
  | exact SqL.of upd_same | exact upd_same | exact SqL.of (by assumption) | exact SqL.of (by rw [upd_ne (by assumption)]; assumption) | assumption)
local macro_rules | `(tactic| walk_at "sd") => `(tactic| first
  | assumption | omega | (refine Or.inl ⟨?_, ?_⟩ <;> omega) | (show _ ∧ _; constructor <;> omega) | (show _ ≠ _; simp; omega) | (exact Or.inl ⟨by decide, by decide⟩) | (exact Or.inr ⟨by decide, by decide⟩) | (show _ < _; decide) | (show _ ≤ _; decide))
local macro_rules | `(tactic| walk_at "at") => `(tactic| first | rfl | (refine atI_intV ?_ ?_ <;> omega) | assumption)
local macro_rules | `(tactic| walk_at "s1") => `(tactic| first
  | refine ⟨_, rfl, ?_⟩ | refine ⟨_, _, rfl, rfl, ?_⟩ | refine ⟨rfl, ?_⟩
  | refine ⟨_, _, _, _, rfl, rfl, by walk_at "sq", by walk_at "at", ?_⟩
  | refine Or.inl ⟨_, rfl, ?_⟩
  | refine ⟨_, _, rfl, Or.inl (by walk_at "sq"), ?_⟩
  | refine And.intro (by walk_at "sd") ?_)
local macro_rules | `(tactic| walk_at "s") => `(tactic| repeat walk_at "s1")

/-- all pages are there, each of its words -/
def Full (ps : List (List Nat)) : Prop := ps.length = 144 ∧ ∀ x ∈ ps, x.length = 16
theorem lasts_le (p : Option Nat) (c : Nat) : lasts p c ≤ c := by
  cases p with
  | none => exact Nat.le_refl _
  | some k => exact Nat.min_le_right _ _
theorem Full.set {ps : List (List Nat)} {ws : List Nat} (h : Full ps) (i : Nat) (hw : ws.length = 16) : Full (ps.set i ws) := by
  refine ⟨by rw [List.length_set]; exact h.1, fun x hx => ?_⟩
  rcases List.mem_or_eq_of_mem_set hx with z | z
  · exact h.2 x z
  · rw [z]; exact hw
theorem wrtW_len {ws : List Nat} (p : Option Nat) (h : ws.length = 16) : (wrtW ws (lasts p (cntW ws 16))).length = 16 := by
  have h1 := lasts_le p (cntW ws 16)
  have h2 := cntW_le ws 16
  unfold wrtW
  rw [List.length_append, List.length_take, List.length_replicate]
  omega
theorem Full.era {ps : List (List Nat)} (h : Full ps) (b : Nat) : ∀ d, Full (eraN ps b d)
  | 0 => h
  | d + 1 => by
    have e : eraN ps b (d + 1) = (eraN ps b d).set (8 * b + d) blank := by
      unfold eraN
      rw [List.range_succ, List.foldl_append]
      rfl
    rw [e]
    exact (Full.era h b d).set _ rfl
theorem Full.fill : ∀ (rs : List (Nat × List Nat)) (ps : List (List Nat)) (p : Option Nat), (∀ r ∈ rs, r.2.length = 16) → Full ps → Full (fillN rs ps p).1
  | [], ps, p, _, h => h
  | r :: t, ps, p, hr, h => by
    have hs := h.set r.1 (wrtW_len p (hr r List.mem_cons_self))
    rw [fillN_cons]
    by_cases hc : lasts p (cntW r.2 16) = cntW r.2 16
    · rw [if_pos hc]
      exact Full.fill t _ _ (fun x hx => hr x (List.mem_cons_of_mem _ hx)) hs
    · rw [if_neg hc]
      exact hs
theorem Full.putD {ps : List (List Nat)} (h : Full ps) (b : Nat) (ws : List Nat) (p : Option Nat) : Full (putD b ws ps p).2.1 := by
  unfold R1.putD
  split
  · exact h
  · exact Full.fill _ _ _ (fun r hr => (rowsN_of hr).2) h
theorem Full.run {ps : List (List Nat)} (h : Full ps) (d : Deed) (p : Option Nat) : Full (runD d ps p).2.1 := by
  cases d with
  | power n => exact h
  | erase x =>
    show Full (if inD (datV x) 0 17 = true then _ else _ : Run).2.1
    split
    · exact h.era _ _
    · exact h
  | write x ws =>
    show Full (if inD (datV x) 0 143 = true then (if ws.length ≠ 16 then _ else if ps.getD (numV x) [] ≠ blank then _ else _) else _ : Run).2.1
    split
    · split
      · exact h
      · split
        · exact h
        · exact h.putD _ _ _
    · exact h
  | put x ws =>
    show Full (if inD (datV x) 0 143 = true then (if 144 < numV x + cntR ws then _ else _) else _ : Run).2.1
    split
    · split
      · exact h
      · exact h.putD _ _ _
    · exact h
theorem page0_full : Full page0 := ⟨List.length_replicate, fun x hx => by rw [List.eq_of_mem_replicate hx]; rfl⟩
theorem Full.at {ps : List (List Nat)} (h : Full ps) {i : Nat} (hi : i < 144) : (ps.getD i []).length = 16 := by
  have e := getD_at (ps := ps) (b := i) (by rw [h.1]; exact hi)
  exact h.2 _ (List.mem_of_getElem? e)
def fitD (d : PyData) : Prop := d.canLay0 = true ∧ d.depth ≤ 3 ∧ wdB d = true
theorem fit_ints {ws : List Nat} (h : ws.length ≤ 100000) : fitD (intsD ws) := ⟨lay_intsD _, Nat.le_trans (dep_intsD _) (by decide), wd_intsD h⟩
theorem eq_fin {K : PySem.W.Frag} {H H' : Hp} {S S' : ASet} {v v' : V} {d : PyData} (f : fitD d) (h1 : Dx K H S v (plD d)) (s : Same H H') (h2 : Dx K H' S' v' (plD d)) : Dp K H' v (plD d) ∧ Dp K H' v' (plD d) ∧ SeqAt.shaped (plD d) = true ∧ PyData.eqv (plD d) (plD d) = true :=
  ⟨(Dx.up (Out.of s) h1).dp, h2.dp, plD_shaped f.1 (Nat.le_trans f.2.1 (by decide)), SeqAt.eqv_refl _ (plD_lay d f.1)⟩
theorem dx_ints {K : PySem.W.Frag} {H : Hp} {t : Addr} {ws : List Nat} (h : SqT K H t (intV ws)) : Dx K H noS (.ref t) (intsD ws) := by
  rw [intV_ints] at h
  exact .tup (xt_sq h fun _ z => z.elim) (dxAll_ints _)
def lD (p : Option Nat) : PyData := datV (lV p)
theorem dx_lV {K : PySem.W.Frag} {H : Hp} (p : Option Nat) : Dx K H noS (lV p) (lD p) := by
  cases p with
  | none => exact .non
  | some k => exact .int _
theorem fit_lD (p : Option Nat) : fitD (lD p) := by
  cases p with
  | none => exact ⟨rfl, Nat.zero_le _, rfl⟩
  | some k => exact ⟨rfl, Nat.zero_le _, rfl⟩
def spNear (K : PySem.W.Frag) (C : Addr) : Sp := fun vs H Q _ => ∃ (f dx l l2 pw : Addr) (ps : List (List Nat)) (p : Option Nat) (x : V), vs = [.ref f, .ref l2, .ref pw, x] ∧ FlS K C H f dx l ps p ∧ PgK K H l2 ps ∧ H pw = some (.lst [lV p]) ∧ Full ps ∧ Spot x ∧ ∀ H', Same H H' → Q (.bl true) H'
section
variable {P : Program} {w : World} {K : PySem.W.Frag} {mg : Str → Option Value} {base : Heap} {A : Ads}
theorem ok_law_near (T : Txt K mg A) : FnOk P w K mg base CX0 8 A.a_law_near A.d_law_near ["_law_flash", "_law_pages", "_law_power", "_law_spot"] (spNear K A.c_Flash) := by
  refine T.F_law_near.ok sc_law_near (fun vs H Q E h => ?_) (fun cdv B outer s H vs Q E hr h => ?_)
  · obtain ⟨f, dx, l, l2, pw, ps, p, x, rfl, _⟩ := h
    rfl
  · obtain ⟨f, dx, l, l2, pw, ps, p, x, rfl, hF, hl2, hp, hfl, hx, q⟩ := h
    refine ⟨_, (pss_cons (ps_if (pt_cmpR (op_neD hr.units) (pe_call (ok_plain T 5) (hr.mono (by omega)) rfl T.g_law_plain T.F_law_plain.kp T.b_law_plain .nil pass0 (pa_cons (pe_fld (pv 0) rfl) pa_nil)) (pe_call (ok_plain T 5) (hr.mono (by omega)) rfl T.g_law_plain T.F_law_plain.kp T.b_law_plain .nil pass0 (pa_cons (pe_ix ix_list (pv 2) pe_int (fun _ _ => rfl)) pa_nil)) (nomark _)) (pss_one (ps_ret pe_bl)) pss_nil)
    (pss_cons (ps_if (pt_not (pt_val (pe_call (ok_law_is_below T) (hr.mono (by omega)) rfl T.g_law_is_below T.F_law_is_below.kp T.b_law_is_below .nil pass0 (pa_cons (pv 3) (pa_cons pe_int pa_nil))))) (pss_one (ps_set (i := 3) sc_law_near.nd rfl (.inl rfl) pe_int)) pss_nil)
    (pss_cons (ps_for PassesOwn.never rfl (pi_range2 (by rfl) T.n_range (pa_cons (pv 3) (pa_cons (pe_callB (call_min2 rfl) (by rfl) T.n_min (by decide +kernel) (pa_cons pe_int (pa_cons (pe_op op_add (pv 3) pe_int) pa_nil))) pa_nil))) (pg_name (i := 4) sc_law_near.nd rfl (.inl rfl))
      (pss_one (ps_if (pt_cmpR (op_neD hr.units) (pe_call (ok_plain T 5) (hr.mono (by omega)) rfl T.g_law_plain T.F_law_plain.kp T.b_law_plain .nil pass0 (pa_cons (DK.pe_ixO (pv 0) (pv 4) T.o_Flash_getitem T.fi_Flash_getitem (FnOk.raw (ok_Flash_getitem T) T.b_Flash_getitem .nil) (fun _ => passAtN) (hr.mono (by omega))) pa_nil)) (pe_call (ok_plain T 5) (hr.mono (by omega)) rfl T.g_law_plain T.F_law_plain.kp T.b_law_plain .nil pass0 (pa_cons (pe_ix ix_list (pv 1) (pv 4) (fun _ _ => rfl)) pa_nil)) (nomark _)) (pss_one (ps_ret pe_bl)) pss_nil)))
    (pss_one (ps_ret pe_bl))))), ?_⟩
    refine ⟨_, rfl, f, A.c_Flash, dx, _, _, rfl, hF.1, T.cl_Flash, T.na_Flash_left, rfl, ?_⟩
    refine ⟨_, lD p, noS, rfl, fun _ z => z.elim, dx_lV p, by cases p <;> exact Nat.zero_le _, (fit_lD p).2.2, fun H1 v1 s1 d1 => ?_⟩
    refine ⟨_, rfl, pw, _, _, _, rfl, rfl, SqL.of (s1 _ _ hp), atI_nat (j := 0) rfl, ?_⟩
    refine ⟨_, lD p, noS, rfl, fun _ z => z.elim, dx_lV p, by cases p <;> exact Nat.zero_le _, (fit_lD p).2.2, fun H2 v2 s2 d2 => ?_⟩
    have ef := eq_fin (fit_lD p) d1 s2 d2
    refine ⟨_, _, ef.1, ef.2.1, ef.2.2.1, ef.2.2.1, ?_⟩
    rw [ef.2.2.2]
    refine ⟨_, rfl, ifF rfl ?_⟩
    have s12 := s1.trans s2
    refine ⟨_, rfl, x, datV x, 144, rfl, dp_spot hx, ?_⟩
    by_cases hin : inD (datV x) 0 143 = true
    · refine ⟨_, rfl, ifF (c := !inD (datV x) 0 143) (by rw [hin]; rfl) ?_⟩
      obtain ⟨ex, hk⟩ := spot_in (x := x) hx hin
      generalize numV x = k at ex hk
      subst ex
      have hk : k < 144 := by omega
      have hn : ∃ n : Nat, n = min 7 (144 - k) := ⟨_, rfl⟩
      obtain ⟨n, hn⟩ := hn
      have hm : (if (k : Int) + 7 < 144 then (k : Int) + 7 else 144) = ((k + n : Nat) : Int) := by split <;> omega
      refine ⟨_, rfl, _, rfl, _, _, rfl, rfl, _, _, rfl, ?_⟩
      dsimp (config := { proj := false }) only
      rw [hm]
      refine ⟨(k : Int), ((k + n : Nat) : Int), rfl, ⟨by omega, by omega, by omega, by omega⟩, ?_⟩
      rw [show (((k + n : Nat) : Int) - (k : Int)).toNat = n by omega]
      refine for_it (walk_range (lo := (k : Int)) (n := n)) (fun i σ Hc => ∃ o4, σ = [some (.ref f), some (.ref l2), some (.ref pw), some (.int (k : Int)), o4] ∧ Same H Hc) ⟨_, rfl, s12⟩ (fun _ _ _ _ _ => trivial) (fun i y σ Hc Hd hi w e => ?_) (fun σ Hc w => ?_)
      · obtain ⟨rfl, ey⟩ := e
        have ey : y = .int ((k + i : Nat) : Int) := by rw [ey]; exact congrArg V.int (by omega)
        subst ey
        obtain ⟨o4, rfl, sc⟩ := w
        have hki : k + i < 144 := by omega
        have hFc := hF.up sc
        have hlc := hl2.same sc
        have h16 := hfl.at hki
        have hft := fit_ints (ws := ps.getD (k + i) []) (by omega)
        refine ⟨_, rfl, _, rfl, f, dx, _, rfl, hFc.1, f, dx, l, _, ps, _, _, rfl, hFc.1, hFc.2, hfl.1, .int _, fun z => ?_, fun b' eb _ t ht => ?_⟩
        · exact absurd z (by rw [show inD (.int ((k + i : Nat) : Int)) 0 143 = true from decide_eq_true (by omega)]; decide)
        have eb : b' = k + i := by have := V.int.inj eb; omega
        subst eb
        refine ⟨_, intsD (ps.getD (k + i) []), noS, rfl, fun _ z => z.elim, dx_ints ht, Nat.le_trans (dep_intsD _) (by decide), hft.2.2, fun H5 v5 s5 d5 => ?_⟩
        obtain ⟨xs, el, ho⟩ := hlc.same s5
        obtain ⟨t2, ht2, hs2⟩ := ho.2 _ _ (getD_at (b := k + i) (by rw [hfl.1]; exact hki))
        refine ⟨_, rfl, _, rfl, l2, xs, _, _, rfl, rfl, SqL.of el, atI_nat ht2, ?_⟩
        refine ⟨_, intsD (ps.getD (k + i) []), noS, rfl, fun _ z => z.elim, dx_ints hs2, Nat.le_trans (dep_intsD _) (by decide), hft.2.2, fun H6 v6 s6 d6 => ?_⟩
        have ef := eq_fin hft d5 s6 d6
        refine ⟨_, _, ef.1, ef.2.1, ef.2.2.1, ef.2.2.1, ?_⟩
        rw [ef.2.2.2]
        refine ⟨_, rfl, ifF rfl ?_⟩
        exact ⟨_, rfl, sc.trans (s5.trans s6)⟩
      · obtain ⟨o4, rfl, sc⟩ := w
        exact q Hc sc
    · have hin : inD (datV x) 0 143 = false := by cases h : inD (datV x) 0 143 <;> first | rfl | exact absurd h hin
      refine ⟨_, rfl, ifT (c := !inD (datV x) 0 143) (by rw [hin]; rfl) ?_⟩
      obtain ⟨k, hk0⟩ : ∃ k : Nat, k = 0 := ⟨_, rfl⟩
      have hk : k < 144 := by omega
      have hz : V.int 0 = V.int (k : Int) := by rw [hk0]; rfl
      rw [hz]
      have hn : ∃ n : Nat, n = min 7 (144 - k) := ⟨_, rfl⟩
      obtain ⟨n, hn⟩ := hn
      have hm : (if (k : Int) + 7 < 144 then (k : Int) + 7 else 144) = ((k + n : Nat) : Int) := by split <;> omega
      refine ⟨_, rfl, _, rfl, _, _, rfl, rfl, _, _, rfl, ?_⟩
      dsimp (config := { proj := false }) only
      rw [hm]
      refine ⟨(k : Int), ((k + n : Nat) : Int), rfl, ⟨by omega, by omega, by omega, by omega⟩, ?_⟩
      rw [show (((k + n : Nat) : Int) - (k : Int)).toNat = n by omega]
      refine for_it (walk_range (lo := (k : Int)) (n := n)) (fun i σ Hc => ∃ o4, σ = [some (.ref f), some (.ref l2), some (.ref pw), some (.int (k : Int)), o4] ∧ Same H Hc) ⟨_, rfl, s12⟩ (fun _ _ _ _ _ => trivial) (fun i y σ Hc Hd hi w e => ?_) (fun σ Hc w => ?_)
      · obtain ⟨rfl, ey⟩ := e
        have ey : y = .int ((k + i : Nat) : Int) := by rw [ey]; exact congrArg V.int (by omega)
        subst ey
        obtain ⟨o4, rfl, sc⟩ := w
        have hki : k + i < 144 := by omega
        have hFc := hF.up sc
        have hlc := hl2.same sc
        have h16 := hfl.at hki
        have hft := fit_ints (ws := ps.getD (k + i) []) (by omega)
        refine ⟨_, rfl, _, rfl, f, dx, _, rfl, hFc.1, f, dx, l, _, ps, _, _, rfl, hFc.1, hFc.2, hfl.1, .int _, fun z => ?_, fun b' eb _ t ht => ?_⟩
        · exact absurd z (by rw [show inD (.int ((k + i : Nat) : Int)) 0 143 = true from decide_eq_true (by omega)]; decide)
        have eb : b' = k + i := by have := V.int.inj eb; omega
        subst eb
        refine ⟨_, intsD (ps.getD (k + i) []), noS, rfl, fun _ z => z.elim, dx_ints ht, Nat.le_trans (dep_intsD _) (by decide), hft.2.2, fun H5 v5 s5 d5 => ?_⟩
        obtain ⟨xs, el, ho⟩ := hlc.same s5
        obtain ⟨t2, ht2, hs2⟩ := ho.2 _ _ (getD_at (b := k + i) (by rw [hfl.1]; exact hki))
        refine ⟨_, rfl, _, rfl, l2, xs, _, _, rfl, rfl, SqL.of el, atI_nat ht2, ?_⟩
        refine ⟨_, intsD (ps.getD (k + i) []), noS, rfl, fun _ z => z.elim, dx_ints hs2, Nat.le_trans (dep_intsD _) (by decide), hft.2.2, fun H6 v6 s6 d6 => ?_⟩
        have ef := eq_fin hft d5 s6 d6
        refine ⟨_, _, ef.1, ef.2.1, ef.2.2.1, ef.2.2.1, ?_⟩
        rw [ef.2.2.2]
        refine ⟨_, rfl, ifF rfl ?_⟩
        exact ⟨_, rfl, sc.trans (s5.trans s6)⟩
      · obtain ⟨o4, rfl, sc⟩ := w
        exact q Hc sc
end
end R1

namespace R1
open PySem PySem.Spec PyProof.Rows L2 RK
local macro_rules | `(tactic| walk_at "sq") => `(tactic| first
  | exact SqL.of upd_same | exact upd_same | exact SqL.of (by assumption) | exact SqL.of (by rw [upd_ne (by assumption)]; assumption) | assumption)
local macro_rules | `(tactic| walk_at "sd") => `(tactic| first
  | assumption | omega | (refine Or.inl ⟨?_, ?_⟩ <;> omega) | (show _ ∧ _; constructor <;> omega) | (show _ ≠ _; simp; omega) | (exact Or.inl ⟨by decide, by decide⟩) | (exact Or.inr ⟨by decide, by decide⟩) | (show _ < _; decide) | (show _ ≤ _; decide))
local macro_rules | `(tactic| walk_at "at") => `(tactic| first | rfl | (refine atI_intV ?_ ?_ <;> omega) | assumption)
local macro_rules | `(tactic| walk_at "s1") => `(tactic| first
  | refine ⟨_, rfl, ?_⟩ | refine ⟨_, _, rfl, rfl, ?_⟩ | refine ⟨rfl, ?_⟩
  | refine ⟨_, _, _, _, rfl, rfl, by walk_at "sq", by walk_at "at", ?_⟩
  | refine Or.inl ⟨_, rfl, ?_⟩
  | refine ⟨_, _, rfl, Or.inl (by walk_at "sq"), ?_⟩
  | refine And.intro (by walk_at "sd") ?_)
local macro_rules | `(tactic| walk_at "s") => `(tactic| repeat walk_at "s1")

/-- what a wrong thing is, asked so -/
def badD (a : Nat) (d : PyData) : Prop := (a = 0 ∧ inD d 0 143 = false) ∨ (a = 1 ∧ inD d 0 1 = false) ∨ (a = 2 ∧ inD d 0 17 = false) ∨ (a = 3 ∧ powD d = false) ∨ (a = 4 ∧ powD d = false)
def spRead (K : PySem.W.Frag) (C : Addr) : Sp := fun vs H Q _ => ∃ (f dx l : Addr) (ps : List (List Nat)) (p : Option Nat) (a : Nat) (v : V) (d : PyData), vs = [.ref f, .int (a : Int), v] ∧ FlS K C H f dx l ps p ∧ Full ps ∧ Dx K H noS v d ∧
  ((badD a d ∧ ∀ H' r, Same H H' → Dx K H' noS (.ref r) (.tuple [.int (a : Int), d]) → Q (.ref r) H') ∨ (a = 3 ∧ powD d = true ∧ ∀ H' r, Same H H' → Dx K H' noS (.ref r) (.tuple [.int 9, .bool false]) → Q (.ref r) H'))
theorem mk_pair {K : PySem.W.Frag} {H : Hp} {r : Addr} {a : Int} {v : V} {d : PyData} (h : H r = some (.tup [.int a, v])) (hv : Dx K H noS v d) : Dx K H noS (.ref r) (.tuple [.int a, d]) :=
  .tup (XT.of h fun z => z.elim) (.cons (.int _) (.cons hv .nil))
theorem in_yes {K : PySem.W.Frag} {H : Hp} {v : V} {d : PyData} {b : Nat} {hi : Int} (e : v = .int (b : Int)) (h : Dp K H v d) (hb : (b : Int) ≤ hi) : inD d 0 hi = true := by
  subst e
  cases h
  exact decide_eq_true (by omega)
theorem keep_new {H H1 : Hp} {C f dx : Addr} (nf : H f = none) (nd : H dx = none) (k : ∀ b o, b ≠ f → upd (upd H dx (.own f)) f (.ins C dx []) b = some o → H1 b = some o) : Same H H1 := fun b o e => by
  have h1 : b ≠ f := fun z => by rw [z, nf] at e; cases e
  have h2 : b ≠ dx := fun z => by rw [z, nd] at e; cases e
  exact k b o h1 (by rw [upd_ne h1, upd_ne h2]; exact e)
section
variable {P : Program} {w : World} {K : PySem.W.Frag} {mg : Str → Option Value} {base : Heap} {A : Ads}
theorem ok_law_read (T : Txt K mg A) : FnOk P w K mg base CX0 8 A.a_law_read A.d_law_read ["_law_flash", "_law_ask", "_law_thing"] (spRead K A.c_Flash) := by
  refine T.F_law_read.ok sc_law_read (fun vs H Q E h => ?_) (fun cdv B outer s H vs Q E hr h => ?_)
  · obtain ⟨f, dx, l, ps, p, a, v, d, rfl, _⟩ := h
    rfl
  · obtain ⟨f, dx, l, ps, p, a, v, d, rfl, hF, hfl, hd, h⟩ := h
    refine ⟨_, (pss_cons (ps_try_asN (i := 4) rfl rfl sc_law_read.nd rfl rfl (.cons ⟨rfl, by decide, .inl T.g_NoPage⟩ (fun a o cls d ps hz hf => (pss_one (ps_ret (pe_tup (pa_cons pe_int (pa_cons (pe_xf T.x_NoPage.xf T.x_NoPage.no hz.zc hf (pv 4)) pa_nil))))))
      (.cons ⟨rfl, by decide, .inl T.g_NoSlot⟩ (fun a o cls d ps hz hf => (pss_one (ps_ret (pe_tup (pa_cons pe_int (pa_cons (pe_xf T.x_NoSlot.xf T.x_NoSlot.no hz.zc hf (pv 4)) pa_nil))))))
      (.cons ⟨rfl, by decide, .inl T.g_NoBlock⟩ (fun a o cls d ps hz hf => (pss_one (ps_ret (pe_tup (pa_cons pe_int (pa_cons (pe_xf T.x_NoBlock.xf T.x_NoBlock.no hz.zc hf (pv 4)) pa_nil))))))
      (.cons ⟨rfl, by decide, .inl T.g_BadPower⟩ (fun a o cls d ps hz hf => (pss_one (ps_ret (pe_tup (pa_cons (pv 1) (pa_cons (pe_xf T.x_BadPower.xf T.x_BadPower.no hz.zc hf (pv 4)) pa_nil))))))
      .nil)))) (fun W pn xe tk _ => (pss_one (ps_if (pt_cmpR op_eq (pv 1) pe_int (nomark _)) (pss_one (ps_set (i := 3) sc_law_read.nd rfl (.inl rfl) (DK.pe_ixO (pv 0) (pv 2) T.o_Flash_getitem T.fi_Flash_getitem (FnOk.raw (ok_Flash_getitem T) T.b_Flash_getitem .nil) (fun σ => L2N.passAt tk σ) (hr.mono (by omega))))) (pss_one (ps_if (pt_cmpR op_eq (pv 1) pe_int (nomark _)) (pss_one (ps_set (i := 3) sc_law_read.nd rfl (.inl rfl) (DK.pe_methS (pv 0) T.cl_Flash T.me_Flash_slot_words (ok_Flash_slot_words T) (hr.mono (by omega)) T.b_Flash_slot_words (fun σ => L2N.passAt tk σ) (pa_cons (pv 2) pa_nil)))) (pss_one (ps_if (pt_cmpR op_eq (pv 1) pe_int (nomark _)) (pss_one (ps_set (i := 3) sc_law_read.nd rfl (.inl rfl) (DK.pe_methS (pv 0) T.cl_Flash T.me_Flash_block_words (ok_Flash_block_words T) (hr.mono (by omega)) T.b_Flash_block_words (fun σ => L2N.passAt tk σ) (pa_cons (pv 2) pa_nil)))) (pss_one (ps_if (pt_cmpR op_eq (pv 1) pe_int (nomark _)) (pss_one (ps_set (i := 3) sc_law_read.nd rfl (.inl rfl) (DK.pe_makeS T.m_Power (FnOk.raw (ok_Power_init T) T.b_Power_init .nil) (hr.mono (by omega)) rfl T.g_Power (fun σ => L2N.passAt tk σ) (pa_cons (pe_make0 T.m_Flash (ok_Flash_init T) (hr.mono (by omega)) rfl T.g_Flash T.b_Flash_init .nil pass0) (pa_cons (pv 2) pa_nil))))) (pss_one (ps_set (i := 3) sc_law_read.nd rfl (.inl rfl) (pe_callS (ok_limit_power T) (hr.mono (by omega)) rfl T.g_limit_power T.F_limit_power.kp T.b_limit_power (fun σ => L2N.passAt tk σ) (pa_cons (pv 0) (pa_cons (pv 2) pa_nil)))))))))))))))
    (pss_one (ps_ret (pe_tup (pa_cons pe_int (pa_cons (pe_cmpR op_isN (pv 3) pe_non (nomark _)) pa_nil)))))), ?_⟩
    unfold L2.tSeq
    dsimp only
    generalize hW : RK.wAs _ 4 _ _ = W
    have two : ∀ {i j : Nat}, i ≠ j → decide (V.int (i : Int) = V.int (j : Int)) = false := fun h => decide_eq_false (vint (by omega))
    rcases h with ⟨hb, q⟩ | ⟨rfl, hp, q⟩
    · have fin : ∀ {H' : Hp}, Same H H' → ∀ r, H' r = none → Q (.ref r) (upd H' r (.tup [.int (a : Int), v])) := fun {H'} s r hr => by
        have s1 := s.trans (same_new (o := .tup [.int (a : Int), v]) hr)
        exact q _ r s1 (mk_pair upd_same (Dx.up (Out.of s1) hd))
      rcases hb with ⟨rfl, hb⟩ | ⟨rfl, hb⟩ | ⟨rfl, hb⟩ | ⟨rfl, hb⟩ | ⟨rfl, hb⟩
      · refine ⟨_, rfl, rfl, _, rfl, ifT (decide_eq_true rfl) ?_⟩
        refine ⟨_, rfl, _, rfl, f, dx, _, rfl, hF.1, f, dx, l, _, ps, v, d, rfl, hF.1, hF.2, hfl.1, hd.dp, fun _ => fun dy H1 s1 n1 e1 => ?_, fun b eb hbl => ?_⟩
        · show W _ _ _ _
          rw [← hW]
          refine .inl ⟨T.x_NoPage.te, fun a ha => ?_⟩
          exact ⟨_, rfl, rfl, rfl, dy, _, v, rfl, e1, rfl, lenOk (n := 2) rfl (by decide), fun r hr => fin s1 r hr⟩
        · exact absurd ((in_yes eb hd.dp (by omega)).symm.trans hb) (by decide)
      · refine ⟨_, rfl, rfl, _, rfl, ifF (two (i := 1) (j := 0) (by decide)) ?_⟩
        refine ⟨_, rfl, rfl, _, rfl, ifT (decide_eq_true rfl) ?_⟩
        refine ⟨_, rfl, f, dx, _, rfl, hF.1, rfl, _, rfl, f, dx, l, _, ps, v, d, rfl, hF.1, hF.2, hfl.1, fun x hx => Nat.le_of_eq (hfl.2 x hx), hd.dp, fun _ => fun dy H1 s1 n1 e1 => ?_, fun b eb hbl => ?_⟩
        · show W _ _ _ _
          rw [← hW]
          refine .inr ⟨T.e_NoSlot_NoPage, .inl ⟨T.x_NoSlot.te, fun a ha => ?_⟩⟩
          exact ⟨_, rfl, rfl, rfl, dy, _, v, rfl, e1, rfl, lenOk (n := 2) rfl (by decide), fun r hr => fin s1 r hr⟩
        · exact absurd ((in_yes eb hd.dp (by omega)).symm.trans hb) (by decide)
      · refine ⟨_, rfl, rfl, _, rfl, ifF (two (i := 2) (j := 0) (by decide)) ?_⟩
        refine ⟨_, rfl, rfl, _, rfl, ifF (two (i := 2) (j := 1) (by decide)) ?_⟩
        refine ⟨_, rfl, rfl, _, rfl, ifT (decide_eq_true rfl) ?_⟩
        refine ⟨_, rfl, f, dx, _, rfl, hF.1, rfl, _, rfl, f, dx, l, _, ps, v, d, rfl, hF.1, hF.2, hfl.1, fun x hx => Nat.le_of_eq (hfl.2 x hx), hd.dp, fun _ => fun dy H1 s1 n1 e1 => ?_, fun b eb hbl => ?_⟩
        · show W _ _ _ _
          rw [← hW]
          refine .inr ⟨T.e_NoBlock_NoPage, .inr ⟨T.e_NoBlock_NoSlot, .inl ⟨T.x_NoBlock.te, fun a ha => ?_⟩⟩⟩
          exact ⟨_, rfl, rfl, rfl, dy, _, v, rfl, e1, rfl, lenOk (n := 2) rfl (by decide), fun r hr => fin s1 r hr⟩
        · exact absurd ((in_yes eb hd.dp (by omega)).symm.trans hb) (by decide)
      · refine ⟨_, rfl, rfl, _, rfl, ifF (two (i := 3) (j := 0) (by decide)) ?_⟩
        refine ⟨_, rfl, rfl, _, rfl, ifF (two (i := 3) (j := 1) (by decide)) ?_⟩
        refine ⟨_, rfl, rfl, _, rfl, ifF (two (i := 3) (j := 2) (by decide)) ?_⟩
        refine ⟨_, rfl, rfl, _, rfl, ifT (decide_eq_true rfl) ?_⟩
        refine fun f2 dx2 nf2 ndx2 ne2 => ⟨f2, dx2, rfl, upd_same, fun H1 l1 k1 nl1 hF1 => ⟨rfl, ?_⟩⟩
        have s1 : Same H H1 := keep_new nf2 ndx2 k1
        refine ⟨_, rfl, fun x3 dx3 nx3 ndx3 ne3 => ?_⟩
        have s2 : Same H1 (upd (upd H1 dx3 (.own x3)) x3 (.ins A.c_Power dx3 [])) := keep_new (H1 := upd (upd H1 dx3 (.own x3)) x3 (.ins A.c_Power dx3 [])) nx3 ndx3 fun b o _ h => h
        refine ⟨x3, dx3, f2, v, d, rfl, upd_same, (Dx.up (Out.of (s1.trans s2)) hd).dp, fun z => ?_, fun _ => fun dy H3 s3 n3 e3 => ?_⟩
        · rw [hb] at z
          cases z
        · show W _ _ _ _
          rw [← hW]
          refine .inr ⟨T.e_BadPower_NoPage, .inr ⟨T.e_BadPower_NoSlot, .inr ⟨T.e_BadPower_NoBlock, .inl ⟨T.x_BadPower.te, fun a ha => ?_⟩⟩⟩⟩
          exact ⟨_, rfl, _, rfl, rfl, rfl, dy, _, v, rfl, e3, rfl, lenOk (n := 2) rfl (by decide), fun r hr => fin (s1.trans (s2.trans s3)) r hr⟩
      · refine ⟨_, rfl, rfl, _, rfl, ifF (two (i := 4) (j := 0) (by decide)) ?_⟩
        refine ⟨_, rfl, rfl, _, rfl, ifF (two (i := 4) (j := 1) (by decide)) ?_⟩
        refine ⟨_, rfl, rfl, _, rfl, ifF (two (i := 4) (j := 2) (by decide)) ?_⟩
        refine ⟨_, rfl, rfl, _, rfl, ifF (two (i := 4) (j := 3) (by decide)) ?_⟩
        refine ⟨_, rfl, _, rfl, f, dx, l, _, v, d, rfl, hF.1, hd.dp, .inr ⟨hb, fun dy H3 s3 n3 e3 => ?_⟩⟩
        show W _ _ _ _
        rw [← hW]
        refine .inr ⟨T.e_BadPower_NoPage, .inr ⟨T.e_BadPower_NoSlot, .inr ⟨T.e_BadPower_NoBlock, .inl ⟨T.x_BadPower.te, fun a ha => ?_⟩⟩⟩⟩
        exact ⟨_, rfl, _, rfl, rfl, rfl, dy, _, v, rfl, e3, rfl, lenOk (n := 2) rfl (by decide), fun r hr => fin s3 r hr⟩
    · refine ⟨_, rfl, rfl, _, rfl, ifF (two (i := 3) (j := 0) (by decide)) ?_⟩
      refine ⟨_, rfl, rfl, _, rfl, ifF (two (i := 3) (j := 1) (by decide)) ?_⟩
      refine ⟨_, rfl, rfl, _, rfl, ifF (two (i := 3) (j := 2) (by decide)) ?_⟩
      refine ⟨_, rfl, rfl, _, rfl, ifT (decide_eq_true rfl) ?_⟩
      refine fun f2 dx2 nf2 ndx2 ne2 => ⟨f2, dx2, rfl, upd_same, fun H1 l1 k1 nl1 hF1 => ⟨rfl, ?_⟩⟩
      have s1 : Same H H1 := keep_new nf2 ndx2 k1
      refine ⟨_, rfl, fun x3 dx3 nx3 ndx3 ne3 => ?_⟩
      have s2 : Same H1 (upd (upd H1 dx3 (.own x3)) x3 (.ins A.c_Power dx3 [])) := keep_new (H1 := upd (upd H1 dx3 (.own x3)) x3 (.ins A.c_Power dx3 [])) nx3 ndx3 fun b o _ h => h
      refine ⟨x3, dx3, f2, v, d, rfl, upd_same, (Dx.up (Out.of (s1.trans s2)) hd).dp, fun _ H3 k3 => ⟨rfl, ?_⟩, fun z => ?_⟩
      · have s3 : Same H H3 := fun b o e => by
          have h1 := s1 _ _ e
          have nb : b ≠ x3 := fun z => by rw [z, nx3] at h1; cases h1
          rw [k3 b nb]
          exact s2 _ _ h1
        refine ⟨_, rfl, rfl, lenOk (n := 2) rfl (by decide), fun r hr => ?_⟩
        have s4 := same_new (o := .tup [.int 9, .bl false]) hr
        exact q _ r (s3.trans s4) (mk_pair upd_same (.bl false))
      · rw [hp] at z
        cases z
end
end R1

namespace R1
open PySem PySem.Spec PyProof.Rows L2 RK
local macro_rules | `(tactic| walk_at "sq") => `(tactic| first
  | exact SqL.of upd_same | exact upd_same | exact SqL.of (by assumption) | exact SqL.of (by rw [upd_ne (by assumption)]; assumption) | assumption)
local macro_rules | `(tactic| walk_at "sd") => `(tactic| first
  | assumption | omega | (refine Or.inl ⟨?_, ?_⟩ <;> omega) | (show _ ∧ _; constructor <;> omega) | (show _ ≠ _; simp; omega) | (exact Or.inl ⟨by decide, by decide⟩) | (exact Or.inr ⟨by decide, by decide⟩) | (show _ < _; decide) | (show _ ≤ _; decide))
local macro_rules | `(tactic| walk_at "at") => `(tactic| first | rfl | (refine atI_intV ?_ ?_ <;> omega) | assumption)
local macro_rules | `(tactic| walk_at "s1") => `(tactic| first
  | refine ⟨_, rfl, ?_⟩ | refine ⟨_, _, rfl, rfl, ?_⟩ | refine ⟨rfl, ?_⟩
  | refine ⟨_, _, _, _, rfl, rfl, by walk_at "sq", by walk_at "at", ?_⟩
  | refine Or.inl ⟨_, rfl, ?_⟩
  | refine ⟨_, _, rfl, Or.inl (by walk_at "sq"), ?_⟩
  | refine And.intro (by walk_at "sd") ?_)
local macro_rules | `(tactic| walk_at "s") => `(tactic| repeat walk_at "s1")

/-! ### what stands but the lists and the instances -/
def Tk (H H' : Hp) : Prop := ∀ b o, H b = some o → (∀ ys, o ≠ .lst ys) → (∀ C dx fs, o ≠ .ins C dx fs) → H' b = some o
theorem Tk.of {H H' : Hp} (s : Same H H') : Tk H H' := fun b o e _ _ => s b o e
theorem Tk.trans {H H1 H2 : Hp} (a : Tk H H1) (b : Tk H1 H2) : Tk H H2 := fun c o e h1 h2 => b c o (a c o e h1 h2) h1 h2
theorem Tk.bt {l f : Addr} {H H' : Hp} {ys : List V} (hl : H l = some (.lst ys)) (hf : (∃ zs, H f = some (.lst zs)) ∨ ∃ C dx fs, H f = some (.ins C dx fs)) (b : Bt2 l f H H') : Tk H H' := fun a o e h1 h2 => by
  refine b a o (fun z => ?_) (fun z => ?_) e
  · rw [z, hl] at e
    exact h1 ys (Option.some.inj e).symm
  · rcases hf with ⟨zs, hf⟩ | ⟨C, dx, fs, hf⟩ <;> rw [z, hf] at e
    · exact h1 zs (Option.some.inj e).symm
    · exact h2 C dx fs (Option.some.inj e).symm
theorem Tk.but {p : Addr} {H H' : Hp} {ys : List V} (hp : H p = some (.lst ys)) (b : But p H H') : Tk H H' := fun a o e h1 h2 => by
  refine b a o (fun z => ?_) e
  rw [z, hp] at e
  exact h1 ys (Option.some.inj e).symm
theorem sqT_tk {K : PySem.W.Frag} {H H' : Hp} {a : Addr} {xs : List V} (h : SqT K H a xs) (t : Tk H H') : SqT K H' a xs := by
  rcases h with h | h
  · rcases h with h | ⟨o, h⟩
    · exact .inl (.inl (t _ _ h (fun _ z => nomatch z) fun _ _ _ z => nomatch z))
    · exact .inl (.inr ⟨o, t _ _ h (fun _ z => nomatch z) fun _ _ _ z => nomatch z⟩)
  · exact .inr h
theorem PgK.tk {K : PySem.W.Frag} {H H' : Hp} {l : Addr} {ps : List (List Nat)} (h : PgK K H l ps) (t : Tk H H') (e : ∀ o, H l = some o → H' l = some o) : PgK K H' l ps :=
  let ⟨xs, a, b⟩ := h
  ⟨xs, e _ a, b.1, fun k ws hw => let ⟨q, c, d⟩ := b.2 k ws hw; ⟨q, c, sqT_tk d t⟩⟩
theorem FlS.tk {K : PySem.W.Frag} {C : Addr} {H H' : Hp} {f dx l : Addr} {ps : List (List Nat)} {p : Option Nat} (h : FlS K C H f dx l ps p) (t : Tk H H') (e : ∀ b o, b = f ∨ b = l → H b = some o → H' b = some o) : FlS K C H' f dx l ps p :=
  ⟨e _ _ (.inl rfl) h.1, h.2.tk t fun o ho => e _ o (.inr rfl) ho⟩
/-- a thing that is wrong in any place -/
structure Wr (K : PySem.W.Frag) (v : V) (d : PyData) : Prop where
  dx : ∀ H, Dx K H noS v d
  fit : ∀ a : Int, fitD (.tuple [.int a, d])
theorem wr_int {K : PySem.W.Frag} (i : Int) : Wr K (.int i) (.int i) := ⟨fun _ => .int i, fun a => ⟨rfl, by show 1 ≤ 3; decide, rfl⟩⟩
theorem wr_bl {K : PySem.W.Frag} (i : Bool) : Wr K (.bl i) (.bool i) := ⟨fun _ => .bl i, fun a => ⟨rfl, by show 1 ≤ 3; decide, rfl⟩⟩
theorem wr_non {K : PySem.W.Frag} : Wr K .non .none := ⟨fun _ => .non, fun a => ⟨rfl, by show 1 ≤ 3; decide, rfl⟩⟩
theorem wr_0 {K : PySem.W.Frag} : Wr K (.str (Str.ofString "0")) (.str (Str.ofString "0")) := ⟨fun _ => .str _, fun a => ⟨by show ((true && ((PyData.str (Str.ofString "0")).canLay0 && true))) = true; decide +kernel, by show 1 ≤ 3; decide, rfl⟩⟩
theorem wr_3 {K : PySem.W.Frag} : Wr K (.str (Str.ofString "3")) (.str (Str.ofString "3")) := ⟨fun _ => .str _, fun a => ⟨by show ((true && ((PyData.str (Str.ofString "3")).canLay0 && true))) = true; decide +kernel, by show 1 ≤ 3; decide, rfl⟩⟩
def Out3 (d : PyData) : Prop := inD d 0 143 = false ∧ inD d 0 1 = false ∧ inD d 0 17 = false
def spRef (K : PySem.W.Frag) (C : Addr) : Sp := fun vs H Q _ => ∃ (c p f dx l : Addr) (ps : List (List Nat)) (pw : Option Nat), vs = [.ref p, .ref f] ∧ Src c H p ∧ FlS K C H f dx l ps pw ∧ p ≠ l ∧ Full ps ∧ ∀ H', Src c H' p → But p H H' → Q (.bl true) H'
section
variable {P : Program} {w : World} {K : PySem.W.Frag} {mg : Str → Option Value} {base : Heap} {A : Ads}
theorem ok_law_refuses (T : Txt K mg A) : FnOk P w K mg base CX0 9 A.a_law_refuses A.d_law_refuses ["_law_source_here", "_law_flash"] (spRef K A.c_Flash) := by
  refine T.F_law_refuses.ok sc_law_refuses (fun vs H Q E h => ?_) (fun cdv B outer s H vs Q E hr h => ?_)
  · obtain ⟨c, p, f, dx, l, ps, pw, rfl, _⟩ := h
    rfl
  · obtain ⟨c, p, f, dx, l, ps, pw, rfl, hs, hF, npl, hfl, q⟩ := h
    refine ⟨_, (pss_cons (ps_set (i := 2) sc_law_refuses.nd rfl (.inl rfl) (pe_ix ix_tup (pe_tup (pa_cons (pe_un un_neg pe_int) (pa_cons pe_bl (pa_cons pe_non (pa_cons pe_str pa_nil))))) (pe_call (ok_law_draw T) (hr.mono (by omega)) rfl T.g_law_draw T.F_law_draw.kp T.b_law_draw .nil pass0 (pa_cons (pv 0) (pa_cons pe_int pa_nil))) (fun _ _ => rfl)))
    (pss_cons (ps_for PassesOwn.never rfl (pi_range1 (by rfl) T.n_range (pa_cons pe_int pa_nil)) (pg_name (i := 3) sc_law_refuses.nd rfl (.inl rfl))
      (pss_one (ps_for PassesOwn.never rfl (pi_tup (pe_tup (pa_cons (pv 2) (pa_cons (pe_ix ix_tup (pe_tup (pa_cons pe_int (pa_cons pe_int (pa_cons pe_int pa_nil)))) (pv 3) (fun _ _ => rfl)) pa_nil)))) (pg_name (i := 4) sc_law_refuses.nd rfl (.inl rfl))
      (pss_one (ps_if (pt_cmpR (op_neD hr.units) (pe_call (ok_plain T 5) (hr.mono (by omega)) rfl T.g_law_plain T.F_law_plain.kp T.b_law_plain .nil pass0 (pa_cons (pe_call (ok_law_read T) (hr.mono (by omega)) rfl T.g_law_read T.F_law_read.kp T.b_law_read .nil pass0 (pa_cons (pv 1) (pa_cons (pv 3) (pa_cons (pv 4) pa_nil)))) pa_nil)) (pe_call (ok_plain T 5) (hr.mono (by omega)) rfl T.g_law_plain T.F_law_plain.kp T.b_law_plain .nil pass0 (pa_cons (pe_tup (pa_cons (pv 3) (pa_cons (pv 4) pa_nil))) pa_nil)) (nomark _)) (pss_one (ps_ret pe_bl)) pss_nil)))))
    (pss_cons (ps_for PassesOwn.never rfl (pi_tup (pe_tup (pa_cons (pe_un un_neg pe_int) (pa_cons pe_bl (pa_cons pe_str pa_nil))))) (pg_name (i := 4) sc_law_refuses.nd rfl (.inl rfl))
      (pss_one (ps_for PassesOwn.never rfl (pi_tup (pe_tup (pa_cons pe_int (pa_cons pe_int pa_nil)))) (pg_name (i := 3) sc_law_refuses.nd rfl (.inl rfl))
      (pss_one (ps_if (pt_cmpR (op_neD hr.units) (pe_call (ok_plain T 5) (hr.mono (by omega)) rfl T.g_law_plain T.F_law_plain.kp T.b_law_plain .nil pass0 (pa_cons (pe_call (ok_law_read T) (hr.mono (by omega)) rfl T.g_law_read T.F_law_read.kp T.b_law_read .nil pass0 (pa_cons (pv 1) (pa_cons (pv 3) (pa_cons (pv 4) pa_nil)))) pa_nil)) (pe_call (ok_plain T 5) (hr.mono (by omega)) rfl T.g_law_plain T.F_law_plain.kp T.b_law_plain .nil pass0 (pa_cons (pe_tup (pa_cons (pv 3) (pa_cons (pv 4) pa_nil))) pa_nil)) (nomark _)) (pss_one (ps_ret pe_bl)) pss_nil)))))
    (pss_cons (ps_for PassesOwn.never rfl (pi_tup (pe_tup (pa_cons pe_non (pa_cons pe_int (pa_cons (pe_op op_pow pe_int pe_int) pa_nil))))) (pg_name (i := 4) sc_law_refuses.nd rfl (.inl rfl))
      (pss_one (ps_if (pt_cmpR (op_neD hr.units) (pe_call (ok_plain T 5) (hr.mono (by omega)) rfl T.g_law_plain T.F_law_plain.kp T.b_law_plain .nil pass0 (pa_cons (pe_call (ok_law_read T) (hr.mono (by omega)) rfl T.g_law_read T.F_law_read.kp T.b_law_read .nil pass0 (pa_cons (pv 1) (pa_cons pe_int (pa_cons (pv 4) pa_nil)))) pa_nil)) (pe_call (ok_plain T 5) (hr.mono (by omega)) rfl T.g_law_plain T.F_law_plain.kp T.b_law_plain .nil pass0 (pa_cons (pe_tup (pa_cons pe_int (pa_cons pe_bl pa_nil))) pa_nil)) (nomark _)) (pss_one (ps_ret pe_bl)) pss_nil)))
    (pss_one (ps_ret pe_bl)))))), ?_⟩
    refine ⟨_, rfl, lenOk (n := 4) rfl (by decide), fun tp ntp => ?_⟩
    have s2 := same_new (o := .tup [V.int (-1), V.bl true, V.non, V.str (Str.ofString "0")]) ntp
    refine ⟨_, rfl, c, p, 4, rfl, src_up hs s2, by decide, by decide, fun H2 k lk hs2 b2 => ?_⟩
    obtain ⟨x, d, hat, hx, ho⟩ : ∃ (x : V) (d : PyData), atI [V.int (-1), V.bl true, V.non, V.str (Str.ofString "0")] (k : Int) = some x ∧ Wr K x d ∧ Out3 d := by
      match k, lk with
      | 0, _ => exact ⟨_, _, rfl, wr_int _, by decide, by decide, by decide⟩
      | 1, _ => exact ⟨_, _, rfl, wr_bl _, rfl, rfl, rfl⟩
      | 2, _ => exact ⟨_, _, rfl, wr_non, rfl, rfl, rfl⟩
      | 3, _ => exact ⟨_, _, rfl, wr_0, rfl, rfl, rfl⟩
      | n + 4, h => exact absurd h (by omega)
    have tp2 := src_tup (src_up hs s2) b2 (show (upd H tp (.tup [V.int (-1), V.bl true, V.non, V.str (Str.ofString "0")])) tp = some (.tup [V.int (-1), V.bl true, V.non, V.str (Str.ofString "0")]) from upd_same)
    refine ⟨tp, _, _, _, rfl, rfl, SqT.of tp2, hat, ?_⟩
    have b02 : But p H H2 := (But.of s2).trans b2
    obtain ⟨yp, hyp⟩ : ∃ ys, H p = some (.lst ys) := by
      obtain ⟨_, _, _, _, _, y, _⟩ := hs
      exact ⟨_, y⟩
    have npf : p ≠ f := fun z => by rw [z, hF.1] at hyp; cases hyp
    have hF2 : FlS K A.c_Flash H2 f dx l ps pw := hF.tk (Tk.but hyp b02) fun b o hb e => b02 b o (by rcases hb with rfl | rfl <;> first | exact npf.symm | exact npl.symm) e
    refine ⟨3, rfl, by decide, by decide, ?_⟩
    refine for_it (walk_range (lo := 0) (n := 3)) (fun i σ Hc => ∃ o3 o4, σ = [some (.ref p), some (.ref f), some x, o3, o4] ∧ Same H2 Hc) ⟨_, _, rfl, Same.refl _⟩ (fun _ _ _ _ _ => trivial) (fun i y σ Hc Hd hi w e => ?_) (fun σ Hc w => ?_)
    · obtain ⟨rfl, ey⟩ := e
      have ey : y = .int (i : Int) := by rw [ey]; exact congrArg V.int (by omega)
      subst ey
      obtain ⟨o3, o4, rfl, sc⟩ := w
      refine ⟨_, rfl, lenOk (n := 3) rfl (by decide), fun t3 nt3 => ?_⟩
      have s3 := same_new (o := .tup [V.int 144, V.int 2, V.int 18]) nt3
      have e3 : upd Hd t3 (.tup [V.int 144, V.int 2, V.int 18]) t3 = some (.tup [V.int 144, V.int 2, V.int 18]) := upd_same
      generalize upd Hd t3 (.tup [V.int 144, V.int 2, V.int 18]) = H3 at s3 e3 ⊢
      obtain ⟨m, hm, hmb⟩ : ∃ m : Int, atI [V.int 144, V.int 2, V.int 18] (i : Int) = some (.int m) ∧ badD i (.int m) := by
        match i, hi with
        | 0, _ => exact ⟨144, rfl, .inl ⟨rfl, rfl⟩⟩
        | 1, _ => exact ⟨2, rfl, .inr (.inl ⟨rfl, rfl⟩)⟩
        | 2, _ => exact ⟨18, rfl, .inr (.inr (.inl ⟨rfl, rfl⟩))⟩
        | n + 3, h => exact absurd h (by omega)
      have hxb : badD i d := by
        match i, hi with
        | 0, _ => exact .inl ⟨rfl, ho.1⟩
        | 1, _ => exact .inr (.inl ⟨rfl, ho.2.1⟩)
        | 2, _ => exact .inr (.inr (.inl ⟨rfl, ho.2.2⟩))
        | n + 3, h => exact absurd h (by omega)
      refine ⟨_, rfl, t3, _, _, _, rfl, rfl, SqT.of e3, hm, ?_⟩
      refine ⟨lenOk (n := 2) rfl (by decide), fun t4 nt4 => ?_⟩
      have s4 := same_new (o := .tup [x, V.int m]) nt4
      have e4 : upd H3 t4 (.tup [x, V.int m]) t4 = some (.tup [x, V.int m]) := upd_same
      generalize upd H3 t4 (.tup [x, V.int m]) = H4 at s4 e4 ⊢
      have sc4 := sc.trans (s3.trans s4)
      refine ⟨t4, rfl, ⟨_, SqT.of e4⟩, for_it (walk_tup (K := K) (a := t4) (xs := [x, V.int m])) (fun j σ Hx => ∃ o4, σ = [some (.ref p), some (.ref f), some x, some (.int (i : Int)), o4] ∧ Same H4 Hx) ⟨_, rfl, Same.refl _⟩ (fun j σ Hx _ y => sqT_up (SqT.of e4) y.choose_spec.2) (fun j y σ Hx Hd hj w e => ?_) (fun σ Hx w => ?_)⟩
      · obtain ⟨rfl, ey⟩ := e
        obtain ⟨o4, rfl, sx⟩ := w
        obtain ⟨a, ha⟩ : ∃ a : Nat, a = i := ⟨_, rfl⟩
        obtain ⟨v, d', hv, hw, hbad⟩ : ∃ v d', y = v ∧ Wr K v d' ∧ badD a d' := by
          rw [ha]
          match j, hj, ey with
          | 0, _, ey => cases ey; exact ⟨_, d, rfl, hx, hxb⟩
          | 1, _, ey => cases ey; exact ⟨_, .int m, rfl, wr_int m, hmb⟩
        subst hv
        subst ha
        have scx := sc4.trans sx
        refine ⟨_, rfl, _, rfl, _, rfl, f, dx, l, ps, pw, a, _, d', rfl, hF2.up scx, hfl, hw.dx _, .inl ⟨hbad, fun H5 r5 s5 e5 => ?_⟩⟩
        refine ⟨_, .tuple [.int (a : Int), d'], noS, rfl, fun _ z => z.elim, e5, Nat.le_trans (hw.fit a).2.1 (by decide), (hw.fit a).2.2, fun H6 v6 s6 d6 => ?_⟩
        refine ⟨_, rfl, _, rfl, lenOk (n := 2) rfl (by decide), fun r7 h7 => ?_⟩
        have s7 := same_new (o := .tup [V.int (a : Int), y]) h7
        refine ⟨_, .tuple [.int (a : Int), d'], noS, rfl, fun _ z => z.elim, mk_pair upd_same (hw.dx _), Nat.le_trans (hw.fit a).2.1 (by decide), (hw.fit a).2.2, fun H8 v8 s8 d8 => ?_⟩
        have ef := eq_fin (hw.fit a) d6 (s7.trans s8) d8
        refine ⟨_, _, ef.1, ef.2.1, ef.2.2.1, ef.2.2.1, ?_⟩
        rw [ef.2.2.2]
        refine ⟨_, rfl, ifF rfl ?_⟩
        have s58 := s5.trans (s6.trans (s7.trans s8))
        exact ⟨_, rfl, sx.trans s58⟩
      · obtain ⟨o4, rfl, sx⟩ := w
        exact ⟨_, _, rfl, sc4.trans sx⟩
    · obtain ⟨o3, o4, rfl, sc⟩ := w
      refine ⟨_, rfl, lenOk (n := 3) rfl (by decide), fun t4 nt4 => ?_⟩
      have s4 := same_new (o := .tup [V.int (-1), V.bl true, V.str (Str.ofString "3")]) nt4
      have e4 : upd Hc t4 (.tup [V.int (-1), V.bl true, V.str (Str.ofString "3")]) t4 = some (.tup [V.int (-1), V.bl true, V.str (Str.ofString "3")]) := upd_same
      generalize upd Hc t4 (.tup [V.int (-1), V.bl true, V.str (Str.ofString "3")]) = H4 at s4 e4 ⊢
      have sc4 := sc.trans s4
      refine ⟨t4, rfl, ⟨_, SqT.of e4⟩, for_it (walk_tup (K := K) (a := t4) (xs := [V.int (-1), V.bl true, V.str (Str.ofString "3")])) (fun j σ Hx => ∃ o3 o4, σ = [some (.ref p), some (.ref f), some x, o3, o4] ∧ Same H4 Hx) ⟨_, _, rfl, Same.refl _⟩ (fun j σ Hx _ y => sqT_up (SqT.of e4) y.choose_spec.choose_spec.2) (fun j y σ Hx Hd hj w e => ?_) (fun σ Hx w => ?_)⟩
      · obtain ⟨rfl, ey⟩ := e
        obtain ⟨o3, o4, rfl, sx⟩ := w
        obtain ⟨v, d', hv, hw, hpow⟩ : ∃ v d', y = v ∧ Wr K v d' ∧ powD d' = false := by
          match j, hj, ey with
          | 0, _, ey => cases ey; exact ⟨_, _, rfl, wr_int (-1), rfl⟩
          | 1, _, ey => cases ey; exact ⟨_, _, rfl, wr_bl true, rfl⟩
          | 2, _, ey => cases ey; exact ⟨_, _, rfl, wr_3, rfl⟩
        subst hv
        refine ⟨lenOk (n := 2) rfl (by decide), fun t5 nt5 => ?_⟩
        have s5 := same_new (o := .tup [V.int 3, V.int 4]) nt5
        have e5 : upd Hd t5 (.tup [V.int 3, V.int 4]) t5 = some (.tup [V.int 3, V.int 4]) := upd_same
        generalize upd Hd t5 (.tup [V.int 3, V.int 4]) = H5 at s5 e5 ⊢
        refine ⟨t5, rfl, ⟨_, SqT.of e5⟩, for_it (walk_tup (K := K) (a := t5) (xs := [V.int 3, V.int 4])) (fun j σ Hy => ∃ o3, σ = [some (.ref p), some (.ref f), some x, o3, some y] ∧ Same H5 Hy) ⟨_, rfl, Same.refl _⟩ (fun j σ Hy _ w => sqT_up (SqT.of e5) w.choose_spec.2) (fun j z σ Hy Hd hj w e => ?_) (fun σ Hy w => ?_)⟩
        · obtain ⟨rfl, ez⟩ := e
          obtain ⟨o3, rfl, sy⟩ := w
          obtain ⟨a, hz, hbad⟩ : ∃ a : Nat, z = .int (a : Int) ∧ badD a d' := by
            match j, hj, ez with
            | 0, _, ez => cases ez; exact ⟨3, rfl, .inr (.inr (.inr (.inl ⟨rfl, hpow⟩)))⟩
            | 1, _, ez => cases ez; exact ⟨4, rfl, .inr (.inr (.inr (.inr ⟨rfl, hpow⟩)))⟩
          subst hz
          have scx := sc4.trans (sx.trans (s5.trans sy))
          refine ⟨_, rfl, _, rfl, _, rfl, f, dx, l, ps, pw, a, _, d', rfl, hF2.up scx, hfl, hw.dx _, .inl ⟨hbad, fun H5 r5 s5 e5 => ?_⟩⟩
          refine ⟨_, .tuple [.int (a : Int), d'], noS, rfl, fun _ z => z.elim, e5, Nat.le_trans (hw.fit a).2.1 (by decide), (hw.fit a).2.2, fun H6 v6 s6 d6 => ?_⟩
          refine ⟨_, rfl, _, rfl, lenOk (n := 2) rfl (by decide), fun r7 h7 => ?_⟩
          have s7 := same_new (o := .tup [V.int (a : Int), y]) h7
          refine ⟨_, .tuple [.int (a : Int), d'], noS, rfl, fun _ z => z.elim, mk_pair upd_same (hw.dx _), Nat.le_trans (hw.fit a).2.1 (by decide), (hw.fit a).2.2, fun H8 v8 s8 d8 => ?_⟩
          have ef := eq_fin (hw.fit a) d6 (s7.trans s8) d8
          refine ⟨_, _, ef.1, ef.2.1, ef.2.2.1, ef.2.2.1, ?_⟩
          rw [ef.2.2.2]
          refine ⟨_, rfl, ifF rfl ?_⟩
          have s58 := s5.trans (s6.trans (s7.trans s8))
          exact ⟨_, rfl, sy.trans s58⟩
        · obtain ⟨o3, rfl, sy⟩ := w
          exact ⟨_, _, rfl, sx.trans (s5.trans sy)⟩
      · obtain ⟨o3, o4, rfl, sx⟩ := w
        have scx := sc4.trans sx
        refine ⟨_, _, rfl, rfl, ⟨by decide, by decide, by decide⟩, lenOk (n := 3) rfl (by decide), fun t6 nt6 => ?_⟩
        have s6' := same_new (o := .tup [V.non, V.int 0, V.int ((10 : Int) ^ (6 : Int).toNat)]) nt6
        have e6' : upd Hx t6 (.tup [V.non, V.int 0, V.int ((10 : Int) ^ (6 : Int).toNat)]) t6 = some (.tup [V.non, V.int 0, V.int ((10 : Int) ^ (6 : Int).toNat)]) := upd_same
        generalize upd Hx t6 (.tup [V.non, V.int 0, V.int ((10 : Int) ^ (6 : Int).toNat)]) = H6 at s6' e6' ⊢
        have sc6 := scx.trans s6'
        refine ⟨t6, rfl, ⟨_, SqT.of e6'⟩, for_it (walk_tup (K := K) (a := t6) (xs := [V.non, V.int 0, V.int ((10 : Int) ^ (6 : Int).toNat)])) (fun j σ Hy => ∃ o3 o4, σ = [some (.ref p), some (.ref f), some x, o3, o4] ∧ Same H6 Hy) ⟨_, _, rfl, Same.refl _⟩ (fun j σ Hy _ w => sqT_up (SqT.of e6') w.choose_spec.choose_spec.2) (fun j y σ Hy Hd hj w e => ?_) (fun σ Hy w => ?_)⟩
        · obtain ⟨rfl, ey⟩ := e
          obtain ⟨o3, o4, rfl, sy⟩ := w
          obtain ⟨v, d', hv, hw, hpow⟩ : ∃ v d', y = v ∧ Wr K v d' ∧ powD d' = true := by
            match j, hj, ey with
            | 0, _, ey => cases ey; exact ⟨_, _, rfl, wr_non, rfl⟩
            | 1, _, ey => cases ey; exact ⟨_, _, rfl, wr_int 0, rfl⟩
            | 2, _, ey => cases ey; exact ⟨_, _, rfl, wr_int _, by decide⟩
          subst hv
          have scy := sc6.trans sy
          have hft : fitD (.tuple [.int 9, .bool false]) := ⟨rfl, by show 1 ≤ 3; decide, rfl⟩
          refine ⟨_, rfl, _, rfl, f, dx, l, ps, pw, 3, _, d', rfl, hF2.up scy, hfl, hw.dx _, .inr ⟨rfl, hpow, fun H5 r5 s5 e5 => ?_⟩⟩
          refine ⟨_, .tuple [.int 9, .bool false], noS, rfl, fun _ z => z.elim, e5, Nat.le_trans hft.2.1 (by decide), hft.2.2, fun H6 v6 s6 d6 => ?_⟩
          refine ⟨lenOk (n := 2) rfl (by decide), fun r7 h7 => ?_⟩
          have s7 := same_new (o := .tup [V.int 9, V.bl false]) h7
          refine ⟨_, .tuple [.int 9, .bool false], noS, rfl, fun _ z => z.elim, mk_pair upd_same (.bl false), Nat.le_trans hft.2.1 (by decide), hft.2.2, fun H8 v8 s8 d8 => ?_⟩
          have ef := eq_fin hft d6 (s7.trans s8) d8
          refine ⟨_, _, ef.1, ef.2.1, ef.2.2.1, ef.2.2.1, ?_⟩
          rw [ef.2.2.2]
          refine ⟨_, rfl, ifF rfl ?_⟩
          exact ⟨_, _, rfl, sy.trans (s5.trans (s6.trans (s7.trans s8)))⟩
        · obtain ⟨o3, o4, rfl, sy⟩ := w
          have sf := sc6.trans sy
          exact q Hy (src_up hs2 sf) (b02.trans (But.of sf))
end
end R1

namespace R1
open PySem PySem.Spec PyProof.Rows L2 RK
local macro_rules | `(tactic| walk_at "sq") => `(tactic| first
  | exact SqL.of upd_same | exact upd_same | exact SqL.of (by assumption) | exact SqL.of (by rw [upd_ne (by assumption)]; assumption) | assumption)
local macro_rules | `(tactic| walk_at "sd") => `(tactic| first
  | assumption | omega | (refine Or.inl ⟨?_, ?_⟩ <;> omega) | (show _ ∧ _; constructor <;> omega) | (show _ ≠ _; simp; omega) | (exact Or.inl ⟨by decide, by decide⟩) | (exact Or.inr ⟨by decide, by decide⟩) | (show _ < _; decide) | (show _ ≤ _; decide))
local macro_rules | `(tactic| walk_at "at") => `(tactic| first | rfl | (refine atI_intV ?_ ?_ <;> omega) | assumption)
local macro_rules | `(tactic| walk_at "s1") => `(tactic| first
  | refine ⟨_, rfl, ?_⟩ | refine ⟨_, _, rfl, rfl, ?_⟩ | refine ⟨rfl, ?_⟩
  | refine ⟨_, _, _, _, rfl, rfl, by walk_at "sq", by walk_at "at", ?_⟩
  | refine Or.inl ⟨_, rfl, ?_⟩
  | refine ⟨_, _, rfl, Or.inl (by walk_at "sq"), ?_⟩
  | refine And.intro (by walk_at "sd") ?_)
local macro_rules | `(tactic| walk_at "s") => `(tactic| repeat walk_at "s1")

mutual
def noL : PyData → Bool
  | .list _ => false
  | .tuple xs => noLA xs
  | _ => true
def noLA : List PyData → Bool
  | [] => true
  | x :: r => noL x && noLA r
end
mutual
theorem dx_tk {K : PySem.W.Frag} {H H' : Hp} (t : Tk H H') : ∀ {v : V} {d : PyData}, noL d = true → Dx K H noS v d → Dx K H' noS v d
  | _, _, _, .non => .non
  | _, _, _, .bl b => .bl b
  | _, _, _, .int i => .int i
  | _, _, _, .str x => .str x
  | _, _, h, .lst _ _ => Bool.noConfusion h
  | _, _, h, .tup hx ha => .tup (xt_sq (sqT_tk hx.sq t) fun _ z => z.elim) (dxA_tk t h ha)
theorem dxA_tk {K : PySem.W.Frag} {H H' : Hp} (t : Tk H H') : ∀ {vs : List V} {ds : List PyData}, noLA ds = true → DxAll K H noS vs ds → DxAll K H' noS vs ds
  | _, _, _, .nil => .nil
  | _, _, h, .cons a b => .cons (dx_tk t (Bool.and_eq_true_iff.mp h).1 a) (dxA_tk t (Bool.and_eq_true_iff.mp h).2 b)
end
/-- what a deed may answer -/
def Fine (d : PyData) : Prop := fitD d ∧ noL d = true
theorem fine_res {nm : String} {dv : PyData} (h : (PyData.str (Str.ofString nm)).canLay0 = true) (h1 : dv.canLay0 = true) (h2 : dv.depth ≤ 1) (h3 : wdB dv = true) (h4 : noL dv = true) : Fine (res nm dv) := by
  refine ⟨⟨?_, ?_, ?_⟩, ?_⟩
  · show (true && ((PyData.str (Str.ofString nm)).canLay0 && (dv.canLay0 && (true && true)))) = true
    rw [h, h1]
    rfl
  · show max 0 (max dv.depth (max 0 0)) + 1 ≤ 3
    omega
  · show (decide (3 ≤ 100000) && (true && (wdB dv && (true && true)))) = true
    rw [h3]
    rfl
  · show (true && (noL dv && (true && true))) = true
    rw [h4]
    rfl
theorem fine_dat {nm : String} (h : (PyData.str (Str.ofString nm)).canLay0 = true) (x : V) : Fine (res nm (datV x)) := by
  cases x <;> exact fine_res h rfl (Nat.zero_le _) rfl rfl
theorem fine_ok : Fine okR := fine_res (by decide +kernel) rfl (Nat.zero_le _) rfl rfl
theorem fine_end (b : Bool) : Fine (endR b) := by
  cases b with
  | true => exact fine_ok
  | false => exact fine_res (nm := "lost") (dv := .tuple []) (by decide +kernel) rfl (Nat.le_refl _) rfl rfl
theorem fine_int {nm : String} (h : (PyData.str (Str.ofString nm)).canLay0 = true) (i : Int) : Fine (res nm (.int i)) := fine_res h rfl (Nat.zero_le _) rfl rfl
theorem fine_put (b : Nat) (ws : List Nat) (ps : List (List Nat)) (p : Option Nat) : Fine (putD b ws ps p).1 := by
  unfold putD
  split
  · exact fine_int (by decide +kernel) _
  · exact fine_end _
theorem fine_run (d : Deed) (ps : List (List Nat)) (p : Option Nat) : Fine (runD d ps p).1 := by
  cases d with
  | power n => exact fine_ok
  | erase x =>
    show Fine (if inD (datV x) 0 17 = true then _ else _ : Run).1
    split
    · exact fine_end _
    · exact fine_dat (by decide +kernel) x
  | write x ws =>
    show Fine (if inD (datV x) 0 143 = true then (if ws.length ≠ 16 then _ else if ps.getD (numV x) [] ≠ blank then _ else _) else _ : Run).1
    split
    · split
      · exact fine_int (by decide +kernel) _
      · split
        · exact fine_dat (by decide +kernel) x
        · exact fine_put _ _ _ _
    · exact fine_dat (by decide +kernel) x
  | put x ws =>
    show Fine (if inD (datV x) 0 143 = true then (if 144 < numV x + cntR ws then _ else _) else _ : Run).1
    split
    · split
      · exact fine_int (by decide +kernel) _
      · exact fine_put _ _ _ _
    · exact fine_dat (by decide +kernel) x
theorem DeedT.tk {K : PySem.W.Frag} {H H' : Hp} {t : Addr} {ws : List Nat} {nm : String} {x : V} (h : DeedT K H t ws nm x) (k : Tk H H') : DeedT K H' t ws nm x := by
  obtain ⟨b, h1, h2, h3⟩ := h
  exact ⟨b, sqT_tk h1 k, sqT_tk h2 k, h3⟩
theorem IsDeed.tk {K : PySem.W.Frag} {H H' : Hp} {t : Addr} {d : Deed} (h : IsDeed K H t d) (k : Tk H H') : IsDeed K H' t d := by
  cases d with
  | erase x => exact DeedT.tk h k
  | write x ws => exact ⟨DeedT.tk h.1 k, h.2⟩
  | put x ws => exact ⟨DeedT.tk h.1 k, h.2⟩
  | power n => exact ⟨DeedT.tk h.1 k, h.2⟩
/-- the addresses of the law -/
structure Plc where
  c : Addr
  p : Addr
  f : Addr
  dx : Addr
  l : Addr
  f2 : Addr
  dx2 : Addr
  l2 : Addr
  lp : Addr
  pw : Addr
structure Dis (Z : Plc) : Prop where
  ff : Z.f ≠ Z.f2
  ll : Z.l ≠ Z.l2
  llp : Z.l ≠ Z.lp
  lpw : Z.l ≠ Z.pw
  lq : Z.l ≠ Z.p
  lc : Z.l ≠ Z.c
  l2lp : Z.l2 ≠ Z.lp
  l2pw : Z.l2 ≠ Z.pw
  l2p : Z.l2 ≠ Z.p
  l2c : Z.l2 ≠ Z.c
  lppw : Z.lp ≠ Z.pw
  lpp : Z.lp ≠ Z.p
  lpc : Z.lp ≠ Z.c
  pwp : Z.pw ≠ Z.p
  pwc : Z.pw ≠ Z.c
structure Sit (K : PySem.W.Frag) (C : Addr) (Z : Plc) (H : Hp) (ps : List (List Nat)) (q : Option Nat) (ps' : List (List Nat)) (q' : Option Nat) : Prop where
  src : Src Z.c H Z.p
  fl : FlS K C H Z.f Z.dx Z.l ps q
  fo : FlS K C H Z.f2 Z.dx2 Z.l2 page0 none
  pg : PgK K H Z.lp ps'
  po : H Z.pw = some (.lst [lV q'])
section
variable {K : PySem.W.Frag} {C : Addr} {Z : Plc} {H H' : Hp} {ps ps' ps1 : List (List Nat)} {q q' q1 : Option Nat}
theorem Sit.same (h : Sit K C Z H ps q ps' q') (s : Same H H') : Sit K C Z H' ps q ps' q' := ⟨src_up h.src s, h.fl.up s, h.fo.up s, h.pg.same s, s _ _ h.po⟩
theorem src_l {c p : Addr} (h : Src c H p) : ∃ ys zs, H p = some (.lst ys) ∧ H c = some (.lst zs) := by
  obtain ⟨cs, pl, dg, ct, mx, a, b, _⟩ := h
  exact ⟨_, _, a, b⟩
theorem src_of {c p : Addr} (h : Src c H p) (k : ∀ b o, b = p ∨ b = c → H b = some o → H' b = some o) : Src c H' p := by
  obtain ⟨cs, pl, dg, ct, mx, a, b, x, y⟩ := h
  exact ⟨cs, pl, dg, ct, mx, k _ _ (.inl rfl) a, k _ _ (.inr rfl) b, x, y⟩
theorem ne_lf {a f : Addr} {ys : List V} {dx : Addr} {fs : List (Str × V)} (h : H a = some (.lst ys)) (g : H f = some (.ins C dx fs)) : a ≠ f := fun z => by
  rw [z, g] at h
  cases h
theorem Sit.but (h : Sit K C Z H ps q ps' q') (D : Dis Z) (b : But Z.p H H') (s : Src Z.c H' Z.p) : Sit K C Z H' ps q ps' q' := by
  obtain ⟨ys, zs, hp, hc⟩ := src_l h.src
  have t := Tk.but hp b
  refine ⟨s, h.fl.tk t fun a o ha e => b a o ?_ e, h.fo.tk t fun a o ha e => b a o ?_ e, h.pg.tk t fun o e => b _ o D.lpp e, b _ _ D.pwp h.po⟩
  · rcases ha with rfl | rfl
    · exact (ne_lf hp h.fl.1).symm
    · exact D.lq
  · rcases ha with rfl | rfl
    · exact (ne_lf hp h.fo.1).symm
    · exact D.l2p
theorem Sit.tkL (h : Sit K C Z H ps q ps' q') (b : Bt2 Z.lp Z.pw H H') : Tk H H' := by
  obtain ⟨xs, e, _⟩ := h.pg
  exact Tk.bt e (.inl ⟨_, h.po⟩) b
theorem Sit.tkF (h : Sit K C Z H ps q ps' q') (b : Bt2 Z.l Z.f H H') : Tk H H' := by
  obtain ⟨xs, e, _⟩ := h.fl.2
  exact Tk.bt e (.inr ⟨_, _, _, h.fl.1⟩) b
theorem Sit.law (h : Sit K C Z H ps q ps' q') (D : Dis Z) (b : Bt2 Z.lp Z.pw H H') (pg : PgK K H' Z.lp ps1) (po : H' Z.pw = some (.lst [lV q1])) : Sit K C Z H' ps q ps1 q1 := by
  obtain ⟨ys, zs, hp, hc⟩ := src_l h.src
  have t := h.tkL b
  obtain ⟨xs, elp, _⟩ := h.pg
  refine ⟨src_of h.src fun a o ha e => b a o ?_ ?_ e, h.fl.tk t fun a o ha e => b a o ?_ ?_ e, h.fo.tk t fun a o ha e => b a o ?_ ?_ e, pg, po⟩
  · rcases ha with rfl | rfl
    · exact D.lpp.symm
    · exact D.lpc.symm
  · rcases ha with rfl | rfl
    · exact D.pwp.symm
    · exact D.pwc.symm
  · rcases ha with rfl | rfl
    · exact (ne_lf elp h.fl.1).symm
    · exact D.llp
  · rcases ha with rfl | rfl
    · exact (ne_lf h.po h.fl.1).symm
    · exact D.lpw
  · rcases ha with rfl | rfl
    · exact (ne_lf elp h.fo.1).symm
    · exact D.l2lp
  · rcases ha with rfl | rfl
    · exact (ne_lf h.po h.fo.1).symm
    · exact D.l2pw
theorem Sit.fla (h : Sit K C Z H ps q ps' q') (D : Dis Z) (b : Bt2 Z.l Z.f H H') (fl : FlS K C H' Z.f Z.dx Z.l ps1 q1) : Sit K C Z H' ps1 q1 ps' q' := by
  obtain ⟨ys, zs, hp, hc⟩ := src_l h.src
  have t := h.tkF b
  obtain ⟨xs, elp, _⟩ := h.pg
  obtain ⟨xs2, el2, _⟩ := h.fo.2
  refine ⟨src_of h.src fun a o ha e => b a o ?_ ?_ e, fl, h.fo.tk t fun a o ha e => b a o ?_ ?_ e, h.pg.tk t fun o e => b _ o D.llp.symm (ne_lf elp h.fl.1) e, b _ _ D.lpw.symm (ne_lf h.po h.fl.1) h.po⟩
  · rcases ha with rfl | rfl
    · exact D.lq.symm
    · exact D.lc.symm
  · rcases ha with rfl | rfl
    · exact ne_lf hp h.fl.1
    · exact ne_lf hc h.fl.1
  · rcases ha with rfl | rfl
    · exact fun z => by
        obtain ⟨xs1, el1, _⟩ := h.fl.2
        rw [z, el1] at e
        have := h.fo.1
        rw [z, el1] at this
        cases this
    · exact D.ll.symm
  · rcases ha with rfl | rfl
    · exact D.ff.symm
    · exact ne_lf el2 h.fl.1
end
theorem flat_len {ps : List (List Nat)} (h : ∀ x ∈ ps, x.length = 16) : ps.flatten.length = 16 * ps.length := by
  induction ps with
  | nil => rfl
  | cons a r ih =>
    rw [List.flatten_cons, List.length_append, h a List.mem_cons_self, ih fun x hx => h x (List.mem_cons_of_mem _ hx), List.length_cons]
    omega
theorem Full.cut {ps : List (List Nat)} (h : Full ps) (i n : Nat) : ((ps.drop i).take n).flatten.length ≤ 16 * n := by
  rw [flat_len fun x hx => h.2 x (List.mem_of_mem_drop (List.mem_of_mem_take hx)), List.length_take]
  omega
theorem page0_cut {b : Nat} (h : b < 18) : ((page0.drop (8 * b)).take 8).flatten = List.replicate 128 65535 := by
  unfold page0 blank
  rw [List.drop_replicate, List.take_replicate, show min 8 (144 - 8 * b) = 8 by omega, List.flatten_replicate_replicate]
theorem range_blank : (List.range 144).map (fun _ => blank) = page0 := by
  unfold page0
  rw [List.map_const', List.length_range]
theorem Full.list {ps : List (List Nat)} (h : Full ps) : (List.range 144).map (fun i => intsD (ps.getD i [])) = ps.map intsD := by
  refine List.ext_getElem? fun i => ?_
  rw [List.getElem?_map, List.getElem?_map]
  by_cases hi : i < 144
  · rw [List.getElem?_range hi, getD_at (ps := ps) (by rw [h.1]; exact hi)]
    rfl
  · rw [List.getElem?_eq_none (by rw [List.length_range]; omega), List.getElem?_eq_none (by rw [h.1]; omega)]
    rfl
end R1

namespace R1
open PySem PySem.Spec PyProof.Rows L2 RK
local macro_rules | `(tactic| walk_at "sq") => `(tactic| first
  | exact SqL.of upd_same | exact upd_same | exact SqL.of (by assumption) | exact SqL.of (by rw [upd_ne (by assumption)]; assumption) | assumption)
local macro_rules | `(tactic| walk_at "sd") => `(tactic| first
  | assumption | omega | (refine Or.inl ⟨?_, ?_⟩ <;> omega) | (show _ ∧ _; constructor <;> omega) | (show _ ≠ _; simp; omega) | (exact Or.inl ⟨by decide, by decide⟩) | (exact Or.inr ⟨by decide, by decide⟩) | (show _ < _; decide) | (show _ ≤ _; decide))
local macro_rules | `(tactic| walk_at "at") => `(tactic| first | rfl | (refine atI_intV ?_ ?_ <;> omega) | assumption)
local macro_rules | `(tactic| walk_at "s1") => `(tactic| first
  | refine ⟨_, rfl, ?_⟩ | refine ⟨_, _, rfl, rfl, ?_⟩ | refine ⟨rfl, ?_⟩
  | refine ⟨_, _, _, _, rfl, rfl, by walk_at "sq", by walk_at "at", ?_⟩
  | refine Or.inl ⟨_, rfl, ?_⟩
  | refine ⟨_, _, rfl, Or.inl (by walk_at "sq"), ?_⟩
  | refine And.intro (by walk_at "sd") ?_)
local macro_rules | `(tactic| walk_at "s") => `(tactic| repeat walk_at "s1")

theorem ordT_dx {K : PySem.W.Frag} {H : Hp} : ∀ {xs : List V} {ps : List (List Nat)}, OrdT K H xs ps → DxAll K H noS xs (ps.map intsD)
  | [], [], _ => .nil
  | _ :: _, [], h => by cases h.1
  | [], _ :: _, h => by cases h.1
  | x :: xr, q :: pr, h => by
    obtain ⟨t, e, ht⟩ := h.2 0 q rfl
    cases e
    exact .cons (dx_ints ht) (ordT_dx ⟨Nat.succ.inj h.1, fun k ws hk => h.2 (k + 1) ws hk⟩)
theorem Full.getD {ps : List (List Nat)} (h : Full ps) : (List.range 144).map (fun i => ps.getD i []) = ps := by
  refine List.ext_getElem? fun i => ?_
  rw [List.getElem?_map]
  by_cases hi : i < 144
  · rw [List.getElem?_range hi, getD_at (ps := ps) (by rw [h.1]; exact hi)]
    rfl
  · rw [List.getElem?_eq_none (by rw [List.length_range]; omega), List.getElem?_eq_none (by rw [h.1]; omega)]
    rfl
theorem lay_pages : ∀ ps : List (List Nat), PyData.canLayAll0 (ps.map intsD) = true
  | [] => rfl
  | a :: r => by
    show ((intsD a).canLay0 && PyData.canLayAll0 (r.map intsD)) = true
    rw [lay_intsD, lay_pages r]
    rfl
theorem dep_pages : ∀ ps : List (List Nat), PyData.depthAll (ps.map intsD) ≤ 1
  | [] => Nat.zero_le _
  | a :: r => by
    show max (intsD a).depth (PyData.depthAll (r.map intsD)) ≤ 1
    have := dep_intsD a
    have := dep_pages r
    omega
theorem wd_pages : ∀ ps : List (List Nat), (∀ x ∈ ps, x.length = 16) → wdA (ps.map intsD) = true
  | [], _ => rfl
  | a :: r, h => by
    show (wdB (intsD a) && wdA (r.map intsD)) = true
    rw [wd_intsD (by rw [h a List.mem_cons_self]; decide), wd_pages r fun x hx => h x (List.mem_cons_of_mem _ hx)]
    rfl
theorem fit_pages {ps : List (List Nat)} (h : Full ps) : fitD (.list (ps.map intsD)) := by
  refine ⟨lay_pages ps, ?_, ?_⟩
  · show PyData.depthAll (ps.map intsD) + 1 ≤ 3
    have := dep_pages ps
    omega
  · show (decide ((ps.map intsD).length ≤ 100000) && wdA (ps.map intsD)) = true
    rw [wd_pages ps h.2, List.length_map, h.1]
    rfl
def spLaw (K : PySem.W.Frag) : Sp := fun vs H Q _ => ∃ (a : Addr) (ns : List Int), vs = [.ref a] ∧ SqL K H a (ns.map V.int) ∧ ns.length ≤ 63 ∧ ∀ H', Q (.bl true) H'
section
variable {P : Program} {w : World} {K : PySem.W.Frag} {mg : Str → Option Value} {base : Heap} {A : Ads}
theorem ok_law (T : Txt K mg A) : FnOk P w K mg base CX0 12 A.a_law A.d_law ["_law_script"] (spLaw K) := by
  refine T.F_law.ok sc_law (fun vs H Q E h => ?_) (fun cdv B outer s H vs Q E hr h => ?_)
  · obtain ⟨a, ns, rfl, _⟩ := h
    rfl
  · obtain ⟨a, ns, rfl, hS, hl, q⟩ := h
    refine ⟨_, (pss_cons (ps_set (i := 1) sc_law.nd rfl (.inl rfl) (pe_call (ok_law_source T) (hr.mono (by omega)) rfl T.g_law_source T.F_law_source.kp T.b_law_source .nil pass0 (pa_cons (pv 0) pa_nil)))
    (pss_cons (ps_set (i := 2) sc_law.nd rfl (.inl rfl) (pe_call (ok_law_draw T) (hr.mono (by omega)) rfl T.g_law_draw T.F_law_draw.kp T.b_law_draw .nil pass0 (pa_cons (pv 1) (pa_cons pe_int pa_nil))))
    (pss_cons (ps_set (i := 3) sc_law.nd rfl (.inr rfl) (pe_make0 T.m_Flash (ok_Flash_init T) (hr.mono (by omega)) rfl T.g_Flash T.b_Flash_init .nil pass0))
    (pss_cons (ps_set (i := 4) sc_law.nd rfl (.inl rfl) (pe_make0 T.m_Flash (ok_Flash_init T) (hr.mono (by omega)) rfl T.g_Flash T.b_Flash_init .nil pass0))
    (pss_cons (ps_setLc (i := 6) (own := [("_law_page_here", 5)]) rfl sc_law.nd rfl rfl (sw_true rfl rfl rfl (by decide +kernel)) (pi_range1 (by rfl) T.n_range (pa_cons pe_int pa_nil)) (blkOk_by (own := [("_law_page_here", 5)]) (N := N_law) (sc := defScope s_law) (by decide +kernel)) (fun _ _ _ _ _ => pg_name (i := 5) sc_law.nd rfl (Or.inl rfl)) (fun _ _ _ _ _ => pts_nil) (fun _ _ _ _ _ => by exact (pe_op (r := rRepT K) op_repT (pe_tup (pa_cons pe_int pa_nil)) pe_int)))
    (pss_cons (ps_set (i := 7) sc_law.nd rfl (.inl rfl) (pe_lst (pa_cons pe_non pa_nil)))
    (pss_cons (ps_for PassesOwn.never rfl (pi_range1 (by rfl) T.n_range (pa_cons (pe_op op_add pe_int (pe_call (ok_law_draw T) (hr.mono (by omega)) rfl T.g_law_draw T.F_law_draw.kp T.b_law_draw .nil pass0 (pa_cons (pv 1) (pa_cons pe_int pa_nil)))) pa_nil)) (pg_name (i := 8) sc_law.nd rfl (.inl rfl))
      (pss_cons (ps_set (i := 9) sc_law.nd rfl (.inl rfl) (pe_call (ok_law_deed T) (hr.mono (by omega)) rfl T.g_law_deed T.F_law_deed.kp T.b_law_deed .nil pass0 (pa_cons (pv 1) (pa_cons (pv 2) pa_nil))))
    (pss_cons (ps_set (i := 10) sc_law.nd rfl (.inl rfl) (pe_call (ok_law_expected T) (hr.mono (by omega)) rfl T.g_law_expected T.F_law_expected.kp T.b_law_expected .nil pass0 (pa_cons (pv 6) (pa_cons (pv 7) (pa_cons (pv 9) pa_nil)))))
    (pss_cons (ps_if (pt_cmpR (op_neD hr.units) (pe_call (ok_plain T 5) (hr.mono (by omega)) rfl T.g_law_plain T.F_law_plain.kp T.b_law_plain .nil pass0 (pa_cons (pe_call (ok_law_done T) (hr.mono (by omega)) rfl T.g_law_done T.F_law_done.kp T.b_law_done .nil pass0 (pa_cons (pv 3) (pa_cons (pv 9) pa_nil))) pa_nil)) (pe_call (ok_plain T 5) (hr.mono (by omega)) rfl T.g_law_plain T.F_law_plain.kp T.b_law_plain .nil pass0 (pa_cons (pv 10) pa_nil)) (nomark _)) (pss_one (ps_ret pe_bl)) pss_nil)
    (pss_one (ps_if (PW.pt (pw_or (pt_not (pt_val (pe_call (ok_law_near T) (hr.mono (by omega)) rfl T.g_law_near T.F_law_near.kp T.b_law_near .nil pass0 (pa_cons (pv 3) (pa_cons (pv 6) (pa_cons (pv 7) (pa_cons (pe_op op_mul pe_int (pv 2)) pa_nil))))))) (pw_or1 (pt_not (pt_val (pe_call (ok_law_near T) (hr.mono (by omega)) rfl T.g_law_near T.F_law_near.kp T.b_law_near .nil pass0 (pa_cons (pv 3) (pa_cons (pv 6) (pa_cons (pv 7) (pa_cons (pe_ix ix_tup (pv 9) pe_int (fun _ _ => rfl)) pa_nil)))))))))) (pss_one (ps_ret pe_bl)) pss_nil))))))
    (pss_cons (ps_if (PW.pt (pw_or (pt_not (pt_val (pe_call (ok_law_refuses T) (hr.mono (by omega)) rfl T.g_law_refuses T.F_law_refuses.kp T.b_law_refuses .nil pass0 (pa_cons (pv 1) (pa_cons (pv 3) pa_nil))))) (pw_or1 (pt_cmpR op_notN (pe_fld (pv 4) rfl) pe_non (nomark _))))) (pss_one (ps_ret pe_bl)) pss_nil)
    (pss_cons (ps_for PassesOwn.never rfl (pi_range1 (by rfl) T.n_range (pa_cons pe_int pa_nil)) (pg_name (i := 11) sc_law.nd rfl (.inl rfl))
      (pss_one (ps_if (pt_cmpR (op_neD hr.units) (pe_call (ok_plain T 5) (hr.mono (by omega)) rfl T.g_law_plain T.F_law_plain.kp T.b_law_plain .nil pass0 (pa_cons (pe_meth (pv 3) T.cl_Flash T.me_Flash_slot_words (ok_Flash_slot_words T) (hr.mono (by omega)) T.b_Flash_slot_words .nil passN (pa_cons (pv 11) pa_nil)) pa_nil)) (pe_call (ok_plain T 5) (hr.mono (by omega)) rfl T.g_law_plain T.F_law_plain.kp T.b_law_plain .nil pass0 (pa_cons (pe_call (ok_law_joined T) (hr.mono (by omega)) rfl T.g_law_joined T.F_law_joined.kp T.b_law_joined .nil pass0 (pa_cons (pv 6) (pa_cons (pe_op op_mul pe_int (pv 11)) (pa_cons pe_int pa_nil)))) pa_nil)) (nomark _)) (pss_one (ps_ret pe_bl)) pss_nil)))
    (pss_cons (ps_for PassesOwn.never rfl (pi_range1 (by rfl) T.n_range (pa_cons pe_int pa_nil)) (pg_name (i := 11) sc_law.nd rfl (.inl rfl))
      (pss_cons (ps_if (pt_cmpR (op_neD hr.units) (pe_call (ok_plain T 5) (hr.mono (by omega)) rfl T.g_law_plain T.F_law_plain.kp T.b_law_plain .nil pass0 (pa_cons (pe_meth (pv 3) T.cl_Flash T.me_Flash_block_words (ok_Flash_block_words T) (hr.mono (by omega)) T.b_Flash_block_words .nil passN (pa_cons (pv 11) pa_nil)) pa_nil)) (pe_call (ok_plain T 5) (hr.mono (by omega)) rfl T.g_law_plain T.F_law_plain.kp T.b_law_plain .nil pass0 (pa_cons (pe_call (ok_law_joined T) (hr.mono (by omega)) rfl T.g_law_joined T.F_law_joined.kp T.b_law_joined .nil pass0 (pa_cons (pv 6) (pa_cons (pe_op op_mul pe_int (pv 11)) (pa_cons pe_int pa_nil)))) pa_nil)) (nomark _)) (pss_one (ps_ret pe_bl)) pss_nil)
    (pss_one (ps_if (pt_cmpR (op_neD hr.units) (pe_meth (pv 4) T.cl_Flash T.me_Flash_block_words (ok_Flash_block_words T) (hr.mono (by omega)) T.b_Flash_block_words .nil passN (pa_cons (pv 11) pa_nil)) (pe_op op_repT (pe_tup (pa_cons pe_int pa_nil)) pe_int) (nomark _)) (pss_one (ps_ret pe_bl)) pss_nil))))
    (pss_one (ps_ret (pe_cmpR (op_eqD hr.units) (pe_call (ok_plain T 5) (hr.mono (by omega)) rfl T.g_law_plain T.F_law_plain.kp T.b_law_plain .nil pass0 (pa_cons (pe_lc (own := [("_law_page_here", 5)]) rfl sc_law.nd (pi_range1 (by rfl) T.n_range (pa_cons pe_int pa_nil)) (blkOk_by (own := [("_law_page_here", 5)]) (N := N_law) (sc := defScope s_law) (by decide +kernel)) (fun _ _ _ _ _ => pg_name (i := 5) sc_law.nd rfl (Or.inl rfl)) (fun _ _ _ _ _ => pts_nil) (fun _ _ _ _ _ => by exact (DK.pe_ixO (pv 3) (pv 5) T.o_Flash_getitem T.fi_Flash_getitem (FnOk.raw (ok_Flash_getitem T) T.b_Flash_getitem .nil) (fun _ => passAtN) (hr.mono (by omega))))) pa_nil)) (pe_call (ok_plain T 5) (hr.mono (by omega)) rfl T.g_law_plain T.F_law_plain.kp T.b_law_plain .nil pass0 (pa_cons (pv 6) pa_nil)) (nomark _)))))))))))))), ?_⟩
    refine ⟨_, rfl, a, ns, rfl, hS, hl, fun H1 c p s1 nc np hs1 => ?_⟩
    refine ⟨_, rfl, c, p, 18, rfl, hs1, by decide, by decide, fun H2 n ln hs2 b2 => ?_⟩
    refine fun f dx nf ndx nefd => ⟨f, dx, rfl, upd_same, fun H3 l k3 nl hF3 => ⟨rfl, ?_⟩⟩
    have s3 : Same H2 H3 := keep_new nf ndx k3
    refine fun f2 dx2 nf2 ndx2 nefd2 => ⟨f2, dx2, rfl, upd_same, fun H4 l2 k4 nl2 hF4 => ⟨rfl, ?_⟩⟩
    have s4 : Same H3 H4 := keep_new nf2 ndx2 k4
    have hs4 := src_up hs2 (s3.trans s4)
    have hF34 := hF3.up s4
    have nl' : H2 l = none := by
      cases h : H2 l with
      | none => rfl
      | some o =>
        have := keep_new (H1 := upd (upd H2 dx (.own f)) f (.ins A.c_Flash dx [])) nf ndx (fun b o _ h => h) _ _ h
        rw [nl] at this
        cases this
    have nl2' : H3 l2 = none := by
      cases h : H3 l2 with
      | none => rfl
      | some o =>
        have := keep_new (H1 := upd (upd H3 dx2 (.own f2)) f2 (.ins A.c_Flash dx2 [])) nf2 ndx2 (fun b o _ h => h) _ _ h
        rw [nl2] at this
        cases this
    have hs3 := src_up hs2 s3
    have live : ∀ {G : Hp} {a b : Addr}, G a ≠ none → G b = none → a ≠ b := fun h1 h2 z => h1 (by rw [z]; exact h2)
    have srcp : ∀ {G : Hp}, Src c G p → G p ≠ none ∧ G c ≠ none := fun h => by
      obtain ⟨ys, zs, e1, e2⟩ := src_l h
      exact ⟨(fun z => by rw [e1] at z; cases z), (fun z => by rw [e2] at z; cases z)⟩
    have flp : ∀ {G : Hp} {f dx l : Addr} {ps : List (List Nat)} {q : Option Nat}, FlS K A.c_Flash G f dx l ps q → G f ≠ none ∧ G l ≠ none := fun h => by
      obtain ⟨e1, xs, e2, _⟩ := h
      exact ⟨(fun z => by rw [e1] at z; cases z), (fun z => by rw [e2] at z; cases z)⟩
    have dff : f ≠ f2 := live (flp hF3).1 nf2
    have dll : l ≠ l2 := live (flp hF3).2 nl2'
    have dlq : p ≠ l := live (srcp hs2).1 nl'
    have dlc : c ≠ l := live (srcp hs2).2 nl'
    have dl2p : p ≠ l2 := live (srcp hs3).1 nl2'
    have dl2c : c ≠ l2 := live (srcp hs3).2 nl2'
    -- the law's own pages
    refine ⟨144, rfl, by decide, by decide, fun D hD => ?_⟩
    have hN : (144 : Int).toNat = 144 := rfl
    rw [hN]
    refine lc_inv (walk_range (lo := 0) (n := 144)) (fun i x => True) (fun i acc Hx => Same H4 Hx ∧ OrdT K Hx acc ((List.range i).map fun _ => blank)) (by decide) ⟨same_new hD, rfl, fun k ws hw => by cases hw⟩ (fun _ _ _ _ => trivial) (fun _ _ _ _ _ y => ⟨y.1, trivial⟩) (fun i x acc Hx hi hacc hp hxD _ Q' q' => ?_) (fun acc Hx hacc hp hxD => ?_)
    · obtain ⟨sx, hx⟩ := hp
      refine ⟨lenOk (n := 1) rfl (by decide), fun t1 ht1 => ?_⟩
      have sa := same_new (o := .tup [V.int 65535]) ht1
      have va : upd Hx t1 (.tup [V.int 65535]) t1 = some (.tup [V.int 65535]) := upd_same
      generalize upd Hx t1 (.tup [V.int 65535]) = G1 at sa va ⊢
      refine ⟨t1, 16, _, rfl, rfl, SqT.of va, (fun z => by cases z), by decide, by decide, by decide, fun t2 nt2 => ?_⟩
      have sb := same_new (o := .tup (List.replicate (16 : Int).toNat [V.int 65535]).flatten) nt2
      have vb : upd G1 t2 (.tup (List.replicate (16 : Int).toNat [V.int 65535]).flatten) t2 = some (.tup (intV blank)) := upd_same
      generalize upd G1 t2 (.tup (List.replicate (16 : Int).toNat [V.int 65535]).flatten) = G2 at sb vb ⊢
      have sab := sa.trans sb
      refine q' _ G2 (sab _ _ hxD) ⟨same_mut (sx.trans sab) hD, ?_⟩
      rw [range_map_succ]
      exact ((hx.up sab).snoc (SqT.of vb)).putL (sab _ _ hxD)
    obtain ⟨sx, hx⟩ := hp
    rw [range_blank] at hx
    refine ⟨lenOk (n := 1) rfl (by decide), fun pw hpw => ?_⟩
    have s5 := same_new (o := .lst [V.non]) hpw
    have e5 : upd Hx pw (.lst [V.non]) pw = some (.lst [lV none]) := upd_same
    generalize upd Hx pw (.lst [V.non]) = H5 at s5 e5 ⊢
    have s45 := sx.trans s5
    have hs5 := src_up hs4 s45
    have hsx := src_up hs4 sx
    have dD : ∀ {a : Addr}, H4 a ≠ none → a ≠ D := fun h => live h hD
    have dP : ∀ {a : Addr}, Hx a ≠ none → a ≠ pw := fun h => live h hpw
    have lx : ∀ {a : Addr}, H4 a ≠ none → Hx a ≠ none := fun {a} h z => by
      cases e : H4 a with
      | none => exact h e
      | some o => rw [sx _ _ e] at z; cases z
    have hDx : Hx D ≠ none := by rw [hxD]; exact fun z => nomatch z
    have hDis : Dis ⟨c, p, f, dx, l, f2, dx2, l2, D, pw⟩ := ⟨dff, dll, dD (flp hF34).2, dP (lx (flp hF34).2), dlq.symm, dlc.symm, dD (flp hF4).2, dP (lx (flp hF4).2), dl2p.symm, dl2c.symm, dP hDx, (dD (srcp hs4).1).symm, (dD (srcp hs4).2).symm, (dP (srcp hsx).1).symm, (dP (srcp hsx).2).symm⟩
    have sit : Sit K A.c_Flash ⟨c, p, f, dx, l, f2, dx2, l2, D, pw⟩ H5 page0 none page0 none := ⟨hs5, hF34.up s45, hF4.up s45, ⟨acc, s5 _ _ hxD, hx.up s5⟩, e5⟩
    clear dP dD lx hDx live srcp flp dff dll dlq dlc dl2p dl2c hsx hs5 s45 e5 s5 hx hF34 hs4 hF4 hF3 s3 s4
    refine ⟨_, rfl, c, p, 11, rfl, sit.src, by decide, by decide, fun H6 kk lk hs6 b6 => ⟨_, _, rfl, rfl, 2 + (kk : Int), rfl, by omega, by omega, ?_⟩⟩
    have sit := sit.but hDis b6 hs6
    rw [show (2 + (kk : Int)).toNat = 2 + kk by omega]
    refine for_it (walk_range (lo := 0) (n := 2 + kk)) (fun i σ Hc => ∃ o8 o9 o10 ps r, σ = [some (.ref a), some (.ref p), some (.int (n : Int)), some (.ref f), some (.ref f2), none, some (.ref D), some (.ref pw), o8, o9, o10, none] ∧ Full ps ∧ Sit K A.c_Flash ⟨c, p, f, dx, l, f2, dx2, l2, D, pw⟩ Hc ps r ps r) ⟨_, _, _, page0, none, rfl, page0_full, sit⟩ (fun _ _ _ _ _ => trivial) (fun i x σ Hc Hd hi y e => ?_) (fun σ Hc y => ?_)
    · obtain ⟨rfl, ex⟩ := e
      obtain ⟨o8, o9, o10, ps, r, rfl, hfl, sit⟩ := y
      refine ⟨_, rfl, _, rfl, c, p, n, rfl, sit.src, fun H7 t d hs7 b7 hd => ?_⟩
      have sit := sit.but hDis b7 hs7
      refine ⟨_, rfl, _, rfl, _, rfl, D, pw, t, ps, r, d, rfl, sit.pg, sit.po, hDis.lppw, hfl.1, hd, fun H8 r8 bt8 pg8 po8 dx8 => ?_⟩
      have t8 := sit.tkL bt8
      have sit := sit.law hDis bt8 pg8 po8
      have hd := hd.tk t8
      refine ⟨_, rfl, _, rfl, f, dx, l, t, ps, r, d, rfl, sit.fl, hfl.1, hd, fun H9 r9 bt9 fl9 dx9 => ?_⟩
      have t9 := sit.tkF bt9
      have sit := sit.fla hDis bt9 fl9
      have fine := fine_run d ps r
      have hfl := hfl.run d r
      have dx8 := dx_tk t9 fine.2 dx8
      have hx := (isDeed_t (hd.tk t9)).choose_spec.2.2
      have htt := (isDeed_t (hd.tk t9)).choose_spec.1
      generalize (isDeed_t (hd.tk t9)).choose = bb at *
      generalize (runD d ps r).1 = dat at *
      generalize (runD d ps r).2.1 = ps1 at *
      generalize (runD d ps r).2.2 = r1 at *
      refine ⟨_, dat, noS, rfl, fun _ z => z.elim, dx9, Nat.le_trans fine.1.2.1 (by decide), fine.1.2.2, fun H10 v10 s10 d10 => ?_⟩
      refine ⟨_, rfl, _, dat, noS, rfl, fun _ z => z.elim, Dx.up (Out.of s10) dx8, Nat.le_trans fine.1.2.1 (by decide), fine.1.2.2, fun H11 v11 s11 d11 => ?_⟩
      have ef := eq_fin fine.1 d10 s11 d11
      refine ⟨_, _, ef.1, ef.2.1, ef.2.2.1, ef.2.2.1, ?_⟩
      rw [ef.2.2.2]
      refine ⟨_, rfl, ifF rfl ?_⟩
      have sit := sit.same (s10.trans s11)
      have htt := sqT_up htt (s10.trans s11)
      refine ⟨_, rfl, _, rfl, _, rfl, _, rfl, _, _, rfl, rfl, .inl ⟨by decide, by decide⟩, f, dx, l, D, pw, ps1, r1, .int (8 * (n : Int)), rfl, sit.fl, sit.pg, sit.po, hfl, .inr (.inr ⟨_, rfl⟩), fun H12 s12 => ?_⟩
      have sit := sit.same s12
      have htt := sqT_up htt s12
      refine ⟨_, rfl, ifF rfl ?_⟩
      refine ⟨_, rfl, _, rfl, _, rfl, _, rfl, t, _, 1, _, rfl, rfl, htt, atI_nat (j := 1) rfl, f, dx, l, D, pw, ps1, r1, _, rfl, sit.fl, sit.pg, sit.po, hfl, hx, fun H13 s13 => ?_⟩
      refine ⟨_, rfl, ifF rfl ?_⟩
      exact ⟨_, _, _, ps1, r1, rfl, hfl, sit.same s13⟩
    · obtain ⟨o8, o9, o10, ps, r, rfl, hfl, sit⟩ := y
      refine ⟨_, rfl, _, rfl, c, p, f, dx, l, ps, r, rfl, sit.src, sit.fl, hDis.lq.symm, hfl, fun H7 hs7 b7 => ?_⟩
      have sit := sit.but hDis b7 hs7
      refine ⟨_, rfl, ifF rfl ?_⟩
      refine ⟨_, rfl, f2, A.c_Flash, dx2, _, _, rfl, sit.fo.1, T.cl_Flash, T.na_Flash_left, rfl, rfl, _, rfl, ifF rfl ?_⟩
      have le16 : ∀ x ∈ ps, x.length ≤ 16 := fun x hx => Nat.le_of_eq (hfl.2 x hx)
      refine ⟨2, rfl, by decide, by decide, ?_⟩
      refine for_it (walk_range (lo := 0) (n := 2)) (fun i σ Hx => ∃ o8 o9 o10 o11, σ = [some (.ref a), some (.ref p), some (.int (n : Int)), some (.ref f), some (.ref f2), none, some (.ref D), some (.ref pw), o8, o9, o10, o11] ∧ Same H7 Hx) ⟨_, _, _, _, rfl, Same.refl _⟩ (fun _ _ _ _ _ => trivial) (fun i x σ Hx Hd hi y e => ?_) (fun σ Hx y => ?_)
      · obtain ⟨rfl, ex⟩ := e
        have ex : x = .int (i : Int) := by rw [ex]; exact congrArg V.int (by omega)
        subst ex
        obtain ⟨o8, o9, o10, o11, rfl, sx⟩ := y
        have sit := sit.same sx
        have hft := fit_ints (ws := ((ps.drop (64 * i)).take 64).flatten) (by have := hfl.cut (64 * i) 64; omega)
        refine ⟨_, rfl, f, dx, _, rfl, sit.fl.1, rfl, _, rfl, f, dx, l, _, ps, _, .int _, rfl, sit.fl.1, sit.fl.2, hfl.1, le16, .int _, fun z => ?_, fun b eb hb H8 t8 s8 ht8 => ?_⟩
        · exact absurd z (by rw [show inD (.int (i : Int)) 0 1 = true from decide_eq_true (by omega)]; decide)
        have eb : b = i := by have := V.int.inj eb; omega
        subst eb
        refine ⟨_, intsD ((ps.drop (64 * b)).take 64).flatten, noS, rfl, fun _ z => z.elim, dx_ints ht8, Nat.le_trans (dep_intsD _) (by decide), hft.2.2, fun H9 v9 s9 d9 => ?_⟩
        refine ⟨_, rfl, _, rfl, _, _, rfl, rfl, .inl ⟨by decide, by decide⟩, D, ps, 64 * b, 64, congrArg (fun z : Int => [V.ref D, V.int z, V.int 64]) (show (64 : Int) * (b : Int) = ((64 * b : Nat) : Int) by omega), sit.pg.same (s8.trans s9), by rw [hfl.1]; omega, by rw [hfl.1]; exact Nat.le_refl _, le16, fun H10 t10 s10 ht10 => ?_⟩
        refine ⟨_, intsD ((ps.drop (64 * b)).take 64).flatten, noS, rfl, fun _ z => z.elim, dx_ints ht10, Nat.le_trans (dep_intsD _) (by decide), hft.2.2, fun H11 v11 s11 d11 => ?_⟩
        have ef := eq_fin hft d9 (s10.trans s11) d11
        refine ⟨_, _, ef.1, ef.2.1, ef.2.2.1, ef.2.2.1, ?_⟩
        rw [ef.2.2.2]
        refine ⟨_, rfl, ifF rfl ?_⟩
        exact ⟨_, _, _, _, rfl, sx.trans (s8.trans (s9.trans (s10.trans s11)))⟩
      obtain ⟨o8, o9, o10, o11, rfl, sx⟩ := y
      have sit := sit.same sx
      refine ⟨18, rfl, by decide, by decide, ?_⟩
      refine for_it (walk_range (lo := 0) (n := 18)) (fun i σ Hy => ∃ o8 o9 o10 o11, σ = [some (.ref a), some (.ref p), some (.int (n : Int)), some (.ref f), some (.ref f2), none, some (.ref D), some (.ref pw), o8, o9, o10, o11] ∧ Same Hx Hy) ⟨_, _, _, _, rfl, Same.refl _⟩ (fun _ _ _ _ _ => trivial) (fun i x σ Hy Hd hi y e => ?_) (fun σ Hy y => ?_)
      · obtain ⟨rfl, ex⟩ := e
        have ex : x = .int (i : Int) := by rw [ex]; exact congrArg V.int (by omega)
        subst ex
        obtain ⟨o8, o9, o10, o11, rfl, sy⟩ := y
        have sit := sit.same sy
        have hft := fit_ints (ws := ((ps.drop (8 * i)).take 8).flatten) (by have := hfl.cut (8 * i) 8; omega)
        refine ⟨_, rfl, f, dx, _, rfl, sit.fl.1, rfl, _, rfl, f, dx, l, _, ps, _, .int _, rfl, sit.fl.1, sit.fl.2, hfl.1, le16, .int _, fun z => ?_, fun b eb hb H8 t8 s8 ht8 => ?_⟩
        · exact absurd z (by rw [show inD (.int (i : Int)) 0 17 = true from decide_eq_true (by omega)]; decide)
        have eb : b = i := by have := V.int.inj eb; omega
        subst eb
        refine ⟨_, intsD ((ps.drop (8 * b)).take 8).flatten, noS, rfl, fun _ z => z.elim, dx_ints ht8, Nat.le_trans (dep_intsD _) (by decide), hft.2.2, fun H9 v9 s9 d9 => ?_⟩
        refine ⟨_, rfl, _, rfl, _, _, rfl, rfl, .inl ⟨by decide, by decide⟩, D, ps, 8 * b, 8, congrArg (fun z : Int => [V.ref D, V.int z, V.int 8]) (show (8 : Int) * (b : Int) = ((8 * b : Nat) : Int) by omega), sit.pg.same (s8.trans s9), by rw [hfl.1]; omega, by rw [hfl.1]; exact Nat.le_refl _, le16, fun H10 t10 s10 ht10 => ?_⟩
        refine ⟨_, intsD ((ps.drop (8 * b)).take 8).flatten, noS, rfl, fun _ z => z.elim, dx_ints ht10, Nat.le_trans (dep_intsD _) (by decide), hft.2.2, fun H11 v11 s11 d11 => ?_⟩
        have ef := eq_fin hft d9 (s10.trans s11) d11
        refine ⟨_, _, ef.1, ef.2.1, ef.2.2.1, ef.2.2.1, ?_⟩
        rw [ef.2.2.2]
        refine ⟨_, rfl, ifF rfl ?_⟩
        have s811 := s8.trans (s9.trans (s10.trans s11))
        have sit := sit.same s811
        refine ⟨_, rfl, f2, dx2, _, rfl, sit.fo.1, rfl, _, rfl, f2, dx2, l2, _, page0, _, .int _, rfl, sit.fo.1, sit.fo.2, page0_full.1, fun x hx => Nat.le_of_eq (page0_full.2 x hx), .int _, fun z => ?_, fun b' eb hb' H12 t12 s12 ht12 => ?_⟩
        · exact absurd z (by rw [show inD (.int (b : Int)) 0 17 = true from decide_eq_true (by omega)]; decide)
        have eb : b' = b := by have := V.int.inj eb; omega
        subst eb
        rw [page0_cut (by omega)] at ht12
        refine ⟨lenOk (n := 1) rfl (by decide), fun t1 ht1 => ?_⟩
        have sa := same_new (o := .tup [V.int 65535]) ht1
        have va : upd H12 t1 (.tup [V.int 65535]) t1 = some (.tup [V.int 65535]) := upd_same
        generalize upd H12 t1 (.tup [V.int 65535]) = G1 at sa va ⊢
        refine ⟨t1, 128, _, rfl, rfl, SqT.of va, (fun z => by cases z), by decide, by decide, by decide, fun t2 nt2 => ?_⟩
        have sb := same_new (o := .tup (List.replicate (128 : Int).toNat [V.int 65535]).flatten) nt2
        have vb : upd G1 t2 (.tup (List.replicate (128 : Int).toNat [V.int 65535]).flatten) t2 = some (.tup (intV (List.replicate 128 65535))) := upd_same
        generalize upd G1 t2 (.tup (List.replicate (128 : Int).toNat [V.int 65535]).flatten) = G2 at sb vb ⊢
        refine ⟨_, _, dp_ints (sqT_up ht12 (sa.trans sb)), dp_ints (SqT.of vb), ints_shaped _, ints_shaped _, ?_⟩
        rw [eqv_ints, decide_eq_true rfl]
        refine ⟨_, rfl, ifF rfl ?_⟩
        exact ⟨_, _, _, _, rfl, sy.trans (s811.trans (s12.trans (sa.trans sb)))⟩
      obtain ⟨o8, o9, o10, o11, rfl, sy⟩ := y
      have sit := sit.same sy
      refine ⟨144, rfl, by decide, by decide, fun D3 hD3 => ?_⟩
      rw [hN]
      refine lc_inv (walk_range (lo := 0) (n := 144)) (fun i x => x = .int (0 + (i : Int))) (fun i acc Hz => Same Hy Hz ∧ OrdT K Hz acc ((List.range i).map fun i => ps.getD i [])) (by decide) ⟨same_new hD3, rfl, fun k ws hw => by cases hw⟩ (fun _ _ _ _ => trivial) (fun _ _ _ _ _ y => y) (fun i x acc Hz hi hacc hp hzD ex Q' q' => ?_) (fun acc Hz hacc hp hzD => ?_)
      · have ex : x = .int (i : Int) := by rw [ex]; exact congrArg V.int (by omega)
        subst ex
        obtain ⟨sz, hz⟩ := hp
        have flz := sit.fl.up sz
        refine ⟨_, rfl, _, rfl, f, dx, _, rfl, flz.1, f, dx, l, _, ps, _, .int _, rfl, flz.1, flz.2, hfl.1, .int _, fun z => ?_, fun b eb hb t ht => ?_⟩
        · exact absurd z (by rw [show inD (.int (i : Int)) 0 143 = true from decide_eq_true (by omega)]; decide)
        have eb : b = i := by have := V.int.inj eb; omega
        subst eb
        refine q' _ Hz hzD ⟨same_mut sz hD3, ?_⟩
        rw [range_map_succ]
        exact (hz.snoc ht).putL hzD
      obtain ⟨sz, hz⟩ := hp
      rw [hfl.getD] at hz
      have sit := sit.same sz
      have hft := fit_pages hfl
      refine ⟨_, .list (ps.map intsD), noS, rfl, fun _ z => z.elim, .lst (XL.of hzD fun z => z.elim) (ordT_dx hz), Nat.le_trans hft.2.1 (by decide), hft.2.2, fun H8 v8 s8 d8 => ?_⟩
      obtain ⟨xs, exs, hxs⟩ := (sit.same s8).pg
      refine ⟨_, rfl, _, .list (ps.map intsD), noS, rfl, fun _ z => z.elim, .lst (XL.of exs fun z => z.elim) (ordT_dx hxs), Nat.le_trans hft.2.1 (by decide), hft.2.2, fun H9 v9 s9 d9 => ?_⟩
      have ef := eq_fin hft d8 s9 d9
      refine ⟨_, _, ef.1, ef.2.1, ef.2.2.1, ef.2.2.1, ?_⟩
      rw [ef.2.2.2]
      exact q _
end
/-! ### what the top has left; the end -/
theorem all_mk {l : PySem.W.OpenLaw} {w : World} {K : PySem.W.Frag} {h : Heap} {mg : Str → Option Value} {fa f1 f2 f3 f4 f5 f6 f7 f8 f9 f10 f11 f12 f13 f14 f15 f16 f17 f18 f19 f20 f21 f22 f23 f24 f25 f26 f27 f28 f29 f30 f31 f32 f33 f34 f35 f36 f37 f38 f39 f40 f41 f42 f43 f44 f45 C_TooLong C_NoPage C_Written C_NoBlock C_NoSlot C_BadPower C_PowerLost C_RomError C_Flash C_Power t_BLANK_PAGE : Addr} (X : K.In h) (G : h.Ns mainGlobals mg) (hfa : mg "law" = some (.ref fa))
    {t_BLANK t_PAGES t_PAGE_WORDS t_BLOCKS t_BLOCK_PAGES t_SLOT_PAGES : Tok}
    {od1 an1 od2 an2 od3 an3 od4 an4 od5 an5 od6 an6 od7 an7 od8 an8 od9 an9 od10 an10 od11 an11 od12 an12 od13 an13 od14 an14 od15 an15 od16 an16 od17 an17 od18 an18 od19 an19 od20 an20 od21 an21 od22 an22 od23 an23 od24 an24 od25 an25 od26 an26 od27 an27 od28 an28 od29 an29 od30 an30 od31 an31 od32 an32 od33 an33 od34 an34 od35 an35 od36 an36 od37 an37 od38 an38 od39 an39 od40 an40 od41 an41 od42 an42 od43 an43 od44 an44 od45 an45 : Option Addr} {sl1 sl2 sl3 sl4 sl5 sl6 sl7 sl8 sl9 sl10 sl11 sl12 sl13 sl14 sl15 sl16 sl17 sl18 sl19 sl20 sl21 sl22 sl23 sl24 sl25 sl26 sl27 sl28 sl29 sl30 sl31 sl32 sl33 sl34 sl35 sl36 sl37 sl38 sl39 sl40 sl41 sl42 sl43 sl44 sl45 sl_BLANK_PAGE : Array (Option Value)} {oc1 kV1 dc1 pm1 cd1 ct1 oc2 kV2 dc2 pm2 cd2 ct2 oc3 kV3 dc3 pm3 cd3 ct3 oc4 kV4 dc4 pm4 cd4 ct4 oc5 kV5 dc5 pm5 cd5 ct5 oc6 kV6 dc6 pm6 cd6 ct6 oc7 kV7 dc7 pm7 cd7 ct7 oc8 kV8 dc8 pm8 cd8 ct8 oc9 kV9 dc9 pm9 cd9 ct9 oc10 kV10 dc10 pm10 cd10 ct10 oc11 kV11 dc11 pm11 cd11 ct11 oc12 kV12 dc12 pm12 cd12 ct12 oc13 kV13 dc13 pm13 cd13 ct13 oc14 kV14 dc14 pm14 cd14 ct14 oc15 kV15 dc15 pm15 cd15 ct15 oc16 kV16 dc16 pm16 cd16 ct16 oc17 kV17 dc17 pm17 cd17 ct17 oc18 kV18 dc18 pm18 cd18 ct18 oc19 kV19 dc19 pm19 cd19 ct19 oc20 kV20 dc20 pm20 cd20 ct20 oc21 kV21 dc21 pm21 cd21 ct21 oc22 kV22 dc22 pm22 cd22 ct22 oc23 kV23 dc23 pm23 cd23 ct23 oc24 kV24 dc24 pm24 cd24 ct24 oc25 kV25 dc25 pm25 cd25 ct25 oc26 kV26 dc26 pm26 cd26 ct26 oc27 kV27 dc27 pm27 cd27 ct27 oc28 kV28 dc28 pm28 cd28 ct28 oc29 kV29 dc29 pm29 cd29 ct29 oc30 kV30 dc30 pm30 cd30 ct30 oc31 kV31 dc31 pm31 cd31 ct31 oc32 kV32 dc32 pm32 cd32 ct32 oc33 kV33 dc33 pm33 cd33 ct33 oc34 kV34 dc34 pm34 cd34 ct34 oc35 kV35 dc35 pm35 cd35 ct35 oc36 kV36 dc36 pm36 cd36 ct36 oc37 kV37 dc37 pm37 cd37 ct37 oc38 kV38 dc38 pm38 cd38 ct38 oc39 kV39 dc39 pm39 cd39 ct39 oc40 kV40 dc40 pm40 cd40 ct40 oc41 kV41 dc41 pm41 cd41 ct41 oc42 kV42 dc42 pm42 cd42 ct42 oc43 kV43 dc43 pm43 cd43 ct43 oc44 kV44 dc44 pm44 cd44 ct44 oc45 kV45 dc45 pm45 cd45 ct45 : Value}
    {nm_TooLong qq_TooLong : Str} {N_TooLong : Addr} {bs_TooLong bm_TooLong : List Value} {sn_TooLong : List Str} {sub_TooLong : List Value} {ab_TooLong : Bool} {col_TooLong : Option Bool} {dd_TooLong : Option Addr} {m0_TooLong m1_TooLong m2_TooLong m3_TooLong m5_TooLong : Option Value}
    {nm_NoPage qq_NoPage : Str} {N_NoPage : Addr} {bs_NoPage bm_NoPage : List Value} {sn_NoPage : List Str} {sub_NoPage : List Value} {ab_NoPage : Bool} {col_NoPage : Option Bool} {dd_NoPage : Option Addr} {m0_NoPage m1_NoPage m2_NoPage m3_NoPage m5_NoPage : Option Value}
    {nm_Written qq_Written : Str} {N_Written : Addr} {bs_Written bm_Written : List Value} {sn_Written : List Str} {sub_Written : List Value} {ab_Written : Bool} {col_Written : Option Bool} {dd_Written : Option Addr} {m0_Written m1_Written m2_Written m3_Written m5_Written : Option Value}
    {nm_NoBlock qq_NoBlock : Str} {N_NoBlock : Addr} {bs_NoBlock bm_NoBlock : List Value} {sn_NoBlock : List Str} {sub_NoBlock : List Value} {ab_NoBlock : Bool} {col_NoBlock : Option Bool} {dd_NoBlock : Option Addr} {m0_NoBlock m1_NoBlock m2_NoBlock m3_NoBlock m5_NoBlock : Option Value}
    {nm_NoSlot qq_NoSlot : Str} {N_NoSlot : Addr} {bs_NoSlot bm_NoSlot : List Value} {sn_NoSlot : List Str} {sub_NoSlot : List Value} {ab_NoSlot : Bool} {col_NoSlot : Option Bool} {dd_NoSlot : Option Addr} {m0_NoSlot m1_NoSlot m2_NoSlot m3_NoSlot m5_NoSlot : Option Value}
    {nm_BadPower qq_BadPower : Str} {N_BadPower : Addr} {bs_BadPower bm_BadPower : List Value} {sn_BadPower : List Str} {sub_BadPower : List Value} {ab_BadPower : Bool} {col_BadPower : Option Bool} {dd_BadPower : Option Addr} {m0_BadPower m1_BadPower m2_BadPower m3_BadPower m5_BadPower : Option Value}
    {nm_PowerLost qq_PowerLost : Str} {N_PowerLost : Addr} {bs_PowerLost bm_PowerLost : List Value} {sn_PowerLost : List Str} {sub_PowerLost : List Value} {ab_PowerLost : Bool} {col_PowerLost : Option Bool} {dd_PowerLost : Option Addr} {m0_PowerLost m1_PowerLost m2_PowerLost m3_PowerLost m5_PowerLost : Option Value}
    {its_BLANK_PAGE : Array Value} {n_BLANK_PAGE : Nat}
    (a1 : PySem.W.nsIn K mainGlobals "is_between" = some (some (.ref f1)))
    (l1 : K.lookup f1 = some ⟨oc1, od1, .func (PySem.W.fnOf "is_between" "is_between" (defArgs s_is_between) (defBody s_is_between) (defScope s_is_between) .none kV1 dc1 pm1 an1 cd1 ct1), sl1⟩)
    (c1 : PySem.W.codeIn K cd1 "is_between" = true)
    (k1 : PySem.W.keepIn K (.ref f1) = true)
    (a2 : PySem.W.nsIn K mainGlobals "check_page" = some (some (.ref f2)))
    (l2 : K.lookup f2 = some ⟨oc2, od2, .func (PySem.W.fnOf "check_page" "check_page" (defArgs s_check_page) (defBody s_check_page) (defScope s_check_page) .none kV2 dc2 pm2 an2 cd2 ct2), sl2⟩)
    (c2 : PySem.W.codeIn K cd2 "check_page" = true)
    (k2 : PySem.W.keepIn K (.ref f2) = true)
    (a3 : PySem.W.nsIn K mainGlobals "check_block" = some (some (.ref f3)))
    (l3 : K.lookup f3 = some ⟨oc3, od3, .func (PySem.W.fnOf "check_block" "check_block" (defArgs s_check_block) (defBody s_check_block) (defScope s_check_block) .none kV3 dc3 pm3 an3 cd3 ct3), sl3⟩)
    (c3 : PySem.W.codeIn K cd3 "check_block" = true)
    (k3 : PySem.W.keepIn K (.ref f3) = true)
    (a4 : PySem.W.nsIn K mainGlobals "check_power" = some (some (.ref f4)))
    (l4 : K.lookup f4 = some ⟨oc4, od4, .func (PySem.W.fnOf "check_power" "check_power" (defArgs s_check_power) (defBody s_check_power) (defScope s_check_power) .none kV4 dc4 pm4 an4 cd4 ct4), sl4⟩)
    (c4 : PySem.W.codeIn K cd4 "check_power" = true)
    (k4 : PySem.W.keepIn K (.ref f4) = true)
    (a5 : PySem.W.nsIn K mainGlobals "use_power" = some (some (.ref f5)))
    (l5 : K.lookup f5 = some ⟨oc5, od5, .func (PySem.W.fnOf "use_power" "use_power" (defArgs s_use_power) (defBody s_use_power) (defScope s_use_power) .none kV5 dc5 pm5 an5 cd5 ct5), sl5⟩)
    (c5 : PySem.W.codeIn K cd5 "use_power" = true)
    (k5 : PySem.W.keepIn K (.ref f5) = true)
    (a6 : PySem.W.nsIn K mainGlobals "limit_power" = some (some (.ref f6)))
    (l6 : K.lookup f6 = some ⟨oc6, od6, .func (PySem.W.fnOf "limit_power" "limit_power" (defArgs s_limit_power) (defBody s_limit_power) (defScope s_limit_power) .none kV6 dc6 pm6 an6 cd6 ct6), sl6⟩)
    (c6 : PySem.W.codeIn K cd6 "limit_power" = true)
    (k6 : PySem.W.keepIn K (.ref f6) = true)
    (a7 : PySem.W.nsIn K mainGlobals "write_page" = some (some (.ref f7)))
    (l7 : K.lookup f7 = some ⟨oc7, od7, .func (PySem.W.fnOf "write_page" "write_page" (defArgs s_write_page) (defBody s_write_page) (defScope s_write_page) .none kV7 dc7 pm7 an7 cd7 ct7), sl7⟩)
    (c7 : PySem.W.codeIn K cd7 "write_page" = true)
    (k7 : PySem.W.keepIn K (.ref f7) = true)
    (a8 : PySem.W.nsIn K mainGlobals "words_of_pages" = some (some (.ref f8)))
    (l8 : K.lookup f8 = some ⟨oc8, od8, .func (PySem.W.fnOf "words_of_pages" "words_of_pages" (defArgs s_words_of_pages) (defBody s_words_of_pages) (defScope s_words_of_pages) .none kV8 dc8 pm8 an8 cd8 ct8), sl8⟩)
    (c8 : PySem.W.codeIn K cd8 "words_of_pages" = true)
    (k8 : PySem.W.keepIn K (.ref f8) = true)
    (a9 : PySem.W.nsIn K mainGlobals "rows_for_pages" = some (some (.ref f9)))
    (l9 : K.lookup f9 = some ⟨oc9, od9, .func (PySem.W.fnOf "rows_for_pages" "rows_for_pages" (defArgs s_rows_for_pages) (defBody s_rows_for_pages) (defScope s_rows_for_pages) .none kV9 dc9 pm9 an9 cd9 ct9), sl9⟩)
    (c9 : PySem.W.codeIn K cd9 "rows_for_pages" = true)
    (k9 : PySem.W.keepIn K (.ref f9) = true)
    (a10 : PySem.W.nsIn K mainGlobals "_law_source" = some (some (.ref f10)))
    (l10 : K.lookup f10 = some ⟨oc10, od10, .func (PySem.W.fnOf "_law_source" "_law_source" (defArgs s_law_source) (defBody s_law_source) (defScope s_law_source) .none kV10 dc10 pm10 an10 cd10 ct10), sl10⟩)
    (c10 : PySem.W.codeIn K cd10 "_law_source" = true)
    (k10 : PySem.W.keepIn K (.ref f10) = true)
    (a11 : PySem.W.nsIn K mainGlobals "_law_draw" = some (some (.ref f11)))
    (l11 : K.lookup f11 = some ⟨oc11, od11, .func (PySem.W.fnOf "_law_draw" "_law_draw" (defArgs s_law_draw) (defBody s_law_draw) (defScope s_law_draw) .none kV11 dc11 pm11 an11 cd11 ct11), sl11⟩)
    (c11 : PySem.W.codeIn K cd11 "_law_draw" = true)
    (k11 : PySem.W.keepIn K (.ref f11) = true)
    (a12 : PySem.W.nsIn K mainGlobals "_law_word" = some (some (.ref f12)))
    (l12 : K.lookup f12 = some ⟨oc12, od12, .func (PySem.W.fnOf "_law_word" "_law_word" (defArgs s_law_word) (defBody s_law_word) (defScope s_law_word) .none kV12 dc12 pm12 an12 cd12 ct12), sl12⟩)
    (c12 : PySem.W.codeIn K cd12 "_law_word" = true)
    (k12 : PySem.W.keepIn K (.ref f12) = true)
    (a13 : PySem.W.nsIn K mainGlobals "_law_plain" = some (some (.ref f13)))
    (l13 : K.lookup f13 = some ⟨oc13, od13, .func (PySem.W.fnOf "_law_plain" "_law_plain" (defArgs s_law_plain) (defBody s_law_plain) (defScope s_law_plain) .none kV13 dc13 pm13 an13 cd13 ct13), sl13⟩)
    (c13 : PySem.W.codeIn K cd13 "_law_plain" = true)
    (k13 : PySem.W.keepIn K (.ref f13) = true)
    (a14 : PySem.W.nsIn K mainGlobals "_law_spend" = some (some (.ref f14)))
    (l14 : K.lookup f14 = some ⟨oc14, od14, .func (PySem.W.fnOf "_law_spend" "_law_spend" (defArgs s_law_spend) (defBody s_law_spend) (defScope s_law_spend) .none kV14 dc14 pm14 an14 cd14 ct14), sl14⟩)
    (c14 : PySem.W.codeIn K cd14 "_law_spend" = true)
    (k14 : PySem.W.keepIn K (.ref f14) = true)
    (a15 : PySem.W.nsIn K mainGlobals "_law_erase" = some (some (.ref f15)))
    (l15 : K.lookup f15 = some ⟨oc15, od15, .func (PySem.W.fnOf "_law_erase" "_law_erase" (defArgs s_law_erase) (defBody s_law_erase) (defScope s_law_erase) .none kV15 dc15 pm15 an15 cd15 ct15), sl15⟩)
    (c15 : PySem.W.codeIn K cd15 "_law_erase" = true)
    (k15 : PySem.W.keepIn K (.ref f15) = true)
    (a16 : PySem.W.nsIn K mainGlobals "_law_write" = some (some (.ref f16)))
    (l16 : K.lookup f16 = some ⟨oc16, od16, .func (PySem.W.fnOf "_law_write" "_law_write" (defArgs s_law_write) (defBody s_law_write) (defScope s_law_write) .none kV16 dc16 pm16 an16 cd16 ct16), sl16⟩)
    (c16 : PySem.W.codeIn K cd16 "_law_write" = true)
    (k16 : PySem.W.keepIn K (.ref f16) = true)
    (a17 : PySem.W.nsIn K mainGlobals "_law_rows" = some (some (.ref f17)))
    (l17 : K.lookup f17 = some ⟨oc17, od17, .func (PySem.W.fnOf "_law_rows" "_law_rows" (defArgs s_law_rows) (defBody s_law_rows) (defScope s_law_rows) .none kV17 dc17 pm17 an17 cd17 ct17), sl17⟩)
    (c17 : PySem.W.codeIn K cd17 "_law_rows" = true)
    (k17 : PySem.W.keepIn K (.ref f17) = true)
    (a18 : PySem.W.nsIn K mainGlobals "_law_fill" = some (some (.ref f18)))
    (l18 : K.lookup f18 = some ⟨oc18, od18, .func (PySem.W.fnOf "_law_fill" "_law_fill" (defArgs s_law_fill) (defBody s_law_fill) (defScope s_law_fill) .none kV18 dc18 pm18 an18 cd18 ct18), sl18⟩)
    (c18 : PySem.W.codeIn K cd18 "_law_fill" = true)
    (k18 : PySem.W.keepIn K (.ref f18) = true)
    (a19 : PySem.W.nsIn K mainGlobals "_law_is_below" = some (some (.ref f19)))
    (l19 : K.lookup f19 = some ⟨oc19, od19, .func (PySem.W.fnOf "_law_is_below" "_law_is_below" (defArgs s_law_is_below) (defBody s_law_is_below) (defScope s_law_is_below) .none kV19 dc19 pm19 an19 cd19 ct19), sl19⟩)
    (c19 : PySem.W.codeIn K cd19 "_law_is_below" = true)
    (k19 : PySem.W.keepIn K (.ref f19) = true)
    (a20 : PySem.W.nsIn K mainGlobals "_law_block" = some (some (.ref f20)))
    (l20 : K.lookup f20 = some ⟨oc20, od20, .func (PySem.W.fnOf "_law_block" "_law_block" (defArgs s_law_block) (defBody s_law_block) (defScope s_law_block) .none kV20 dc20 pm20 an20 cd20 ct20), sl20⟩)
    (c20 : PySem.W.codeIn K cd20 "_law_block" = true)
    (k20 : PySem.W.keepIn K (.ref f20) = true)
    (a21 : PySem.W.nsIn K mainGlobals "_law_page" = some (some (.ref f21)))
    (l21 : K.lookup f21 = some ⟨oc21, od21, .func (PySem.W.fnOf "_law_page" "_law_page" (defArgs s_law_page) (defBody s_law_page) (defScope s_law_page) .none kV21 dc21 pm21 an21 cd21 ct21), sl21⟩)
    (c21 : PySem.W.codeIn K cd21 "_law_page" = true)
    (k21 : PySem.W.keepIn K (.ref f21) = true)
    (a22 : PySem.W.nsIn K mainGlobals "_law_words" = some (some (.ref f22)))
    (l22 : K.lookup f22 = some ⟨oc22, od22, .func (PySem.W.fnOf "_law_words" "_law_words" (defArgs s_law_words) (defBody s_law_words) (defScope s_law_words) .none kV22 dc22 pm22 an22 cd22 ct22), sl22⟩)
    (c22 : PySem.W.codeIn K cd22 "_law_words" = true)
    (k22 : PySem.W.keepIn K (.ref f22) = true)
    (a23 : PySem.W.nsIn K mainGlobals "_law_deed" = some (some (.ref f23)))
    (l23 : K.lookup f23 = some ⟨oc23, od23, .func (PySem.W.fnOf "_law_deed" "_law_deed" (defArgs s_law_deed) (defBody s_law_deed) (defScope s_law_deed) .none kV23 dc23 pm23 an23 cd23 ct23), sl23⟩)
    (c23 : PySem.W.codeIn K cd23 "_law_deed" = true)
    (k23 : PySem.W.keepIn K (.ref f23) = true)
    (a24 : PySem.W.nsIn K mainGlobals "_law_done" = some (some (.ref f24)))
    (l24 : K.lookup f24 = some ⟨oc24, od24, .func (PySem.W.fnOf "_law_done" "_law_done" (defArgs s_law_done) (defBody s_law_done) (defScope s_law_done) .none kV24 dc24 pm24 an24 cd24 ct24), sl24⟩)
    (c24 : PySem.W.codeIn K cd24 "_law_done" = true)
    (k24 : PySem.W.keepIn K (.ref f24) = true)
    (a25 : PySem.W.nsIn K mainGlobals "_law_expected" = some (some (.ref f25)))
    (l25 : K.lookup f25 = some ⟨oc25, od25, .func (PySem.W.fnOf "_law_expected" "_law_expected" (defArgs s_law_expected) (defBody s_law_expected) (defScope s_law_expected) .none kV25 dc25 pm25 an25 cd25 ct25), sl25⟩)
    (c25 : PySem.W.codeIn K cd25 "_law_expected" = true)
    (k25 : PySem.W.keepIn K (.ref f25) = true)
    (a26 : PySem.W.nsIn K mainGlobals "_law_near" = some (some (.ref f26)))
    (l26 : K.lookup f26 = some ⟨oc26, od26, .func (PySem.W.fnOf "_law_near" "_law_near" (defArgs s_law_near) (defBody s_law_near) (defScope s_law_near) .none kV26 dc26 pm26 an26 cd26 ct26), sl26⟩)
    (c26 : PySem.W.codeIn K cd26 "_law_near" = true)
    (k26 : PySem.W.keepIn K (.ref f26) = true)
    (a27 : PySem.W.nsIn K mainGlobals "_law_read" = some (some (.ref f27)))
    (l27 : K.lookup f27 = some ⟨oc27, od27, .func (PySem.W.fnOf "_law_read" "_law_read" (defArgs s_law_read) (defBody s_law_read) (defScope s_law_read) .none kV27 dc27 pm27 an27 cd27 ct27), sl27⟩)
    (c27 : PySem.W.codeIn K cd27 "_law_read" = true)
    (k27 : PySem.W.keepIn K (.ref f27) = true)
    (a28 : PySem.W.nsIn K mainGlobals "_law_joined" = some (some (.ref f28)))
    (l28 : K.lookup f28 = some ⟨oc28, od28, .func (PySem.W.fnOf "_law_joined" "_law_joined" (defArgs s_law_joined) (defBody s_law_joined) (defScope s_law_joined) .none kV28 dc28 pm28 an28 cd28 ct28), sl28⟩)
    (c28 : PySem.W.codeIn K cd28 "_law_joined" = true)
    (k28 : PySem.W.keepIn K (.ref f28) = true)
    (a29 : PySem.W.nsIn K mainGlobals "_law_refuses" = some (some (.ref f29)))
    (l29 : K.lookup f29 = some ⟨oc29, od29, .func (PySem.W.fnOf "_law_refuses" "_law_refuses" (defArgs s_law_refuses) (defBody s_law_refuses) (defScope s_law_refuses) .none kV29 dc29 pm29 an29 cd29 ct29), sl29⟩)
    (c29 : PySem.W.codeIn K cd29 "_law_refuses" = true)
    (k29 : PySem.W.keepIn K (.ref f29) = true)
    (a30 : PySem.W.nsIn K mainGlobals "law" = some (some (.ref f30)))
    (l30 : K.lookup f30 = some ⟨oc30, od30, .func (PySem.W.fnOf "law" "law" (defArgs s_law) (defBody s_law) (defScope s_law) .none kV30 dc30 pm30 an30 cd30 ct30), sl30⟩)
    (c30 : PySem.W.codeIn K cd30 "law" = true)
    (k30 : PySem.W.keepIn K (.ref f30) = true)
    (l31 : K.lookup f31 = some ⟨oc31, od31, .func (PySem.W.fnOf "__init__" "TooLong.__init__" (defArgs s_TooLong_init) (defBody s_TooLong_init) (defScope s_TooLong_init) .none kV31 dc31 pm31 an31 cd31 ct31), sl31⟩)
    (c31 : PySem.W.codeIn K cd31 "TooLong.__init__" = true)
    (k31 : PySem.W.keepIn K (.ref f31) = true)
    (l32 : K.lookup f32 = some ⟨oc32, od32, .func (PySem.W.fnOf "__init__" "NoPage.__init__" (defArgs s_NoPage_init) (defBody s_NoPage_init) (defScope s_NoPage_init) .none kV32 dc32 pm32 an32 cd32 ct32), sl32⟩)
    (c32 : PySem.W.codeIn K cd32 "NoPage.__init__" = true)
    (k32 : PySem.W.keepIn K (.ref f32) = true)
    (l33 : K.lookup f33 = some ⟨oc33, od33, .func (PySem.W.fnOf "__init__" "Written.__init__" (defArgs s_Written_init) (defBody s_Written_init) (defScope s_Written_init) .none kV33 dc33 pm33 an33 cd33 ct33), sl33⟩)
    (c33 : PySem.W.codeIn K cd33 "Written.__init__" = true)
    (k33 : PySem.W.keepIn K (.ref f33) = true)
    (l34 : K.lookup f34 = some ⟨oc34, od34, .func (PySem.W.fnOf "__init__" "NoBlock.__init__" (defArgs s_NoBlock_init) (defBody s_NoBlock_init) (defScope s_NoBlock_init) .none kV34 dc34 pm34 an34 cd34 ct34), sl34⟩)
    (c34 : PySem.W.codeIn K cd34 "NoBlock.__init__" = true)
    (k34 : PySem.W.keepIn K (.ref f34) = true)
    (l35 : K.lookup f35 = some ⟨oc35, od35, .func (PySem.W.fnOf "__init__" "NoSlot.__init__" (defArgs s_NoSlot_init) (defBody s_NoSlot_init) (defScope s_NoSlot_init) .none kV35 dc35 pm35 an35 cd35 ct35), sl35⟩)
    (c35 : PySem.W.codeIn K cd35 "NoSlot.__init__" = true)
    (k35 : PySem.W.keepIn K (.ref f35) = true)
    (l36 : K.lookup f36 = some ⟨oc36, od36, .func (PySem.W.fnOf "__init__" "BadPower.__init__" (defArgs s_BadPower_init) (defBody s_BadPower_init) (defScope s_BadPower_init) .none kV36 dc36 pm36 an36 cd36 ct36), sl36⟩)
    (c36 : PySem.W.codeIn K cd36 "BadPower.__init__" = true)
    (k36 : PySem.W.keepIn K (.ref f36) = true)
    (l37 : K.lookup f37 = some ⟨oc37, od37, .func (PySem.W.fnOf "__init__" "PowerLost.__init__" (defArgs s_PowerLost_init) (defBody s_PowerLost_init) (defScope s_PowerLost_init) .none kV37 dc37 pm37 an37 cd37 ct37), sl37⟩)
    (c37 : PySem.W.codeIn K cd37 "PowerLost.__init__" = true)
    (k37 : PySem.W.keepIn K (.ref f37) = true)
    (l38 : K.lookup f38 = some ⟨oc38, od38, .func (PySem.W.fnOf "__init__" "Flash.__init__" (defArgs s_Flash_init) (defBody s_Flash_init) (defScope s_Flash_init) .none kV38 dc38 pm38 an38 cd38 ct38), sl38⟩)
    (c38 : PySem.W.codeIn K cd38 "Flash.__init__" = true)
    (k38 : PySem.W.keepIn K (.ref f38) = true)
    (l39 : K.lookup f39 = some ⟨oc39, od39, .func (PySem.W.fnOf "__getitem__" "Flash.__getitem__" (defArgs s_Flash_getitem) (defBody s_Flash_getitem) (defScope s_Flash_getitem) .none kV39 dc39 pm39 an39 cd39 ct39), sl39⟩)
    (c39 : PySem.W.codeIn K cd39 "Flash.__getitem__" = true)
    (k39 : PySem.W.keepIn K (.ref f39) = true)
    (l40 : K.lookup f40 = some ⟨oc40, od40, .func (PySem.W.fnOf "__setitem__" "Flash.__setitem__" (defArgs s_Flash_setitem) (defBody s_Flash_setitem) (defScope s_Flash_setitem) .none kV40 dc40 pm40 an40 cd40 ct40), sl40⟩)
    (c40 : PySem.W.codeIn K cd40 "Flash.__setitem__" = true)
    (k40 : PySem.W.keepIn K (.ref f40) = true)
    (l41 : K.lookup f41 = some ⟨oc41, od41, .func (PySem.W.fnOf "erase" "Flash.erase" (defArgs s_Flash_erase) (defBody s_Flash_erase) (defScope s_Flash_erase) .none kV41 dc41 pm41 an41 cd41 ct41), sl41⟩)
    (c41 : PySem.W.codeIn K cd41 "Flash.erase" = true)
    (k41 : PySem.W.keepIn K (.ref f41) = true)
    (l42 : K.lookup f42 = some ⟨oc42, od42, .func (PySem.W.fnOf "slot_words" "Flash.slot_words" (defArgs s_Flash_slot_words) (defBody s_Flash_slot_words) (defScope s_Flash_slot_words) .none kV42 dc42 pm42 an42 cd42 ct42), sl42⟩)
    (c42 : PySem.W.codeIn K cd42 "Flash.slot_words" = true)
    (k42 : PySem.W.keepIn K (.ref f42) = true)
    (l43 : K.lookup f43 = some ⟨oc43, od43, .func (PySem.W.fnOf "block_words" "Flash.block_words" (defArgs s_Flash_block_words) (defBody s_Flash_block_words) (defScope s_Flash_block_words) .none kV43 dc43 pm43 an43 cd43 ct43), sl43⟩)
    (c43 : PySem.W.codeIn K cd43 "Flash.block_words" = true)
    (k43 : PySem.W.keepIn K (.ref f43) = true)
    (l44 : K.lookup f44 = some ⟨oc44, od44, .func (PySem.W.fnOf "put_in" "Flash.put_in" (defArgs s_Flash_put_in) (defBody s_Flash_put_in) (defScope s_Flash_put_in) .none kV44 dc44 pm44 an44 cd44 ct44), sl44⟩)
    (c44 : PySem.W.codeIn K cd44 "Flash.put_in" = true)
    (k44 : PySem.W.keepIn K (.ref f44) = true)
    (l45 : K.lookup f45 = some ⟨oc45, od45, .func (PySem.W.fnOf "__init__" "Power.__init__" (defArgs s_Power_init) (defBody s_Power_init) (defScope s_Power_init) .none kV45 dc45 pm45 an45 cd45 ct45), sl45⟩)
    (c45 : PySem.W.codeIn K cd45 "Power.__init__" = true)
    (k45 : PySem.W.keepIn K (.ref f45) = true)
    (gc_TooLong : PySem.W.nsIn K mainGlobals "TooLong" = some (some (.ref C_TooLong)))
    (xl_TooLong : K.lookup C_TooLong = some (excClassObj nm_TooLong qq_TooLong C_TooLong N_TooLong bs_TooLong bm_TooLong true sn_TooLong sub_TooLong ab_TooLong col_TooLong dd_TooLong m0_TooLong m1_TooLong m2_TooLong m3_TooLong m5_TooLong "ValueError.__new__"))
    (vb_TooLong : PySem.HandSPX.refsVE bm_TooLong = true)
    (sa_TooLong : PySem.W.findIn K (.ref C_TooLong) "__setattr__" = some (some (.builtin "object.__setattr__")))
    (ec_TooLong : PySem.W.subIn K (.ref C_TooLong) (.type "BaseException") = some true)
    (tc_TooLong : PySem.W.typeIn K (.ref C_TooLong) = some (.type "type"))
    (kc_TooLong : PySem.W.keepIn K (.ref C_TooLong) = true)
    (no_TooLong : PySem.W.findIn K (.ref C_TooLong) "length" = some none)
    (ic_TooLong : PySem.W.findIn K (.ref C_TooLong) "__init__" = some (some (.ref f31)))
    (ti_TooLong : PySem.W.typeIn K (.ref f31) = some (.type "function"))
    (ga_TooLong : PySem.W.findIn K (.ref C_TooLong) "__getattribute__" = some (some (.builtin "BaseException.__getattribute__")))
    (gg_TooLong : PySem.W.findIn K (.ref C_TooLong) "__getattr__" = some none)
    (hd_TooLong : PySem.W.hasDictIn K C_TooLong = true)
    (ha_TooLong : PySem.W.findIn K (.ref C_TooLong) "__class__" = some (some (.builtin "object.__class__")))
    (hm_TooLong : PySem.W.mroIn K C_TooLong (.type "object") = some true)
    (ss_TooLong : PySem.W.subIn K (.ref C_TooLong) (.ref C_TooLong) = some true)
    (gc_NoPage : PySem.W.nsIn K mainGlobals "NoPage" = some (some (.ref C_NoPage)))
    (xl_NoPage : K.lookup C_NoPage = some (excClassObj nm_NoPage qq_NoPage C_NoPage N_NoPage bs_NoPage bm_NoPage true sn_NoPage sub_NoPage ab_NoPage col_NoPage dd_NoPage m0_NoPage m1_NoPage m2_NoPage m3_NoPage m5_NoPage "ValueError.__new__"))
    (vb_NoPage : PySem.HandSPX.refsVE bm_NoPage = true)
    (sa_NoPage : PySem.W.findIn K (.ref C_NoPage) "__setattr__" = some (some (.builtin "object.__setattr__")))
    (ec_NoPage : PySem.W.subIn K (.ref C_NoPage) (.type "BaseException") = some true)
    (tc_NoPage : PySem.W.typeIn K (.ref C_NoPage) = some (.type "type"))
    (kc_NoPage : PySem.W.keepIn K (.ref C_NoPage) = true)
    (no_NoPage : PySem.W.findIn K (.ref C_NoPage) "page" = some none)
    (ic_NoPage : PySem.W.findIn K (.ref C_NoPage) "__init__" = some (some (.ref f32)))
    (ti_NoPage : PySem.W.typeIn K (.ref f32) = some (.type "function"))
    (ga_NoPage : PySem.W.findIn K (.ref C_NoPage) "__getattribute__" = some (some (.builtin "BaseException.__getattribute__")))
    (gg_NoPage : PySem.W.findIn K (.ref C_NoPage) "__getattr__" = some none)
    (hd_NoPage : PySem.W.hasDictIn K C_NoPage = true)
    (ha_NoPage : PySem.W.findIn K (.ref C_NoPage) "__class__" = some (some (.builtin "object.__class__")))
    (hm_NoPage : PySem.W.mroIn K C_NoPage (.type "object") = some true)
    (ss_NoPage : PySem.W.subIn K (.ref C_NoPage) (.ref C_NoPage) = some true)
    (gc_Written : PySem.W.nsIn K mainGlobals "Written" = some (some (.ref C_Written)))
    (xl_Written : K.lookup C_Written = some (excClassObj nm_Written qq_Written C_Written N_Written bs_Written bm_Written true sn_Written sub_Written ab_Written col_Written dd_Written m0_Written m1_Written m2_Written m3_Written m5_Written "ValueError.__new__"))
    (vb_Written : PySem.HandSPX.refsVE bm_Written = true)
    (sa_Written : PySem.W.findIn K (.ref C_Written) "__setattr__" = some (some (.builtin "object.__setattr__")))
    (ec_Written : PySem.W.subIn K (.ref C_Written) (.type "BaseException") = some true)
    (tc_Written : PySem.W.typeIn K (.ref C_Written) = some (.type "type"))
    (kc_Written : PySem.W.keepIn K (.ref C_Written) = true)
    (no_Written : PySem.W.findIn K (.ref C_Written) "page" = some none)
    (ic_Written : PySem.W.findIn K (.ref C_Written) "__init__" = some (some (.ref f33)))
    (ti_Written : PySem.W.typeIn K (.ref f33) = some (.type "function"))
    (ga_Written : PySem.W.findIn K (.ref C_Written) "__getattribute__" = some (some (.builtin "BaseException.__getattribute__")))
    (gg_Written : PySem.W.findIn K (.ref C_Written) "__getattr__" = some none)
    (hd_Written : PySem.W.hasDictIn K C_Written = true)
    (ha_Written : PySem.W.findIn K (.ref C_Written) "__class__" = some (some (.builtin "object.__class__")))
    (hm_Written : PySem.W.mroIn K C_Written (.type "object") = some true)
    (ss_Written : PySem.W.subIn K (.ref C_Written) (.ref C_Written) = some true)
    (gc_NoBlock : PySem.W.nsIn K mainGlobals "NoBlock" = some (some (.ref C_NoBlock)))
    (xl_NoBlock : K.lookup C_NoBlock = some (excClassObj nm_NoBlock qq_NoBlock C_NoBlock N_NoBlock bs_NoBlock bm_NoBlock true sn_NoBlock sub_NoBlock ab_NoBlock col_NoBlock dd_NoBlock m0_NoBlock m1_NoBlock m2_NoBlock m3_NoBlock m5_NoBlock "ValueError.__new__"))
    (vb_NoBlock : PySem.HandSPX.refsVE bm_NoBlock = true)
    (sa_NoBlock : PySem.W.findIn K (.ref C_NoBlock) "__setattr__" = some (some (.builtin "object.__setattr__")))
    (ec_NoBlock : PySem.W.subIn K (.ref C_NoBlock) (.type "BaseException") = some true)
    (tc_NoBlock : PySem.W.typeIn K (.ref C_NoBlock) = some (.type "type"))
    (kc_NoBlock : PySem.W.keepIn K (.ref C_NoBlock) = true)
    (no_NoBlock : PySem.W.findIn K (.ref C_NoBlock) "block" = some none)
    (ic_NoBlock : PySem.W.findIn K (.ref C_NoBlock) "__init__" = some (some (.ref f34)))
    (ti_NoBlock : PySem.W.typeIn K (.ref f34) = some (.type "function"))
    (ga_NoBlock : PySem.W.findIn K (.ref C_NoBlock) "__getattribute__" = some (some (.builtin "BaseException.__getattribute__")))
    (gg_NoBlock : PySem.W.findIn K (.ref C_NoBlock) "__getattr__" = some none)
    (hd_NoBlock : PySem.W.hasDictIn K C_NoBlock = true)
    (ha_NoBlock : PySem.W.findIn K (.ref C_NoBlock) "__class__" = some (some (.builtin "object.__class__")))
    (hm_NoBlock : PySem.W.mroIn K C_NoBlock (.type "object") = some true)
    (ss_NoBlock : PySem.W.subIn K (.ref C_NoBlock) (.ref C_NoBlock) = some true)
    (gc_NoSlot : PySem.W.nsIn K mainGlobals "NoSlot" = some (some (.ref C_NoSlot)))
    (xl_NoSlot : K.lookup C_NoSlot = some (excClassObj nm_NoSlot qq_NoSlot C_NoSlot N_NoSlot bs_NoSlot bm_NoSlot true sn_NoSlot sub_NoSlot ab_NoSlot col_NoSlot dd_NoSlot m0_NoSlot m1_NoSlot m2_NoSlot m3_NoSlot m5_NoSlot "ValueError.__new__"))
    (vb_NoSlot : PySem.HandSPX.refsVE bm_NoSlot = true)
    (sa_NoSlot : PySem.W.findIn K (.ref C_NoSlot) "__setattr__" = some (some (.builtin "object.__setattr__")))
    (ec_NoSlot : PySem.W.subIn K (.ref C_NoSlot) (.type "BaseException") = some true)
    (tc_NoSlot : PySem.W.typeIn K (.ref C_NoSlot) = some (.type "type"))
    (kc_NoSlot : PySem.W.keepIn K (.ref C_NoSlot) = true)
    (no_NoSlot : PySem.W.findIn K (.ref C_NoSlot) "slot" = some none)
    (ic_NoSlot : PySem.W.findIn K (.ref C_NoSlot) "__init__" = some (some (.ref f35)))
    (ti_NoSlot : PySem.W.typeIn K (.ref f35) = some (.type "function"))
    (ga_NoSlot : PySem.W.findIn K (.ref C_NoSlot) "__getattribute__" = some (some (.builtin "BaseException.__getattribute__")))
    (gg_NoSlot : PySem.W.findIn K (.ref C_NoSlot) "__getattr__" = some none)
    (hd_NoSlot : PySem.W.hasDictIn K C_NoSlot = true)
    (ha_NoSlot : PySem.W.findIn K (.ref C_NoSlot) "__class__" = some (some (.builtin "object.__class__")))
    (hm_NoSlot : PySem.W.mroIn K C_NoSlot (.type "object") = some true)
    (ss_NoSlot : PySem.W.subIn K (.ref C_NoSlot) (.ref C_NoSlot) = some true)
    (gc_BadPower : PySem.W.nsIn K mainGlobals "BadPower" = some (some (.ref C_BadPower)))
    (xl_BadPower : K.lookup C_BadPower = some (excClassObj nm_BadPower qq_BadPower C_BadPower N_BadPower bs_BadPower bm_BadPower true sn_BadPower sub_BadPower ab_BadPower col_BadPower dd_BadPower m0_BadPower m1_BadPower m2_BadPower m3_BadPower m5_BadPower "ValueError.__new__"))
    (vb_BadPower : PySem.HandSPX.refsVE bm_BadPower = true)
    (sa_BadPower : PySem.W.findIn K (.ref C_BadPower) "__setattr__" = some (some (.builtin "object.__setattr__")))
    (ec_BadPower : PySem.W.subIn K (.ref C_BadPower) (.type "BaseException") = some true)
    (tc_BadPower : PySem.W.typeIn K (.ref C_BadPower) = some (.type "type"))
    (kc_BadPower : PySem.W.keepIn K (.ref C_BadPower) = true)
    (no_BadPower : PySem.W.findIn K (.ref C_BadPower) "power" = some none)
    (ic_BadPower : PySem.W.findIn K (.ref C_BadPower) "__init__" = some (some (.ref f36)))
    (ti_BadPower : PySem.W.typeIn K (.ref f36) = some (.type "function"))
    (ga_BadPower : PySem.W.findIn K (.ref C_BadPower) "__getattribute__" = some (some (.builtin "BaseException.__getattribute__")))
    (gg_BadPower : PySem.W.findIn K (.ref C_BadPower) "__getattr__" = some none)
    (hd_BadPower : PySem.W.hasDictIn K C_BadPower = true)
    (ha_BadPower : PySem.W.findIn K (.ref C_BadPower) "__class__" = some (some (.builtin "object.__class__")))
    (hm_BadPower : PySem.W.mroIn K C_BadPower (.type "object") = some true)
    (ss_BadPower : PySem.W.subIn K (.ref C_BadPower) (.ref C_BadPower) = some true)
    (gc_PowerLost : PySem.W.nsIn K mainGlobals "PowerLost" = some (some (.ref C_PowerLost)))
    (xl_PowerLost : K.lookup C_PowerLost = some (excClassObj nm_PowerLost qq_PowerLost C_PowerLost N_PowerLost bs_PowerLost bm_PowerLost true sn_PowerLost sub_PowerLost ab_PowerLost col_PowerLost dd_PowerLost m0_PowerLost m1_PowerLost m2_PowerLost m3_PowerLost m5_PowerLost "ValueError.__new__"))
    (vb_PowerLost : PySem.HandSPX.refsVE bm_PowerLost = true)
    (sa_PowerLost : PySem.W.findIn K (.ref C_PowerLost) "__setattr__" = some (some (.builtin "object.__setattr__")))
    (ec_PowerLost : PySem.W.subIn K (.ref C_PowerLost) (.type "BaseException") = some true)
    (tc_PowerLost : PySem.W.typeIn K (.ref C_PowerLost) = some (.type "type"))
    (kc_PowerLost : PySem.W.keepIn K (.ref C_PowerLost) = true)
    (no_PowerLost : PySem.W.findIn K (.ref C_PowerLost) "seen" = some none)
    (ic_PowerLost : PySem.W.findIn K (.ref C_PowerLost) "__init__" = some (some (.ref f37)))
    (ti_PowerLost : PySem.W.typeIn K (.ref f37) = some (.type "function"))
    (ga_PowerLost : PySem.W.findIn K (.ref C_PowerLost) "__getattribute__" = some (some (.builtin "BaseException.__getattribute__")))
    (gg_PowerLost : PySem.W.findIn K (.ref C_PowerLost) "__getattr__" = some none)
    (hd_PowerLost : PySem.W.hasDictIn K C_PowerLost = true)
    (ha_PowerLost : PySem.W.findIn K (.ref C_PowerLost) "__class__" = some (some (.builtin "object.__class__")))
    (hm_PowerLost : PySem.W.mroIn K C_PowerLost (.type "object") = some true)
    (ss_PowerLost : PySem.W.subIn K (.ref C_PowerLost) (.ref C_PowerLost) = some true)
    (hn0 : PySem.W.specialIn K (.builtin "object.__class__") "__get__" = some (some (.builtin "getset_descriptor.__get__")))
    (ht0 : PySem.W.takesIn K (.builtin "object.__class__") = some true)
    (gc_RomError : PySem.W.nsIn K mainGlobals "RomError" = some (some (.ref C_RomError)))
    (gc_Flash : PySem.W.nsIn K mainGlobals "Flash" = some (some (.ref C_Flash)))
    (gc_Power : PySem.W.nsIn K mainGlobals "Power" = some (some (.ref C_Power)))
    (ic_Flash_init : PySem.W.findIn K (.ref C_Flash) "__init__" = some (some (.ref f38)))
    (fn_Flash_init : PySem.W.isFn K (.ref f38) = true)
    (mk_Flash : PySem.W.makesIn K C_Flash = true)
    (kp_Flash : PySem.W.keepIn K (.ref C_Flash) = true)
    (ic_Flash_getitem : PySem.W.findIn K (.ref C_Flash) "__getitem__" = some (some (.ref f39)))
    (fn_Flash_getitem : PySem.W.isFn K (.ref f39) = true)
    (fi_Flash_getitem : PySem.W.fnIn K f39 = true)
    (ic_Flash_setitem : PySem.W.findIn K (.ref C_Flash) "__setitem__" = some (some (.ref f40)))
    (fn_Flash_setitem : PySem.W.isFn K (.ref f40) = true)
    (ns_Flash : PySem.W.noSeq K C_Flash = true)
    (ic_Flash_erase : PySem.W.findIn K (.ref C_Flash) "erase" = some (some (.ref f41)))
    (fn_Flash_erase : PySem.W.isFn K (.ref f41) = true)
    (ic_Flash_slot_words : PySem.W.findIn K (.ref C_Flash) "slot_words" = some (some (.ref f42)))
    (fn_Flash_slot_words : PySem.W.isFn K (.ref f42) = true)
    (ic_Flash_block_words : PySem.W.findIn K (.ref C_Flash) "block_words" = some (some (.ref f43)))
    (fn_Flash_block_words : PySem.W.isFn K (.ref f43) = true)
    (ic_Flash_put_in : PySem.W.findIn K (.ref C_Flash) "put_in" = some (some (.ref f44)))
    (fn_Flash_put_in : PySem.W.isFn K (.ref f44) = true)
    (ic_Power_init : PySem.W.findIn K (.ref C_Power) "__init__" = some (some (.ref f45)))
    (fn_Power_init : PySem.W.isFn K (.ref f45) = true)
    (mk_Power : PySem.W.makesIn K C_Power = true)
    (kp_Power : PySem.W.keepIn K (.ref C_Power) = true)
    (pg_Flash : PySem.W.plainGet K C_Flash Str.empty = true)
    (hd_Flash : PySem.W.hasDictIn K C_Flash = true)
    (po_Flash : PySem.W.plainOver K C_Flash = true)
    (sa_Flash : PySem.W.findIn K (.ref C_Flash) "__setattr__" = some (some (.builtin "object.__setattr__")))
    (na_Flash_pages : PySem.W.findIn K (.ref C_Flash) "pages" = some none)
    (na_Flash_left : PySem.W.findIn K (.ref C_Flash) "left" = some none)
    (pg_Power : PySem.W.plainGet K C_Power Str.empty = true)
    (hd_Power : PySem.W.hasDictIn K C_Power = true)
    (po_Power : PySem.W.plainOver K C_Power = true)
    (sa_Power : PySem.W.findIn K (.ref C_Power) "__setattr__" = some (some (.builtin "object.__setattr__")))
    (na_Power_flash : PySem.W.findIn K (.ref C_Power) "flash" = some none)
    (na_Power_units : PySem.W.findIn K (.ref C_Power) "units" = some none)
    (gc_BLANK : PySem.W.nsIn K mainGlobals "BLANK" = some (some (.int 65535 t_BLANK)))
    (gc_PAGES : PySem.W.nsIn K mainGlobals "PAGES" = some (some (.int 144 t_PAGES)))
    (gc_PAGE_WORDS : PySem.W.nsIn K mainGlobals "PAGE_WORDS" = some (some (.int 16 t_PAGE_WORDS)))
    (gc_BLOCKS : PySem.W.nsIn K mainGlobals "BLOCKS" = some (some (.int 18 t_BLOCKS)))
    (gc_BLOCK_PAGES : PySem.W.nsIn K mainGlobals "BLOCK_PAGES" = some (some (.int 8 t_BLOCK_PAGES)))
    (gc_SLOT_PAGES : PySem.W.nsIn K mainGlobals "SLOT_PAGES" = some (some (.int 64 t_SLOT_PAGES)))
    (gc_BLANK_PAGE : PySem.W.nsIn K mainGlobals "BLANK_PAGE" = some (some (.ref t_BLANK_PAGE)))
    (q_BLANK_PAGE : K.lookup t_BLANK_PAGE = some ⟨.type "tuple", none, .seq its_BLANK_PAGE n_BLANK_PAGE, sl_BLANK_PAGE⟩)
    (qv_BLANK_PAGE : Vals [.int (65535), .int (65535), .int (65535), .int (65535), .int (65535), .int (65535), .int (65535), .int (65535), .int (65535), .int (65535), .int (65535), .int (65535), .int (65535), .int (65535), .int (65535), .int (65535)] its_BLANK_PAGE.toList)
    (ki_NoPage_RomError : PySem.W.kitOne K (.ref C_NoPage) (.ref C_RomError) = some true)
    (ki_NoBlock_RomError : PySem.W.kitOne K (.ref C_NoBlock) (.ref C_RomError) = some true)
    (ki_TooLong_RomError : PySem.W.kitOne K (.ref C_TooLong) (.ref C_RomError) = some true)
    (ki_Written_RomError : PySem.W.kitOne K (.ref C_Written) (.ref C_RomError) = some true)
    (ki_PowerLost_RomError : PySem.W.kitOne K (.ref C_PowerLost) (.ref C_RomError) = some true)
    (ki_PowerLost_ValueError : PySem.W.kitOne K (.ref C_PowerLost) (.type "ValueError") = some true)
    (se_NoBlock_NoPage : PySem.W.subIn K (.ref C_NoBlock) (.ref C_NoPage) = some false)
    (se_TooLong_NoPage : PySem.W.subIn K (.ref C_TooLong) (.ref C_NoPage) = some false)
    (se_TooLong_NoBlock : PySem.W.subIn K (.ref C_TooLong) (.ref C_NoBlock) = some false)
    (se_Written_NoPage : PySem.W.subIn K (.ref C_Written) (.ref C_NoPage) = some false)
    (se_Written_NoBlock : PySem.W.subIn K (.ref C_Written) (.ref C_NoBlock) = some false)
    (se_Written_TooLong : PySem.W.subIn K (.ref C_Written) (.ref C_TooLong) = some false)
    (se_PowerLost_NoPage : PySem.W.subIn K (.ref C_PowerLost) (.ref C_NoPage) = some false)
    (se_PowerLost_NoBlock : PySem.W.subIn K (.ref C_PowerLost) (.ref C_NoBlock) = some false)
    (se_PowerLost_TooLong : PySem.W.subIn K (.ref C_PowerLost) (.ref C_TooLong) = some false)
    (se_PowerLost_Written : PySem.W.subIn K (.ref C_PowerLost) (.ref C_Written) = some false)
    (se_NoSlot_NoPage : PySem.W.subIn K (.ref C_NoSlot) (.ref C_NoPage) = some false)
    (se_NoBlock_NoSlot : PySem.W.subIn K (.ref C_NoBlock) (.ref C_NoSlot) = some false)
    (se_BadPower_NoPage : PySem.W.subIn K (.ref C_BadPower) (.ref C_NoPage) = some false)
    (se_BadPower_NoSlot : PySem.W.subIn K (.ref C_BadPower) (.ref C_NoSlot) = some false)
    (se_BadPower_NoBlock : PySem.W.subIn K (.ref C_BadPower) (.ref C_NoBlock) = some false)
    (z_ValueError : PySem.W.nsIn K mainGlobals "ValueError" = some none)
    (z_abs : PySem.W.nsIn K mainGlobals "abs" = some none)
    (z_bool : PySem.W.nsIn K mainGlobals "bool" = some none)
    (z_enumerate : PySem.W.nsIn K mainGlobals "enumerate" = some none)
    (z_int : PySem.W.nsIn K mainGlobals "int" = some none)
    (z_isinstance : PySem.W.nsIn K mainGlobals "isinstance" = some none)
    (z_len : PySem.W.nsIn K mainGlobals "len" = some none)
    (z_list : PySem.W.nsIn K mainGlobals "list" = some none)
    (z_min : PySem.W.nsIn K mainGlobals "min" = some none)
    (z_range : PySem.W.nsIn K mainGlobals "range" = some none)
    (z_tuple : PySem.W.nsIn K mainGlobals "tuple" = some none) :
    ∃ fd : FuncData, (∀ (s : Shared) (v : Value), BindsTo s fd ⟨[v], []⟩ [("_law_script", v)]) ∧ ∀ base : Heap, K.In base → base.Ns mainGlobals mg → FnOk l.prog w K mg base CX0 12 fa fd ["_law_script"] (spLaw K) := by
  have e : f30 = fa := Value.ref.inj (Option.some.inj ((PySem.W.mg_of X G a30).symm.trans hfa))
  subst e
  have T : Txt K mg ⟨f1, (PySem.W.fnOf "is_between" "is_between" (defArgs s_is_between) (defBody s_is_between) (defScope s_is_between) .none kV1 dc1 pm1 an1 cd1 ct1), f2, (PySem.W.fnOf "check_page" "check_page" (defArgs s_check_page) (defBody s_check_page) (defScope s_check_page) .none kV2 dc2 pm2 an2 cd2 ct2), f3, (PySem.W.fnOf "check_block" "check_block" (defArgs s_check_block) (defBody s_check_block) (defScope s_check_block) .none kV3 dc3 pm3 an3 cd3 ct3), f4, (PySem.W.fnOf "check_power" "check_power" (defArgs s_check_power) (defBody s_check_power) (defScope s_check_power) .none kV4 dc4 pm4 an4 cd4 ct4), f5, (PySem.W.fnOf "use_power" "use_power" (defArgs s_use_power) (defBody s_use_power) (defScope s_use_power) .none kV5 dc5 pm5 an5 cd5 ct5), f6, (PySem.W.fnOf "limit_power" "limit_power" (defArgs s_limit_power) (defBody s_limit_power) (defScope s_limit_power) .none kV6 dc6 pm6 an6 cd6 ct6), f7, (PySem.W.fnOf "write_page" "write_page" (defArgs s_write_page) (defBody s_write_page) (defScope s_write_page) .none kV7 dc7 pm7 an7 cd7 ct7), f8, (PySem.W.fnOf "words_of_pages" "words_of_pages" (defArgs s_words_of_pages) (defBody s_words_of_pages) (defScope s_words_of_pages) .none kV8 dc8 pm8 an8 cd8 ct8), f9, (PySem.W.fnOf "rows_for_pages" "rows_for_pages" (defArgs s_rows_for_pages) (defBody s_rows_for_pages) (defScope s_rows_for_pages) .none kV9 dc9 pm9 an9 cd9 ct9), f10, (PySem.W.fnOf "_law_source" "_law_source" (defArgs s_law_source) (defBody s_law_source) (defScope s_law_source) .none kV10 dc10 pm10 an10 cd10 ct10), f11, (PySem.W.fnOf "_law_draw" "_law_draw" (defArgs s_law_draw) (defBody s_law_draw) (defScope s_law_draw) .none kV11 dc11 pm11 an11 cd11 ct11), f12, (PySem.W.fnOf "_law_word" "_law_word" (defArgs s_law_word) (defBody s_law_word) (defScope s_law_word) .none kV12 dc12 pm12 an12 cd12 ct12), f13, (PySem.W.fnOf "_law_plain" "_law_plain" (defArgs s_law_plain) (defBody s_law_plain) (defScope s_law_plain) .none kV13 dc13 pm13 an13 cd13 ct13), f14, (PySem.W.fnOf "_law_spend" "_law_spend" (defArgs s_law_spend) (defBody s_law_spend) (defScope s_law_spend) .none kV14 dc14 pm14 an14 cd14 ct14), f15, (PySem.W.fnOf "_law_erase" "_law_erase" (defArgs s_law_erase) (defBody s_law_erase) (defScope s_law_erase) .none kV15 dc15 pm15 an15 cd15 ct15), f16, (PySem.W.fnOf "_law_write" "_law_write" (defArgs s_law_write) (defBody s_law_write) (defScope s_law_write) .none kV16 dc16 pm16 an16 cd16 ct16), f17, (PySem.W.fnOf "_law_rows" "_law_rows" (defArgs s_law_rows) (defBody s_law_rows) (defScope s_law_rows) .none kV17 dc17 pm17 an17 cd17 ct17), f18, (PySem.W.fnOf "_law_fill" "_law_fill" (defArgs s_law_fill) (defBody s_law_fill) (defScope s_law_fill) .none kV18 dc18 pm18 an18 cd18 ct18), f19, (PySem.W.fnOf "_law_is_below" "_law_is_below" (defArgs s_law_is_below) (defBody s_law_is_below) (defScope s_law_is_below) .none kV19 dc19 pm19 an19 cd19 ct19), f20, (PySem.W.fnOf "_law_block" "_law_block" (defArgs s_law_block) (defBody s_law_block) (defScope s_law_block) .none kV20 dc20 pm20 an20 cd20 ct20), f21, (PySem.W.fnOf "_law_page" "_law_page" (defArgs s_law_page) (defBody s_law_page) (defScope s_law_page) .none kV21 dc21 pm21 an21 cd21 ct21), f22, (PySem.W.fnOf "_law_words" "_law_words" (defArgs s_law_words) (defBody s_law_words) (defScope s_law_words) .none kV22 dc22 pm22 an22 cd22 ct22), f23, (PySem.W.fnOf "_law_deed" "_law_deed" (defArgs s_law_deed) (defBody s_law_deed) (defScope s_law_deed) .none kV23 dc23 pm23 an23 cd23 ct23), f24, (PySem.W.fnOf "_law_done" "_law_done" (defArgs s_law_done) (defBody s_law_done) (defScope s_law_done) .none kV24 dc24 pm24 an24 cd24 ct24), f25, (PySem.W.fnOf "_law_expected" "_law_expected" (defArgs s_law_expected) (defBody s_law_expected) (defScope s_law_expected) .none kV25 dc25 pm25 an25 cd25 ct25), f26, (PySem.W.fnOf "_law_near" "_law_near" (defArgs s_law_near) (defBody s_law_near) (defScope s_law_near) .none kV26 dc26 pm26 an26 cd26 ct26), f27, (PySem.W.fnOf "_law_read" "_law_read" (defArgs s_law_read) (defBody s_law_read) (defScope s_law_read) .none kV27 dc27 pm27 an27 cd27 ct27), f28, (PySem.W.fnOf "_law_joined" "_law_joined" (defArgs s_law_joined) (defBody s_law_joined) (defScope s_law_joined) .none kV28 dc28 pm28 an28 cd28 ct28), f29, (PySem.W.fnOf "_law_refuses" "_law_refuses" (defArgs s_law_refuses) (defBody s_law_refuses) (defScope s_law_refuses) .none kV29 dc29 pm29 an29 cd29 ct29), f30, (PySem.W.fnOf "law" "law" (defArgs s_law) (defBody s_law) (defScope s_law) .none kV30 dc30 pm30 an30 cd30 ct30), C_TooLong, f31, (PySem.W.fnOf "__init__" "TooLong.__init__" (defArgs s_TooLong_init) (defBody s_TooLong_init) (defScope s_TooLong_init) .none kV31 dc31 pm31 an31 cd31 ct31), C_NoPage, f32, (PySem.W.fnOf "__init__" "NoPage.__init__" (defArgs s_NoPage_init) (defBody s_NoPage_init) (defScope s_NoPage_init) .none kV32 dc32 pm32 an32 cd32 ct32), C_Written, f33, (PySem.W.fnOf "__init__" "Written.__init__" (defArgs s_Written_init) (defBody s_Written_init) (defScope s_Written_init) .none kV33 dc33 pm33 an33 cd33 ct33), C_NoBlock, f34, (PySem.W.fnOf "__init__" "NoBlock.__init__" (defArgs s_NoBlock_init) (defBody s_NoBlock_init) (defScope s_NoBlock_init) .none kV34 dc34 pm34 an34 cd34 ct34), C_NoSlot, f35, (PySem.W.fnOf "__init__" "NoSlot.__init__" (defArgs s_NoSlot_init) (defBody s_NoSlot_init) (defScope s_NoSlot_init) .none kV35 dc35 pm35 an35 cd35 ct35), C_BadPower, f36, (PySem.W.fnOf "__init__" "BadPower.__init__" (defArgs s_BadPower_init) (defBody s_BadPower_init) (defScope s_BadPower_init) .none kV36 dc36 pm36 an36 cd36 ct36), C_PowerLost, f37, (PySem.W.fnOf "__init__" "PowerLost.__init__" (defArgs s_PowerLost_init) (defBody s_PowerLost_init) (defScope s_PowerLost_init) .none kV37 dc37 pm37 an37 cd37 ct37), C_RomError, C_Flash, C_Power, f38, (PySem.W.fnOf "__init__" "Flash.__init__" (defArgs s_Flash_init) (defBody s_Flash_init) (defScope s_Flash_init) .none kV38 dc38 pm38 an38 cd38 ct38), f39, (PySem.W.fnOf "__getitem__" "Flash.__getitem__" (defArgs s_Flash_getitem) (defBody s_Flash_getitem) (defScope s_Flash_getitem) .none kV39 dc39 pm39 an39 cd39 ct39), f40, (PySem.W.fnOf "__setitem__" "Flash.__setitem__" (defArgs s_Flash_setitem) (defBody s_Flash_setitem) (defScope s_Flash_setitem) .none kV40 dc40 pm40 an40 cd40 ct40), f41, (PySem.W.fnOf "erase" "Flash.erase" (defArgs s_Flash_erase) (defBody s_Flash_erase) (defScope s_Flash_erase) .none kV41 dc41 pm41 an41 cd41 ct41), f42, (PySem.W.fnOf "slot_words" "Flash.slot_words" (defArgs s_Flash_slot_words) (defBody s_Flash_slot_words) (defScope s_Flash_slot_words) .none kV42 dc42 pm42 an42 cd42 ct42), f43, (PySem.W.fnOf "block_words" "Flash.block_words" (defArgs s_Flash_block_words) (defBody s_Flash_block_words) (defScope s_Flash_block_words) .none kV43 dc43 pm43 an43 cd43 ct43), f44, (PySem.W.fnOf "put_in" "Flash.put_in" (defArgs s_Flash_put_in) (defBody s_Flash_put_in) (defScope s_Flash_put_in) .none kV44 dc44 pm44 an44 cd44 ct44), f45, (PySem.W.fnOf "__init__" "Power.__init__" (defArgs s_Power_init) (defBody s_Power_init) (defScope s_Power_init) .none kV45 dc45 pm45 an45 cd45 ct45), t_BLANK, t_PAGES, t_PAGE_WORDS, t_BLOCKS, t_BLOCK_PAGES, t_SLOT_PAGES, t_BLANK_PAGE⟩ :=
    { F_is_between := fun_mk (st := s_is_between) l1 c1 k1,
      g_is_between := PySem.W.mg_of X G a1,
      b_is_between := (fun_mk (st := s_is_between) l1 c1 k1).binds (ps := ["thing", "least", "most"]) fun _ _ _ _ _ _ us hl => match us, hl with | [_, _, _], _ => rfl,
      F_check_page := fun_mk (st := s_check_page) l2 c2 k2,
      g_check_page := PySem.W.mg_of X G a2,
      b_check_page := (fun_mk (st := s_check_page) l2 c2 k2).binds (ps := ["page"]) fun _ _ _ _ _ _ us hl => match us, hl with | [_], _ => rfl,
      F_check_block := fun_mk (st := s_check_block) l3 c3 k3,
      g_check_block := PySem.W.mg_of X G a3,
      b_check_block := (fun_mk (st := s_check_block) l3 c3 k3).binds (ps := ["block"]) fun _ _ _ _ _ _ us hl => match us, hl with | [_], _ => rfl,
      F_check_power := fun_mk (st := s_check_power) l4 c4 k4,
      g_check_power := PySem.W.mg_of X G a4,
      b_check_power := (fun_mk (st := s_check_power) l4 c4 k4).binds (ps := ["units"]) fun _ _ _ _ _ _ us hl => match us, hl with | [_], _ => rfl,
      F_use_power := fun_mk (st := s_use_power) l5 c5 k5,
      g_use_power := PySem.W.mg_of X G a5,
      b_use_power := (fun_mk (st := s_use_power) l5 c5 k5).binds (ps := ["flash"]) fun _ _ _ _ _ _ us hl => match us, hl with | [_], _ => rfl,
      F_limit_power := fun_mk (st := s_limit_power) l6 c6 k6,
      g_limit_power := PySem.W.mg_of X G a6,
      b_limit_power := (fun_mk (st := s_limit_power) l6 c6 k6).binds (ps := ["flash", "units"]) fun _ _ _ _ _ _ us hl => match us, hl with | [_, _], _ => rfl,
      F_write_page := fun_mk (st := s_write_page) l7 c7 k7,
      g_write_page := PySem.W.mg_of X G a7,
      b_write_page := (fun_mk (st := s_write_page) l7 c7 k7).binds (ps := ["flash", "page", "words"]) fun _ _ _ _ _ _ us hl => match us, hl with | [_, _, _], _ => rfl,
      F_words_of_pages := fun_mk (st := s_words_of_pages) l8 c8 k8,
      g_words_of_pages := PySem.W.mg_of X G a8,
      b_words_of_pages := (fun_mk (st := s_words_of_pages) l8 c8 k8).binds (ps := ["flash", "page", "count"]) fun _ _ _ _ _ _ us hl => match us, hl with | [_, _, _], _ => rfl,
      F_rows_for_pages := fun_mk (st := s_rows_for_pages) l9 c9 k9,
      g_rows_for_pages := PySem.W.mg_of X G a9,
      b_rows_for_pages := (fun_mk (st := s_rows_for_pages) l9 c9 k9).binds (ps := ["words"]) fun _ _ _ _ _ _ us hl => match us, hl with | [_], _ => rfl,
      F_law_source := fun_mk (st := s_law_source) l10 c10 k10,
      g_law_source := PySem.W.mg_of X G a10,
      b_law_source := (fun_mk (st := s_law_source) l10 c10 k10).binds (ps := ["_law_script"]) fun _ _ _ _ _ _ us hl => match us, hl with | [_], _ => rfl,
      F_law_draw := fun_mk (st := s_law_draw) l11 c11 k11,
      g_law_draw := PySem.W.mg_of X G a11,
      b_law_draw := (fun_mk (st := s_law_draw) l11 c11 k11).binds (ps := ["_law_source_here", "_law_below"]) fun _ _ _ _ _ _ us hl => match us, hl with | [_, _], _ => rfl,
      F_law_word := fun_mk (st := s_law_word) l12 c12 k12,
      g_law_word := PySem.W.mg_of X G a12,
      b_law_word := (fun_mk (st := s_law_word) l12 c12 k12).binds (ps := ["_law_source_here"]) fun _ _ _ _ _ _ us hl => match us, hl with | [_], _ => rfl,
      F_law_plain := fun_mk (st := s_law_plain) l13 c13 k13,
      g_law_plain := PySem.W.mg_of X G a13,
      b_law_plain := (fun_mk (st := s_law_plain) l13 c13 k13).binds (ps := ["_law_thing"]) fun _ _ _ _ _ _ us hl => match us, hl with | [_], _ => rfl,
      F_law_spend := fun_mk (st := s_law_spend) l14 c14 k14,
      g_law_spend := PySem.W.mg_of X G a14,
      b_law_spend := (fun_mk (st := s_law_spend) l14 c14 k14).binds (ps := ["_law_power", "_law_units"]) fun _ _ _ _ _ _ us hl => match us, hl with | [_, _], _ => rfl,
      F_law_erase := fun_mk (st := s_law_erase) l15 c15 k15,
      g_law_erase := PySem.W.mg_of X G a15,
      b_law_erase := (fun_mk (st := s_law_erase) l15 c15 k15).binds (ps := ["_law_pages", "_law_power", "_law_block_here"]) fun _ _ _ _ _ _ us hl => match us, hl with | [_, _, _], _ => rfl,
      F_law_write := fun_mk (st := s_law_write) l16 c16 k16,
      g_law_write := PySem.W.mg_of X G a16,
      b_law_write := (fun_mk (st := s_law_write) l16 c16 k16).binds (ps := ["_law_pages", "_law_power", "_law_page_here", "_law_words_here"]) fun _ _ _ _ _ _ us hl => match us, hl with | [_, _, _, _], _ => rfl,
      F_law_rows := fun_mk (st := s_law_rows) l17 c17 k17,
      g_law_rows := PySem.W.mg_of X G a17,
      b_law_rows := (fun_mk (st := s_law_rows) l17 c17 k17).binds (ps := ["_law_page_here", "_law_words_here"]) fun _ _ _ _ _ _ us hl => match us, hl with | [_, _], _ => rfl,
      F_law_fill := fun_mk (st := s_law_fill) l18 c18 k18,
      g_law_fill := PySem.W.mg_of X G a18,
      b_law_fill := (fun_mk (st := s_law_fill) l18 c18 k18).binds (ps := ["_law_pages", "_law_power", "_law_page_here", "_law_words_here"]) fun _ _ _ _ _ _ us hl => match us, hl with | [_, _, _, _], _ => rfl,
      F_law_is_below := fun_mk (st := s_law_is_below) l19 c19 k19,
      g_law_is_below := PySem.W.mg_of X G a19,
      b_law_is_below := (fun_mk (st := s_law_is_below) l19 c19 k19).binds (ps := ["_law_thing", "_law_count"]) fun _ _ _ _ _ _ us hl => match us, hl with | [_, _], _ => rfl,
      F_law_block := fun_mk (st := s_law_block) l20 c20 k20,
      g_law_block := PySem.W.mg_of X G a20,
      b_law_block := (fun_mk (st := s_law_block) l20 c20 k20).binds (ps := ["_law_source_here", "_law_near_here"]) fun _ _ _ _ _ _ us hl => match us, hl with | [_, _], _ => rfl,
      F_law_page := fun_mk (st := s_law_page) l21 c21 k21,
      g_law_page := PySem.W.mg_of X G a21,
      b_law_page := (fun_mk (st := s_law_page) l21 c21 k21).binds (ps := ["_law_source_here", "_law_near_here"]) fun _ _ _ _ _ _ us hl => match us, hl with | [_, _], _ => rfl,
      F_law_words := fun_mk (st := s_law_words) l22 c22 k22,
      g_law_words := PySem.W.mg_of X G a22,
      b_law_words := (fun_mk (st := s_law_words) l22 c22 k22).binds (ps := ["_law_source_here", "_law_count"]) fun _ _ _ _ _ _ us hl => match us, hl with | [_, _], _ => rfl,
      F_law_deed := fun_mk (st := s_law_deed) l23 c23 k23,
      g_law_deed := PySem.W.mg_of X G a23,
      b_law_deed := (fun_mk (st := s_law_deed) l23 c23 k23).binds (ps := ["_law_source_here", "_law_near_here"]) fun _ _ _ _ _ _ us hl => match us, hl with | [_, _], _ => rfl,
      F_law_done := fun_mk (st := s_law_done) l24 c24 k24,
      g_law_done := PySem.W.mg_of X G a24,
      b_law_done := (fun_mk (st := s_law_done) l24 c24 k24).binds (ps := ["_law_flash", "_law_deed_here"]) fun _ _ _ _ _ _ us hl => match us, hl with | [_, _], _ => rfl,
      F_law_expected := fun_mk (st := s_law_expected) l25 c25 k25,
      g_law_expected := PySem.W.mg_of X G a25,
      b_law_expected := (fun_mk (st := s_law_expected) l25 c25 k25).binds (ps := ["_law_pages", "_law_power", "_law_deed_here"]) fun _ _ _ _ _ _ us hl => match us, hl with | [_, _, _], _ => rfl,
      F_law_near := fun_mk (st := s_law_near) l26 c26 k26,
      g_law_near := PySem.W.mg_of X G a26,
      b_law_near := (fun_mk (st := s_law_near) l26 c26 k26).binds (ps := ["_law_flash", "_law_pages", "_law_power", "_law_spot"]) fun _ _ _ _ _ _ us hl => match us, hl with | [_, _, _, _], _ => rfl,
      F_law_read := fun_mk (st := s_law_read) l27 c27 k27,
      g_law_read := PySem.W.mg_of X G a27,
      b_law_read := (fun_mk (st := s_law_read) l27 c27 k27).binds (ps := ["_law_flash", "_law_ask", "_law_thing"]) fun _ _ _ _ _ _ us hl => match us, hl with | [_, _, _], _ => rfl,
      F_law_joined := fun_mk (st := s_law_joined) l28 c28 k28,
      g_law_joined := PySem.W.mg_of X G a28,
      b_law_joined := (fun_mk (st := s_law_joined) l28 c28 k28).binds (ps := ["_law_pages", "_law_first", "_law_count"]) fun _ _ _ _ _ _ us hl => match us, hl with | [_, _, _], _ => rfl,
      F_law_refuses := fun_mk (st := s_law_refuses) l29 c29 k29,
      g_law_refuses := PySem.W.mg_of X G a29,
      b_law_refuses := (fun_mk (st := s_law_refuses) l29 c29 k29).binds (ps := ["_law_source_here", "_law_flash"]) fun _ _ _ _ _ _ us hl => match us, hl with | [_, _], _ => rfl,
      F_law := fun_mk (st := s_law) l30 c30 k30,
      g_law := PySem.W.mg_of X G a30,
      b_law := (fun_mk (st := s_law) l30 c30 k30).binds (ps := ["_law_script"]) fun _ _ _ _ _ _ us hl => match us, hl with | [_], _ => rfl,
      F_TooLong_init := fun_mk (st := s_TooLong_init) l31 c31 k31,
      x_TooLong := ⟨PySem.W.mg_of X G gc_TooLong, ⟨⟨_, _, _, _, _, _, _, _, _, _, _, _, _, _, _, xl_TooLong, vb_TooLong⟩, sa_TooLong, ec_TooLong, tc_TooLong, kc_TooLong⟩, no_TooLong, ic_TooLong, ti_TooLong, (fun_mk (st := s_TooLong_init) l31 c31 k31).binds (ps := ["self", "length"]) fun _ _ _ _ _ _ us hl => match us, hl with | [_, _], _ => rfl, ⟨ga_TooLong, gg_TooLong, ec_TooLong, hd_TooLong⟩, ⟨ga_TooLong, gg_TooLong, ec_TooLong, hd_TooLong, ha_TooLong, hn0, ht0, hm_TooLong⟩, PySem.W.exm_ref ec_TooLong hd_TooLong tc_TooLong ss_TooLong⟩,
      F_NoPage_init := fun_mk (st := s_NoPage_init) l32 c32 k32,
      x_NoPage := ⟨PySem.W.mg_of X G gc_NoPage, ⟨⟨_, _, _, _, _, _, _, _, _, _, _, _, _, _, _, xl_NoPage, vb_NoPage⟩, sa_NoPage, ec_NoPage, tc_NoPage, kc_NoPage⟩, no_NoPage, ic_NoPage, ti_NoPage, (fun_mk (st := s_NoPage_init) l32 c32 k32).binds (ps := ["self", "page"]) fun _ _ _ _ _ _ us hl => match us, hl with | [_, _], _ => rfl, ⟨ga_NoPage, gg_NoPage, ec_NoPage, hd_NoPage⟩, ⟨ga_NoPage, gg_NoPage, ec_NoPage, hd_NoPage, ha_NoPage, hn0, ht0, hm_NoPage⟩, PySem.W.exm_ref ec_NoPage hd_NoPage tc_NoPage ss_NoPage⟩,
      F_Written_init := fun_mk (st := s_Written_init) l33 c33 k33,
      x_Written := ⟨PySem.W.mg_of X G gc_Written, ⟨⟨_, _, _, _, _, _, _, _, _, _, _, _, _, _, _, xl_Written, vb_Written⟩, sa_Written, ec_Written, tc_Written, kc_Written⟩, no_Written, ic_Written, ti_Written, (fun_mk (st := s_Written_init) l33 c33 k33).binds (ps := ["self", "page"]) fun _ _ _ _ _ _ us hl => match us, hl with | [_, _], _ => rfl, ⟨ga_Written, gg_Written, ec_Written, hd_Written⟩, ⟨ga_Written, gg_Written, ec_Written, hd_Written, ha_Written, hn0, ht0, hm_Written⟩, PySem.W.exm_ref ec_Written hd_Written tc_Written ss_Written⟩,
      F_NoBlock_init := fun_mk (st := s_NoBlock_init) l34 c34 k34,
      x_NoBlock := ⟨PySem.W.mg_of X G gc_NoBlock, ⟨⟨_, _, _, _, _, _, _, _, _, _, _, _, _, _, _, xl_NoBlock, vb_NoBlock⟩, sa_NoBlock, ec_NoBlock, tc_NoBlock, kc_NoBlock⟩, no_NoBlock, ic_NoBlock, ti_NoBlock, (fun_mk (st := s_NoBlock_init) l34 c34 k34).binds (ps := ["self", "block"]) fun _ _ _ _ _ _ us hl => match us, hl with | [_, _], _ => rfl, ⟨ga_NoBlock, gg_NoBlock, ec_NoBlock, hd_NoBlock⟩, ⟨ga_NoBlock, gg_NoBlock, ec_NoBlock, hd_NoBlock, ha_NoBlock, hn0, ht0, hm_NoBlock⟩, PySem.W.exm_ref ec_NoBlock hd_NoBlock tc_NoBlock ss_NoBlock⟩,
      F_NoSlot_init := fun_mk (st := s_NoSlot_init) l35 c35 k35,
      x_NoSlot := ⟨PySem.W.mg_of X G gc_NoSlot, ⟨⟨_, _, _, _, _, _, _, _, _, _, _, _, _, _, _, xl_NoSlot, vb_NoSlot⟩, sa_NoSlot, ec_NoSlot, tc_NoSlot, kc_NoSlot⟩, no_NoSlot, ic_NoSlot, ti_NoSlot, (fun_mk (st := s_NoSlot_init) l35 c35 k35).binds (ps := ["self", "slot"]) fun _ _ _ _ _ _ us hl => match us, hl with | [_, _], _ => rfl, ⟨ga_NoSlot, gg_NoSlot, ec_NoSlot, hd_NoSlot⟩, ⟨ga_NoSlot, gg_NoSlot, ec_NoSlot, hd_NoSlot, ha_NoSlot, hn0, ht0, hm_NoSlot⟩, PySem.W.exm_ref ec_NoSlot hd_NoSlot tc_NoSlot ss_NoSlot⟩,
      F_BadPower_init := fun_mk (st := s_BadPower_init) l36 c36 k36,
      x_BadPower := ⟨PySem.W.mg_of X G gc_BadPower, ⟨⟨_, _, _, _, _, _, _, _, _, _, _, _, _, _, _, xl_BadPower, vb_BadPower⟩, sa_BadPower, ec_BadPower, tc_BadPower, kc_BadPower⟩, no_BadPower, ic_BadPower, ti_BadPower, (fun_mk (st := s_BadPower_init) l36 c36 k36).binds (ps := ["self", "power"]) fun _ _ _ _ _ _ us hl => match us, hl with | [_, _], _ => rfl, ⟨ga_BadPower, gg_BadPower, ec_BadPower, hd_BadPower⟩, ⟨ga_BadPower, gg_BadPower, ec_BadPower, hd_BadPower, ha_BadPower, hn0, ht0, hm_BadPower⟩, PySem.W.exm_ref ec_BadPower hd_BadPower tc_BadPower ss_BadPower⟩,
      F_PowerLost_init := fun_mk (st := s_PowerLost_init) l37 c37 k37,
      x_PowerLost := ⟨PySem.W.mg_of X G gc_PowerLost, ⟨⟨_, _, _, _, _, _, _, _, _, _, _, _, _, _, _, xl_PowerLost, vb_PowerLost⟩, sa_PowerLost, ec_PowerLost, tc_PowerLost, kc_PowerLost⟩, no_PowerLost, ic_PowerLost, ti_PowerLost, (fun_mk (st := s_PowerLost_init) l37 c37 k37).binds (ps := ["self", "seen"]) fun _ _ _ _ _ _ us hl => match us, hl with | [_, _], _ => rfl, ⟨ga_PowerLost, gg_PowerLost, ec_PowerLost, hd_PowerLost⟩, ⟨ga_PowerLost, gg_PowerLost, ec_PowerLost, hd_PowerLost, ha_PowerLost, hn0, ht0, hm_PowerLost⟩, PySem.W.exm_ref ec_PowerLost hd_PowerLost tc_PowerLost ss_PowerLost⟩,
      F_Flash_init := fun_mk (st := s_Flash_init) l38 c38 k38,
      b_Flash_init := (fun_mk (st := s_Flash_init) l38 c38 k38).binds (ps := ["self"]) fun _ _ _ _ _ _ us hl => match us, hl with | [_], _ => rfl,
      m_Flash := ⟨mk_Flash, ic_Flash_init, fn_Flash_init, kp_Flash⟩,
      F_Flash_getitem := fun_mk (st := s_Flash_getitem) l39 c39 k39,
      b_Flash_getitem := (fun_mk (st := s_Flash_getitem) l39 c39 k39).binds (ps := ["self", "at"]) fun _ _ _ _ _ _ us hl => match us, hl with | [_, _], _ => rfl,
      o_Flash_getitem := ⟨ic_Flash_getitem, fn_Flash_getitem⟩,
      fi_Flash_getitem := fi_Flash_getitem,
      F_Flash_setitem := fun_mk (st := s_Flash_setitem) l40 c40 k40,
      b_Flash_setitem := (fun_mk (st := s_Flash_setitem) l40 c40 k40).binds (ps := ["self", "at", "worth"]) fun _ _ _ _ _ _ us hl => match us, hl with | [_, _, _], _ => rfl,
      o_Flash_setitem := ⟨ic_Flash_setitem, fn_Flash_setitem⟩,
      ns_Flash := ns_Flash,
      F_Flash_erase := fun_mk (st := s_Flash_erase) l41 c41 k41,
      b_Flash_erase := (fun_mk (st := s_Flash_erase) l41 c41 k41).binds (ps := ["self", "block"]) fun _ _ _ _ _ _ us hl => match us, hl with | [_, _], _ => rfl,
      me_Flash_erase := ⟨ic_Flash_erase, fn_Flash_erase, k41⟩,
      F_Flash_slot_words := fun_mk (st := s_Flash_slot_words) l42 c42 k42,
      b_Flash_slot_words := (fun_mk (st := s_Flash_slot_words) l42 c42 k42).binds (ps := ["self", "slot"]) fun _ _ _ _ _ _ us hl => match us, hl with | [_, _], _ => rfl,
      me_Flash_slot_words := ⟨ic_Flash_slot_words, fn_Flash_slot_words, k42⟩,
      F_Flash_block_words := fun_mk (st := s_Flash_block_words) l43 c43 k43,
      b_Flash_block_words := (fun_mk (st := s_Flash_block_words) l43 c43 k43).binds (ps := ["self", "block"]) fun _ _ _ _ _ _ us hl => match us, hl with | [_, _], _ => rfl,
      me_Flash_block_words := ⟨ic_Flash_block_words, fn_Flash_block_words, k43⟩,
      F_Flash_put_in := fun_mk (st := s_Flash_put_in) l44 c44 k44,
      b_Flash_put_in := (fun_mk (st := s_Flash_put_in) l44 c44 k44).binds (ps := ["self", "page", "words"]) fun _ _ _ _ _ _ us hl => match us, hl with | [_, _, _], _ => rfl,
      me_Flash_put_in := ⟨ic_Flash_put_in, fn_Flash_put_in, k44⟩,
      F_Power_init := fun_mk (st := s_Power_init) l45 c45 k45,
      b_Power_init := (fun_mk (st := s_Power_init) l45 c45 k45).binds (ps := ["self", "flash", "units"]) fun _ _ _ _ _ _ us hl => match us, hl with | [_, _, _], _ => rfl,
      m_Power := ⟨mk_Power, ic_Power_init, fn_Power_init, kp_Power⟩,
      cl_Flash := ⟨pg_Flash, hd_Flash, po_Flash, sa_Flash⟩,
      na_Flash_pages := na_Flash_pages,
      na_Flash_left := na_Flash_left,
      cl_Power := ⟨pg_Power, hd_Power, po_Power, sa_Power⟩,
      na_Power_flash := na_Power_flash,
      na_Power_units := na_Power_units,
      g_TooLong := PySem.W.mg_of X G gc_TooLong,
      g_NoPage := PySem.W.mg_of X G gc_NoPage,
      g_Written := PySem.W.mg_of X G gc_Written,
      g_NoBlock := PySem.W.mg_of X G gc_NoBlock,
      g_NoSlot := PySem.W.mg_of X G gc_NoSlot,
      g_BadPower := PySem.W.mg_of X G gc_BadPower,
      g_PowerLost := PySem.W.mg_of X G gc_PowerLost,
      g_RomError := PySem.W.mg_of X G gc_RomError,
      g_Flash := PySem.W.mg_of X G gc_Flash,
      g_Power := PySem.W.mg_of X G gc_Power,
      g_BLANK := PySem.W.mg_of X G gc_BLANK,
      g_PAGES := PySem.W.mg_of X G gc_PAGES,
      g_PAGE_WORDS := PySem.W.mg_of X G gc_PAGE_WORDS,
      g_BLOCKS := PySem.W.mg_of X G gc_BLOCKS,
      g_BLOCK_PAGES := PySem.W.mg_of X G gc_BLOCK_PAGES,
      g_SLOT_PAGES := PySem.W.mg_of X G gc_SLOT_PAGES,
      g_BLANK_PAGE := PySem.W.mg_of X G gc_BLANK_PAGE,
      q_BLANK_PAGE := .inr ⟨_, _, _, q_BLANK_PAGE, rfl, rfl, by rw [← Array.length_toList, ← Vals.length qv_BLANK_PAGE]; exact lenOk (n := 16) rfl (by decide), qv_BLANK_PAGE⟩,
      y_BLANK_PAGE := ⟨_, q_BLANK_PAGE, rfl, rfl⟩,
      k_NoPage_RomError := ki_NoPage_RomError,
      k_NoBlock_RomError := ki_NoBlock_RomError,
      k_TooLong_RomError := ki_TooLong_RomError,
      k_Written_RomError := ki_Written_RomError,
      k_PowerLost_RomError := ki_PowerLost_RomError,
      k_PowerLost_ValueError := ki_PowerLost_ValueError,
      e_NoBlock_NoPage := PySem.W.exm_ref ec_NoPage hd_NoPage tc_NoPage se_NoBlock_NoPage,
      e_TooLong_NoPage := PySem.W.exm_ref ec_NoPage hd_NoPage tc_NoPage se_TooLong_NoPage,
      e_TooLong_NoBlock := PySem.W.exm_ref ec_NoBlock hd_NoBlock tc_NoBlock se_TooLong_NoBlock,
      e_Written_NoPage := PySem.W.exm_ref ec_NoPage hd_NoPage tc_NoPage se_Written_NoPage,
      e_Written_NoBlock := PySem.W.exm_ref ec_NoBlock hd_NoBlock tc_NoBlock se_Written_NoBlock,
      e_Written_TooLong := PySem.W.exm_ref ec_TooLong hd_TooLong tc_TooLong se_Written_TooLong,
      e_PowerLost_NoPage := PySem.W.exm_ref ec_NoPage hd_NoPage tc_NoPage se_PowerLost_NoPage,
      e_PowerLost_NoBlock := PySem.W.exm_ref ec_NoBlock hd_NoBlock tc_NoBlock se_PowerLost_NoBlock,
      e_PowerLost_TooLong := PySem.W.exm_ref ec_TooLong hd_TooLong tc_TooLong se_PowerLost_TooLong,
      e_PowerLost_Written := PySem.W.exm_ref ec_Written hd_Written tc_Written se_PowerLost_Written,
      e_NoSlot_NoPage := PySem.W.exm_ref ec_NoPage hd_NoPage tc_NoPage se_NoSlot_NoPage,
      e_NoBlock_NoSlot := PySem.W.exm_ref ec_NoSlot hd_NoSlot tc_NoSlot se_NoBlock_NoSlot,
      e_BadPower_NoPage := PySem.W.exm_ref ec_NoPage hd_NoPage tc_NoPage se_BadPower_NoPage,
      e_BadPower_NoSlot := PySem.W.exm_ref ec_NoSlot hd_NoSlot tc_NoSlot se_BadPower_NoSlot,
      e_BadPower_NoBlock := PySem.W.exm_ref ec_NoBlock hd_NoBlock tc_NoBlock se_BadPower_NoBlock,
      n_ValueError := PySem.W.mg_none_of X G z_ValueError,
      n_abs := PySem.W.mg_none_of X G z_abs,
      n_bool := PySem.W.mg_none_of X G z_bool,
      n_enumerate := PySem.W.mg_none_of X G z_enumerate,
      n_int := PySem.W.mg_none_of X G z_int,
      n_isinstance := PySem.W.mg_none_of X G z_isinstance,
      n_len := PySem.W.mg_none_of X G z_len,
      n_list := PySem.W.mg_none_of X G z_list,
      n_min := PySem.W.mg_none_of X G z_min,
      n_range := PySem.W.mg_none_of X G z_range,
      n_tuple := PySem.W.mg_none_of X G z_tuple }
  exact ⟨(PySem.W.fnOf "law" "law" (defArgs s_law) (defBody s_law) (defScope s_law) .none kV30 dc30 pm30 an30 cd30 ct30), fun s v => .of_eq rfl, fun base _ _ => ok_law T⟩
end R1
open PySem PySem.W PyProof.Rows
set_option maxHeartbeats 0 in
theorem PySem.Challenge.cw_romwright_k65_flash_and_power_holds : PySem.Challenge.rw_romwright_k65_flash_and_power.Holds := by
  w_on; o_law; k_head; (case hw => w_witness2)
  k_fill
  refine L2.walk_of (l := PySem.Challenge.rw_romwright_k65_flash_and_power) (n := 63) (k := 12) (x := "_law_script") (CX := fun _ => L2.CX0) (sp := fun w => R1.spLaw _) rfl (by decide) rfl ⟨rfl, by decide, by decide⟩ (fun w h Y => PySem.W.kIn_of Y) ?F (fun _ _ a ns hl _ hS => ⟨a, ns, rfl, hS, hl, fun _ => rfl⟩) (fun _ _ _ _ _ h => h)
  case F =>
    intro w mg fa h KX G hmg
    refine' R1.all_mk KX G hmg ?a1 ?l1 ?c1 ?k1 ?a2 ?l2 ?c2 ?k2 ?a3 ?l3 ?c3 ?k3 ?a4 ?l4 ?c4 ?k4 ?a5 ?l5 ?c5 ?k5 ?a6 ?l6 ?c6 ?k6 ?a7 ?l7 ?c7 ?k7 ?a8 ?l8 ?c8 ?k8 ?a9 ?l9 ?c9 ?k9 ?a10 ?l10 ?c10 ?k10 ?a11 ?l11 ?c11 ?k11 ?a12 ?l12 ?c12 ?k12 ?a13 ?l13 ?c13 ?k13 ?a14 ?l14 ?c14 ?k14 ?a15 ?l15 ?c15 ?k15 ?a16 ?l16 ?c16 ?k16 ?a17 ?l17 ?c17 ?k17 ?a18 ?l18 ?c18 ?k18 ?a19 ?l19 ?c19 ?k19 ?a20 ?l20 ?c20 ?k20 ?a21 ?l21 ?c21 ?k21 ?a22 ?l22 ?c22 ?k22 ?a23 ?l23 ?c23 ?k23 ?a24 ?l24 ?c24 ?k24 ?a25 ?l25 ?c25 ?k25 ?a26 ?l26 ?c26 ?k26 ?a27 ?l27 ?c27 ?k27 ?a28 ?l28 ?c28 ?k28 ?a29 ?l29 ?c29 ?k29 ?a30 ?l30 ?c30 ?k30 ?l31 ?c31 ?k31 ?l32 ?c32 ?k32 ?l33 ?c33 ?k33 ?l34 ?c34 ?k34 ?l35 ?c35 ?k35 ?l36 ?c36 ?k36 ?l37 ?c37 ?k37 ?l38 ?c38 ?k38 ?l39 ?c39 ?k39 ?l40 ?c40 ?k40 ?l41 ?c41 ?k41 ?l42 ?c42 ?k42 ?l43 ?c43 ?k43 ?l44 ?c44 ?k44 ?l45 ?c45 ?k45 ?gc_TooLong ?xl_TooLong ?vb_TooLong ?sa_TooLong ?ec_TooLong ?tc_TooLong ?kc_TooLong ?no_TooLong ?ic_TooLong ?ti_TooLong ?ga_TooLong ?gg_TooLong ?hd_TooLong ?ha_TooLong ?hm_TooLong ?ss_TooLong ?gc_NoPage ?xl_NoPage ?vb_NoPage ?sa_NoPage ?ec_NoPage ?tc_NoPage ?kc_NoPage ?no_NoPage ?ic_NoPage ?ti_NoPage ?ga_NoPage ?gg_NoPage ?hd_NoPage ?ha_NoPage ?hm_NoPage ?ss_NoPage ?gc_Written ?xl_Written ?vb_Written ?sa_Written ?ec_Written ?tc_Written ?kc_Written ?no_Written ?ic_Written ?ti_Written ?ga_Written ?gg_Written ?hd_Written ?ha_Written ?hm_Written ?ss_Written ?gc_NoBlock ?xl_NoBlock ?vb_NoBlock ?sa_NoBlock ?ec_NoBlock ?tc_NoBlock ?kc_NoBlock ?no_NoBlock ?ic_NoBlock ?ti_NoBlock ?ga_NoBlock ?gg_NoBlock ?hd_NoBlock ?ha_NoBlock ?hm_NoBlock ?ss_NoBlock ?gc_NoSlot ?xl_NoSlot ?vb_NoSlot ?sa_NoSlot ?ec_NoSlot ?tc_NoSlot ?kc_NoSlot ?no_NoSlot ?ic_NoSlot ?ti_NoSlot ?ga_NoSlot ?gg_NoSlot ?hd_NoSlot ?ha_NoSlot ?hm_NoSlot ?ss_NoSlot ?gc_BadPower ?xl_BadPower ?vb_BadPower ?sa_BadPower ?ec_BadPower ?tc_BadPower ?kc_BadPower ?no_BadPower ?ic_BadPower ?ti_BadPower ?ga_BadPower ?gg_BadPower ?hd_BadPower ?ha_BadPower ?hm_BadPower ?ss_BadPower ?gc_PowerLost ?xl_PowerLost ?vb_PowerLost ?sa_PowerLost ?ec_PowerLost ?tc_PowerLost ?kc_PowerLost ?no_PowerLost ?ic_PowerLost ?ti_PowerLost ?ga_PowerLost ?gg_PowerLost ?hd_PowerLost ?ha_PowerLost ?hm_PowerLost ?ss_PowerLost ?hn0 ?ht0 ?gc_RomError ?gc_Flash ?gc_Power ?ic_Flash_init ?fn_Flash_init ?mk_Flash ?kp_Flash ?ic_Flash_getitem ?fn_Flash_getitem ?fi_Flash_getitem ?ic_Flash_setitem ?fn_Flash_setitem ?ns_Flash ?ic_Flash_erase ?fn_Flash_erase ?ic_Flash_slot_words ?fn_Flash_slot_words ?ic_Flash_block_words ?fn_Flash_block_words ?ic_Flash_put_in ?fn_Flash_put_in ?ic_Power_init ?fn_Power_init ?mk_Power ?kp_Power ?pg_Flash ?hd_Flash ?po_Flash ?sa_Flash ?na_Flash_pages ?na_Flash_left ?pg_Power ?hd_Power ?po_Power ?sa_Power ?na_Power_flash ?na_Power_units ?gc_BLANK ?gc_PAGES ?gc_PAGE_WORDS ?gc_BLOCKS ?gc_BLOCK_PAGES ?gc_SLOT_PAGES ?gc_BLANK_PAGE ?q_BLANK_PAGE ?qv_BLANK_PAGE ?ki_NoPage_RomError ?ki_NoBlock_RomError ?ki_TooLong_RomError ?ki_Written_RomError ?ki_PowerLost_RomError ?ki_PowerLost_ValueError ?se_NoBlock_NoPage ?se_TooLong_NoPage ?se_TooLong_NoBlock ?se_Written_NoPage ?se_Written_NoBlock ?se_Written_TooLong ?se_PowerLost_NoPage ?se_PowerLost_NoBlock ?se_PowerLost_TooLong ?se_PowerLost_Written ?se_NoSlot_NoPage ?se_NoBlock_NoSlot ?se_BadPower_NoPage ?se_BadPower_NoSlot ?se_BadPower_NoBlock ?z_ValueError ?z_abs ?z_bool ?z_enumerate ?z_int ?z_isinstance ?z_len ?z_list ?z_min ?z_range ?z_tuple
    (case a1 => k_is)
    (case a2 => k_is)
    (case a3 => k_is)
    (case a4 => k_is)
    (case a5 => k_is)
    (case a6 => k_is)
    (case a7 => k_is)
    (case a8 => k_is)
    (case a9 => k_is)
    (case a10 => k_is)
    (case a11 => k_is)
    (case a12 => k_is)
    (case a13 => k_is)
    (case a14 => k_is)
    (case a15 => k_is)
    (case a16 => k_is)
    (case a17 => k_is)
    (case a18 => k_is)
    (case a19 => k_is)
    (case a20 => k_is)
    (case a21 => k_is)
    (case a22 => k_is)
    (case a23 => k_is)
    (case a24 => k_is)
    (case a25 => k_is)
    (case a26 => k_is)
    (case a27 => k_is)
    (case a28 => k_is)
    (case a29 => k_is)
    (case a30 => k_is)
    (case gc_TooLong => k_is)
    (case gc_NoPage => k_is)
    (case gc_Written => k_is)
    (case gc_NoBlock => k_is)
    (case gc_NoSlot => k_is)
    (case gc_BadPower => k_is)
    (case gc_PowerLost => k_is)
    (case gc_RomError => k_is)
    (case gc_Flash => k_is)
    (case gc_Power => k_is)
    (case gc_BLANK => k_is)
    (case gc_PAGES => k_is)
    (case gc_PAGE_WORDS => k_is)
    (case gc_BLOCKS => k_is)
    (case gc_BLOCK_PAGES => k_is)
    (case gc_SLOT_PAGES => k_is)
    (case gc_BLANK_PAGE => k_is)
    (case ic_TooLong => k_is)
    (case ic_NoPage => k_is)
    (case ic_Written => k_is)
    (case ic_NoBlock => k_is)
    (case ic_NoSlot => k_is)
    (case ic_BadPower => k_is)
    (case ic_PowerLost => k_is)
    (case ic_Flash_init => k_is)
    (case ic_Flash_getitem => k_is)
    (case ic_Flash_setitem => k_is)
    (case ic_Flash_erase => k_is)
    (case ic_Flash_slot_words => k_is)
    (case ic_Flash_block_words => k_is)
    (case ic_Flash_put_in => k_is)
    (case ic_Power_init => k_is)
    (case l1 => k_is)
    (case c1 => k_is)
    (case k1 => k_is)
    (case l2 => k_is)
    (case c2 => k_is)
    (case k2 => k_is)
    (case l3 => k_is)
    (case c3 => k_is)
    (case k3 => k_is)
    (case l4 => k_is)
    (case c4 => k_is)
    (case k4 => k_is)
    (case l5 => k_is)
    (case c5 => k_is)
    (case k5 => k_is)
    (case l6 => k_is)
    (case c6 => k_is)
    (case k6 => k_is)
    (case l7 => k_is)
    (case c7 => k_is)
    (case k7 => k_is)
    (case l8 => k_is)
    (case c8 => k_is)
    (case k8 => k_is)
    (case l9 => k_is)
    (case c9 => k_is)
    (case k9 => k_is)
    (case l10 => k_is)
    (case c10 => k_is)
    (case k10 => k_is)
    (case l11 => k_is)
    (case c11 => k_is)
    (case k11 => k_is)
    (case l12 => k_is)
    (case c12 => k_is)
    (case k12 => k_is)
    (case l13 => k_is)
    (case c13 => k_is)
    (case k13 => k_is)
    (case l14 => k_is)
    (case c14 => k_is)
    (case k14 => k_is)
    (case l15 => k_is)
    (case c15 => k_is)
    (case k15 => k_is)
    (case l16 => k_is)
    (case c16 => k_is)
    (case k16 => k_is)
    (case l17 => k_is)
    (case c17 => k_is)
    (case k17 => k_is)
    (case l18 => k_is)
    (case c18 => k_is)
    (case k18 => k_is)
    (case l19 => k_is)
    (case c19 => k_is)
    (case k19 => k_is)
    (case l20 => k_is)
    (case c20 => k_is)
    (case k20 => k_is)
    (case l21 => k_is)
    (case c21 => k_is)
    (case k21 => k_is)
    (case l22 => k_is)
    (case c22 => k_is)
    (case k22 => k_is)
    (case l23 => k_is)
    (case c23 => k_is)
    (case k23 => k_is)
    (case l24 => k_is)
    (case c24 => k_is)
    (case k24 => k_is)
    (case l25 => k_is)
    (case c25 => k_is)
    (case k25 => k_is)
    (case l26 => k_is)
    (case c26 => k_is)
    (case k26 => k_is)
    (case l27 => k_is)
    (case c27 => k_is)
    (case k27 => k_is)
    (case l28 => k_is)
    (case c28 => k_is)
    (case k28 => k_is)
    (case l29 => k_is)
    (case c29 => k_is)
    (case k29 => k_is)
    (case l30 => k_is)
    (case c30 => k_is)
    (case k30 => k_is)
    (case l31 => k_is)
    (case c31 => k_is)
    (case k31 => k_is)
    (case l32 => k_is)
    (case c32 => k_is)
    (case k32 => k_is)
    (case l33 => k_is)
    (case c33 => k_is)
    (case k33 => k_is)
    (case l34 => k_is)
    (case c34 => k_is)
    (case k34 => k_is)
    (case l35 => k_is)
    (case c35 => k_is)
    (case k35 => k_is)
    (case l36 => k_is)
    (case c36 => k_is)
    (case k36 => k_is)
    (case l37 => k_is)
    (case c37 => k_is)
    (case k37 => k_is)
    (case l38 => k_is)
    (case c38 => k_is)
    (case k38 => k_is)
    (case l39 => k_is)
    (case c39 => k_is)
    (case k39 => k_is)
    (case l40 => k_is)
    (case c40 => k_is)
    (case k40 => k_is)
    (case l41 => k_is)
    (case c41 => k_is)
    (case k41 => k_is)
    (case l42 => k_is)
    (case c42 => k_is)
    (case k42 => k_is)
    (case l43 => k_is)
    (case c43 => k_is)
    (case k43 => k_is)
    (case l44 => k_is)
    (case c44 => k_is)
    (case k44 => k_is)
    (case l45 => k_is)
    (case c45 => k_is)
    (case k45 => k_is)
    (case xl_TooLong => k_is)
    (case vb_TooLong => first | k_is | decide +kernel)
    (case sa_TooLong => k_is)
    (case ec_TooLong => k_is)
    (case tc_TooLong => k_is)
    (case kc_TooLong => k_is)
    (case no_TooLong => k_is)
    (case ti_TooLong => k_is)
    (case ga_TooLong => k_is)
    (case gg_TooLong => k_is)
    (case hd_TooLong => k_is)
    (case ha_TooLong => k_is)
    (case hm_TooLong => k_is)
    (case ss_TooLong => k_is)
    (case xl_NoPage => k_is)
    (case vb_NoPage => first | k_is | decide +kernel)
    (case sa_NoPage => k_is)
    (case ec_NoPage => k_is)
    (case tc_NoPage => k_is)
    (case kc_NoPage => k_is)
    (case no_NoPage => k_is)
    (case ti_NoPage => k_is)
    (case ga_NoPage => k_is)
    (case gg_NoPage => k_is)
    (case hd_NoPage => k_is)
    (case ha_NoPage => k_is)
    (case hm_NoPage => k_is)
    (case ss_NoPage => k_is)
    (case xl_Written => k_is)
    (case vb_Written => first | k_is | decide +kernel)
    (case sa_Written => k_is)
    (case ec_Written => k_is)
    (case tc_Written => k_is)
    (case kc_Written => k_is)
    (case no_Written => k_is)
    (case ti_Written => k_is)
    (case ga_Written => k_is)
    (case gg_Written => k_is)
    (case hd_Written => k_is)
    (case ha_Written => k_is)
    (case hm_Written => k_is)
    (case ss_Written => k_is)
    (case xl_NoBlock => k_is)
    (case vb_NoBlock => first | k_is | decide +kernel)
    (case sa_NoBlock => k_is)
    (case ec_NoBlock => k_is)
    (case tc_NoBlock => k_is)
    (case kc_NoBlock => k_is)
    (case no_NoBlock => k_is)
    (case ti_NoBlock => k_is)
    (case ga_NoBlock => k_is)
    (case gg_NoBlock => k_is)
    (case hd_NoBlock => k_is)
    (case ha_NoBlock => k_is)
    (case hm_NoBlock => k_is)
    (case ss_NoBlock => k_is)
    (case xl_NoSlot => k_is)
    (case vb_NoSlot => first | k_is | decide +kernel)
    (case sa_NoSlot => k_is)
    (case ec_NoSlot => k_is)
    (case tc_NoSlot => k_is)
    (case kc_NoSlot => k_is)
    (case no_NoSlot => k_is)
    (case ti_NoSlot => k_is)
    (case ga_NoSlot => k_is)
    (case gg_NoSlot => k_is)
    (case hd_NoSlot => k_is)
    (case ha_NoSlot => k_is)
    (case hm_NoSlot => k_is)
    (case ss_NoSlot => k_is)
    (case xl_BadPower => k_is)
    (case vb_BadPower => first | k_is | decide +kernel)
    (case sa_BadPower => k_is)
    (case ec_BadPower => k_is)
    (case tc_BadPower => k_is)
    (case kc_BadPower => k_is)
    (case no_BadPower => k_is)
    (case ti_BadPower => k_is)
    (case ga_BadPower => k_is)
    (case gg_BadPower => k_is)
    (case hd_BadPower => k_is)
    (case ha_BadPower => k_is)
    (case hm_BadPower => k_is)
    (case ss_BadPower => k_is)
    (case xl_PowerLost => k_is)
    (case vb_PowerLost => first | k_is | decide +kernel)
    (case sa_PowerLost => k_is)
    (case ec_PowerLost => k_is)
    (case tc_PowerLost => k_is)
    (case kc_PowerLost => k_is)
    (case no_PowerLost => k_is)
    (case ti_PowerLost => k_is)
    (case ga_PowerLost => k_is)
    (case gg_PowerLost => k_is)
    (case hd_PowerLost => k_is)
    (case ha_PowerLost => k_is)
    (case hm_PowerLost => k_is)
    (case ss_PowerLost => k_is)
    (case hn0 => k_is)
    (case ht0 => k_is)
    (case fn_Flash_init => k_is)
    (case mk_Flash => k_is)
    (case kp_Flash => k_is)
    (case fn_Flash_getitem => k_is)
    (case fi_Flash_getitem => k_is)
    (case fn_Flash_setitem => k_is)
    (case ns_Flash => k_is)
    (case fn_Flash_erase => k_is)
    (case fn_Flash_slot_words => k_is)
    (case fn_Flash_block_words => k_is)
    (case fn_Flash_put_in => k_is)
    (case fn_Power_init => k_is)
    (case mk_Power => k_is)
    (case kp_Power => k_is)
    (case pg_Flash => k_is)
    (case hd_Flash => k_is)
    (case po_Flash => k_is)
    (case sa_Flash => k_is)
    (case na_Flash_pages => k_is)
    (case na_Flash_left => k_is)
    (case pg_Power => k_is)
    (case hd_Power => k_is)
    (case po_Power => k_is)
    (case sa_Power => k_is)
    (case na_Power_flash => k_is)
    (case na_Power_units => k_is)
    (case q_BLANK_PAGE => k_is)
    (case qv_BLANK_PAGE => repeat (first | exact .nil | refine .cons (by first | exact ⟨_, rfl⟩ | rfl) ?_))
    (case ki_NoPage_RomError => first | k_is | kit_is | decide +kernel)
    (case ki_NoBlock_RomError => first | k_is | kit_is | decide +kernel)
    (case ki_TooLong_RomError => first | k_is | kit_is | decide +kernel)
    (case ki_Written_RomError => first | k_is | kit_is | decide +kernel)
    (case ki_PowerLost_RomError => first | k_is | kit_is | decide +kernel)
    (case ki_PowerLost_ValueError => first | k_is | kit_is | decide +kernel)
    (case se_NoBlock_NoPage => k_is)
    (case se_TooLong_NoPage => k_is)
    (case se_TooLong_NoBlock => k_is)
    (case se_Written_NoPage => k_is)
    (case se_Written_NoBlock => k_is)
    (case se_Written_TooLong => k_is)
    (case se_PowerLost_NoPage => k_is)
    (case se_PowerLost_NoBlock => k_is)
    (case se_PowerLost_TooLong => k_is)
    (case se_PowerLost_Written => k_is)
    (case se_NoSlot_NoPage => k_is)
    (case se_NoBlock_NoSlot => k_is)
    (case se_BadPower_NoPage => k_is)
    (case se_BadPower_NoSlot => k_is)
    (case se_BadPower_NoBlock => k_is)
    (case z_ValueError => k_is)
    (case z_abs => k_is)
    (case z_bool => k_is)
    (case z_enumerate => k_is)
    (case z_int => k_is)
    (case z_isinstance => k_is)
    (case z_len => k_is)
    (case z_list => k_is)
    (case z_min => k_is)
    (case z_range => k_is)
    (case z_tuple => k_is)

