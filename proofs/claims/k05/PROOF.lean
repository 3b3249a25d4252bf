import PyProof.Rows.All
import Wide.All
import OpenK.AllK
import Wide.FinOn
import HandS.ForMost
import HandS.Wide
import HandS.IsInst
import HandS.Flow
import HandS.Codes
import HandS.StrMore
import HandS.Walk
import HandS.Style
import HandS.Exc
import HandS.DictComp
import HandS.TupAny
import HandS.More
import HandS.SortInts
import HandS.ExcInit
import HandS.ExcField
import HandS.ExcCtx
import HandS.HotCalls
import HandS.ExcInitHot
import HandS.ExcIs
import HandS.Deep
import HandS.Remove
import KE.DataFind
import PySem.Challenge.RW_lenstree_k05_condition_columns
set_option Elab.async false
set_option linter.all false
set_option maxRecDepth 100000
set_option maxHeartbeats 4000000
set_option autoImplicit false
set_option autoImplicit false
namespace Lt
open PySem L2 TL
open C8 (pss_cut)
/-! ## what every law of Lenstree leans on -/
/-- a def that has been walked: how it is called -/
structure Cal (P : Program) (w : World) (K : PySem.W.Frag) (mg : Str → Option Value) (base : Heap) (n : Nat) (x : Str) (ps : List Str) (sp : Sp) (g : Addr) (gd : FuncData) : Prop where
  G : FnOk P w K mg base CX0 n g gd ps sp
  m : mg x = some (.ref g)
  kp : PySem.W.keepIn K (.ref g) = true
  b : Binds K gd ps []
/-- a def as the top has made it -/
structure Kn (K : PySem.W.Frag) (mg : Str → Option Value) (x : Str) (st : Stmt) (ps : List Str) (g : Addr) (gd : FuncData) : Prop where
  F : Fun K x x st g gd
  b : Binds K gd ps []
  m : mg x = some (.ref g)
theorem Kn.cal {P : Program} {w : World} {K : PySem.W.Frag} {mg : Str → Option Value} {base : Heap} {n : Nat} {x : Str} {st : Stmt} {ps : List Str} {sp : Sp} {g : Addr} {gd : FuncData}
    (k : Kn K mg x st ps g gd) (G : FnOk P w K mg base CX0 n g gd ps sp) : Cal P w K mg base n x ps sp g gd := ⟨G, k.m, k.F.kp, k.b⟩

/-! ### heaps that differ at one place -/
def SameX (t : Addr) (H H' : Hp) : Prop := ∀ b o, H b = some o → b ≠ t → H' b = some o
theorem SameX.refl (t : Addr) (H : Hp) : SameX t H H := fun _ _ h _ => h
theorem SameX.trans {t : Addr} {H H1 H2 : Hp} (a : SameX t H H1) (b : SameX t H1 H2) : SameX t H H2 := fun c o h n => b c o (a c o h n) n
theorem SameX.of {t : Addr} {H H1 : Hp} (a : Same H H1) : SameX t H H1 := fun c o h _ => a c o h
theorem SameX.upd {t : Addr} {H : Hp} (o : HO) : SameX t H (upd H t o) := fun b u h n => by rw [upd_ne n]; exact h
theorem same_new {H : Hp} {p : Addr} (h : H p = none) (o : HO) : Same H (upd H p o) := fun b u q => by rw [upd_ne (ne_of_none q h)]; exact q
theorem SameX.free {t : Addr} {H H' : Hp} (e : SameX t H H') {l : Addr} (hl : l ≠ t) (h : H' l = none) : H l = none := by
  cases q : H l with
  | none => rfl
  | some o => rw [e l o q hl] at h; cases h

theorem iteDT {c A B : Prop} [Decidable c] (hc : c) (h : A) : if decide c = true then A else B := by
  rw [decide_eq_true hc]; exact iteT h
theorem iteDF {c A B : Prop} [Decidable c] (hc : ¬ c) (h : B) : if decide c = true then A else B := by
  rw [decide_eq_false hc]; exact iteF h
theorem iteNF {c A B : Prop} [Decidable c] (hc : ¬ c) (h : A) : if (!decide c) = true then A else B := by
  rw [decide_eq_false hc]; exact iteT h
theorem ifD {c A B : Prop} [Decidable c] (h1 : c → A) (h2 : ¬ c → B) : if decide c = true then A else B := by
  by_cases h : c
  · exact iteDT h (h1 h)
  · exact iteDF h (h2 h)
theorem ifN {c A B : Prop} [Decidable c] (h1 : ¬ c → A) (h2 : c → B) : if (!decide c) = true then A else B := by
  by_cases h : c
  · exact iteNS h (h2 h)
  · exact iteNF h (h1 h)
theorem bl_T {c : Prop} [Decidable c] {Q : VK} {H : Hp} (hc : c) (h : Q (.bl true) H) : Q (.bl (decide c)) H := by rw [decide_eq_true hc]; exact h
theorem bl_F {c : Prop} [Decidable c] {Q : VK} {H : Hp} (hc : ¬ c) (h : Q (.bl false) H) : Q (.bl (decide c)) H := by rw [decide_eq_false hc]; exact h
theorem int_at {ns : List Int} {i : Nat} {x : V} (h : (ns.map V.int)[i]? = some x) : ∃ z, x = V.int z ∧ ns[i]? = some z := by
  rw [List.getElem?_map] at h
  cases e : ns[i]? with
  | none => rw [e] at h; cases h
  | some z => rw [e] at h; exact ⟨z, (Option.some.inj h).symm, rfl⟩
theorem same_upd {H H1 : Hp} {p : Addr} (h : H p = none) (o : HO) (e : Same H H1) : Same H (upd H1 p o) := fun b u q => by rw [upd_ne (ne_of_none q h)]; exact e _ _ q
theorem samex_upd {t : Addr} {H H1 : Hp} {p : Addr} (h : H p = none) (o : HO) (e : SameX t H H1) : SameX t H (upd H1 p o) := fun b u q n => by rw [upd_ne (ne_of_none q h)]; exact e _ _ q n
/-- isinstance(x, T) -/
theorem isi {K : PySem.W.Frag} {H : Hp} {Q : VK} {x : V} {a b : String} (r : Bool) (hT : TyX K H x (.type a)) (h : kitB a b = some r) (q : Q (.bl r) H) : rIsi K [x, .ty b] H Q :=
  ⟨_, _, _, _, r, rfl, .ty _, hT, kit_ty h, q⟩
/-- xs[i] of a list or a tuple -/
theorem ixq {K : PySem.W.Frag} {H : Hp} {Q : VK} {a : Addr} {xs : List V} {i : Int} {v : V} (h : SqL K H a xs ∨ SqT K H a xs) (e : atI xs i = some v) (q : Q v H) : rIx K (.ref a) (.int i) H Q := by
  rcases h with h | h
  · exact .inl ⟨a, xs, i, v, rfl, rfl, h, e, q⟩
  · exact .inr (.inl ⟨a, xs, i, v, rfl, rfl, h, e, q⟩)
theorem at_in {α : Type} {xs : List α} {i : Int} (h0 : 0 ≤ i) (h1 : i < xs.length) : ∃ v, atI xs i = some v ∧ v ∈ xs := by
  have hk : i.toNat < xs.length := by omega
  refine ⟨xs[i.toNat], ?_, List.getElem_mem hk⟩
  have e : i = ((i.toNat : Nat) : Int) := by omega
  have q : atI xs ((i.toNat : Nat) : Int) = some xs[i.toNat] := atI_nat (List.getElem?_eq_getElem hk)
  rw [← e] at q
  exact q
/-! ### texts -/
def one (c : Nat) : Str := ⟨#[c]⟩
def chOk (c : Nat) : Prop := 32 ≤ c ∧ c ≤ 126 ∧ c ≠ 37
instance (c : Nat) : Decidable (chOk c) := by unfold chOk; exact inferInstance
theorem tl_one (c : Nat) : tl (one c) = [c] := rfl
theorem join_ones : ∀ chs : List Nat, joinL [] ((chs.map one).map tl) = chs
  | [] => rfl
  | [c] => rfl
  | c :: d :: r => by
    have q := join_ones (d :: r)
    show [c] ++ ([] ++ joinL [] (((d :: r).map one).map tl)) = c :: d :: r
    rw [q]; rfl
theorem strOk_of {x : Str} (h : ∀ c ∈ tl x, chOk c) : PyData.strOk x = true := by
  unfold PyData.strOk
  rw [← Array.all_toList, List.all_eq_true]
  intro c hc
  have := h c hc
  unfold chOk at this
  exact decide_eq_true (by omega)
theorem tl_empty : tl ("" : Str) = [] := by decide +kernel
theorem tl_joined (chs : List Nat) : tl (Txt.join ("" : Str) (chs.map one)) = chs := by
  rw [join_eq, tl_join, tl_empty, join_ones]
theorem len_joined (chs : List Nat) : (Txt.join ("" : Str) (chs.map one)).length = chs.length := by rw [len_tl, tl_joined]
theorem sum_ones (chs : List Nat) : ((chs.map one).map (·.length)).sum = chs.length := by
  induction chs with
  | nil => rfl
  | cons c r ih => rw [List.map_cons, List.map_cons, List.sum_cons, ih, List.length_cons]; show 1 + r.length = r.length + 1; omega
/-! ### the tape that a law draws from -/
theorem s_cells_at : ¬ ("cells" : Str) = ("at" : Str) := by decide +kernel
theorem n_cells_at : ¬ (Sum.inr ("cells" : Str) : Key) = Sum.inr ("at" : Str) := fun e => s_cells_at (Sum.inr.inj e)
theorem s_cells_left : ¬ ("cells" : Str) = ("left" : Str) := by decide +kernel
theorem n_cells_left : ¬ (Sum.inr ("cells" : Str) : Key) = Sum.inr ("left" : Str) := fun e => s_cells_left (Sum.inr.inj e)
theorem s_cells_seed : ¬ ("cells" : Str) = ("seed" : Str) := by decide +kernel
theorem n_cells_seed : ¬ (Sum.inr ("cells" : Str) : Key) = Sum.inr ("seed" : Str) := fun e => s_cells_seed (Sum.inr.inj e)
theorem s_cells_salt : ¬ ("cells" : Str) = ("salt" : Str) := by decide +kernel
theorem n_cells_salt : ¬ (Sum.inr ("cells" : Str) : Key) = Sum.inr ("salt" : Str) := fun e => s_cells_salt (Sum.inr.inj e)
theorem s_at_cells : ¬ ("at" : Str) = ("cells" : Str) := by decide +kernel
theorem s_at_left : ¬ ("at" : Str) = ("left" : Str) := by decide +kernel
theorem n_at_left : ¬ (Sum.inr ("at" : Str) : Key) = Sum.inr ("left" : Str) := fun e => s_at_left (Sum.inr.inj e)
theorem s_at_seed : ¬ ("at" : Str) = ("seed" : Str) := by decide +kernel
theorem n_at_seed : ¬ (Sum.inr ("at" : Str) : Key) = Sum.inr ("seed" : Str) := fun e => s_at_seed (Sum.inr.inj e)
theorem s_at_salt : ¬ ("at" : Str) = ("salt" : Str) := by decide +kernel
theorem n_at_salt : ¬ (Sum.inr ("at" : Str) : Key) = Sum.inr ("salt" : Str) := fun e => s_at_salt (Sum.inr.inj e)
theorem s_left_cells : ¬ ("left" : Str) = ("cells" : Str) := by decide +kernel
theorem s_left_at : ¬ ("left" : Str) = ("at" : Str) := by decide +kernel
theorem s_left_seed : ¬ ("left" : Str) = ("seed" : Str) := by decide +kernel
theorem n_left_seed : ¬ (Sum.inr ("left" : Str) : Key) = Sum.inr ("seed" : Str) := fun e => s_left_seed (Sum.inr.inj e)
theorem s_left_salt : ¬ ("left" : Str) = ("salt" : Str) := by decide +kernel
theorem n_left_salt : ¬ (Sum.inr ("left" : Str) : Key) = Sum.inr ("salt" : Str) := fun e => s_left_salt (Sum.inr.inj e)
theorem s_seed_cells : ¬ ("seed" : Str) = ("cells" : Str) := by decide +kernel
theorem s_seed_at : ¬ ("seed" : Str) = ("at" : Str) := by decide +kernel
theorem s_seed_left : ¬ ("seed" : Str) = ("left" : Str) := by decide +kernel
theorem s_seed_salt : ¬ ("seed" : Str) = ("salt" : Str) := by decide +kernel
theorem n_seed_salt : ¬ (Sum.inr ("seed" : Str) : Key) = Sum.inr ("salt" : Str) := fun e => s_seed_salt (Sum.inr.inj e)
theorem s_salt_cells : ¬ ("salt" : Str) = ("cells" : Str) := by decide +kernel
theorem s_salt_at : ¬ ("salt" : Str) = ("at" : Str) := by decide +kernel
theorem s_salt_left : ¬ ("salt" : Str) = ("left" : Str) := by decide +kernel
theorem s_salt_seed : ¬ ("salt" : Str) = ("seed" : Str) := by decide +kernel
def tk (c : Addr) (a l s m : Int) : List (Key × V) := [(Sum.inr "cells", .ref c), (Sum.inr "at", .int a), (Sum.inr "left", .int l), (Sum.inr "seed", .int s), (Sum.inr "salt", .int m)]
section
variable (c : Addr) (a l s m x : Int)
theorem tk_cells : valV (tk c a l s m) (Sum.inr ("cells" : Str) : Key) = some (.ref c) := valV_pos rfl
theorem tk_at : valV (tk c a l s m) (Sum.inr ("at" : Str) : Key) = some (.int a) := by unfold tk; rw [valV_neg n_cells_at, valV_pos rfl]
theorem tk_left : valV (tk c a l s m) (Sum.inr ("left" : Str) : Key) = some (.int l) := by unfold tk; rw [valV_neg n_cells_left, valV_neg n_at_left, valV_pos rfl]
theorem tk_seed : valV (tk c a l s m) (Sum.inr ("seed" : Str) : Key) = some (.int s) := by unfold tk; rw [valV_neg n_cells_seed, valV_neg n_at_seed, valV_neg n_left_seed, valV_pos rfl]
theorem tk_salt : valV (tk c a l s m) (Sum.inr ("salt" : Str) : Key) = some (.int m) := by unfold tk; rw [valV_neg n_cells_salt, valV_neg n_at_salt, valV_neg n_left_salt, valV_neg n_seed_salt, valV_pos rfl]
theorem put_at : putK (tk c a l s m) (Sum.inr ("at" : Str) : Key) (.int x) = tk c x l s m := by
  simp [putK, tk, s_at_cells, s_cells_at, s_at_left, s_left_at, s_at_seed, s_seed_at, s_at_salt, s_salt_at]
theorem put_left : putK (tk c a l s m) (Sum.inr ("left" : Str) : Key) (.int x) = tk c a x s m := by
  simp [putK, tk, s_left_cells, s_cells_left, s_left_at, s_at_left, s_left_seed, s_seed_left, s_left_salt, s_salt_left]
theorem put_salt : putK (tk c a l s m) (Sum.inr ("salt" : Str) : Key) (.int x) = tk c a l s x := by
  simp [putK, tk, s_salt_cells, s_cells_salt, s_salt_at, s_at_salt, s_salt_left, s_left_salt, s_salt_seed, s_seed_salt]
end
theorem merge_tk (c : Addr) (a l s m : Int) : mergeK [] (tk c a l s m) = tk c a l s m := by
  simp [mergeK, putK, tk, s_cells_at, s_cells_left, s_cells_seed, s_cells_salt, s_at_left, s_at_seed, s_at_salt, s_left_seed, s_left_salt, s_seed_salt]
structure TapeAt (H : Hp) (t c : Addr) (cs : List Int) : Prop where
  dk : ∃ a l s m : Int, H t = some (.dK (tk c a l s m)) ∧ 0 ≤ a ∧ 0 ≤ l
  ls : H c = some (.lst (cs.map V.int))
  nn : ∀ x ∈ cs, (0 : Int) ≤ x
theorem TapeAt.ne {H : Hp} {t c : Addr} {cs : List Int} (T : TapeAt H t c cs) : c ≠ t := by
  obtain ⟨a, l, s, m, h, _⟩ := T.dk
  exact ne_of T.ls h (by intro z; cases z)
theorem TapeAt.mono {H H' : Hp} {t c : Addr} {cs : List Int} (T : TapeAt H t c cs) (e : Same H H') : TapeAt H' t c cs := by
  obtain ⟨a, l, s, m, h, h1, h2⟩ := T.dk
  exact ⟨⟨a, l, s, m, e _ _ h, h1, h2⟩, e _ _ T.ls, T.nn⟩
theorem TapeAt.upd {H : Hp} {t c D : Addr} {cs : List Int} {o : HO} (T : TapeAt H t c cs) (h1 : D ≠ t) (h2 : c ≠ D) : TapeAt (upd H D o) t c cs := by
  obtain ⟨a, l, s, m, h, k1, k2⟩ := T.dk
  exact ⟨⟨a, l, s, m, by rw [upd_ne h1.symm]; exact h, k1, k2⟩, by rw [upd_ne h2]; exact T.ls, T.nn⟩
theorem tk_len {c : Addr} {a l s m : Int} : (tk c a l s m).length < sizeLine := by show 5 < sizeLine; decide
section
variable {H : Hp} {t c : Addr} {a l s m : Int}
theorem d_cells (h : H t = some (.dK (tk c a l s m))) : DGet H t (.str "cells") (some (.ref c)) := by have g := DGet.k (k := (Sum.inr ("cells" : Str) : Key)) h; rw [tk_cells] at g; exact g
theorem d_at (h : H t = some (.dK (tk c a l s m))) : DGet H t (.str "at") (some (.int a)) := by have g := DGet.k (k := (Sum.inr ("at" : Str) : Key)) h; rw [tk_at] at g; exact g
theorem d_left (h : H t = some (.dK (tk c a l s m))) : DGet H t (.str "left") (some (.int l)) := by have g := DGet.k (k := (Sum.inr ("left" : Str) : Key)) h; rw [tk_left] at g; exact g
theorem d_seed (h : H t = some (.dK (tk c a l s m))) : DGet H t (.str "seed") (some (.int s)) := by have g := DGet.k (k := (Sum.inr ("seed" : Str) : Key)) h; rw [tk_seed] at g; exact g
theorem d_salt (h : H t = some (.dK (tk c a l s m))) : DGet H t (.str "salt") (some (.int m)) := by have g := DGet.k (k := (Sum.inr ("salt" : Str) : Key)) h; rw [tk_salt] at g; exact g
theorem p_at (h : H t = some (.dK (tk c a l s m))) (x : Int) : DPut H t (.str "at") (.int x) (upd H t (.dK (tk c x l s m))) := by have g := DPut.k (k := (Sum.inr ("at" : Str) : Key)) (v := .int x) h tk_len; rw [put_at] at g; exact g
theorem p_left (h : H t = some (.dK (tk c a l s m))) (x : Int) : DPut H t (.str "left") (.int x) (upd H t (.dK (tk c a x s m))) := by have g := DPut.k (k := (Sum.inr ("left" : Str) : Key)) (v := .int x) h tk_len; rw [put_left] at g; exact g
theorem p_salt (h : H t = some (.dK (tk c a l s m))) (x : Int) : DPut H t (.str "salt") (.int x) (upd H t (.dK (tk c a l s x))) := by have g := DPut.k (k := (Sum.inr ("salt" : Str) : Key)) (v := .int x) h tk_len; rw [put_salt] at g; exact g
end
/-- _law_tape -/
def spTape (K : PySem.W.Frag) : Sp := fun vs H Q _ => ∃ (a : Addr) (ns : List Int), vs = [.ref a] ∧ SqL K H a (ns.map V.int) ∧ ns.length ≤ 63 ∧
  ∀ t c cs H', TapeAt H' t c cs → Same H H' → H t = none → Q (.ref t) H'
/-- _law_take -/
def spTake : Sp := fun vs H Q _ => ∃ (t c : Addr) (cs : List Int) (many : Int), vs = [.ref t, .int many] ∧ TapeAt H t c cs ∧ 0 < many ∧ many.natAbs < 2 ^ 9000 ∧
  ∀ d H', 0 ≤ d → d < many → TapeAt H' t c cs → SameX t H H' → Q (.int d) H'

/-! ### two pieces of data that are the same -/
def isScal : V → Bool
  | .non => true
  | .bl _ => true
  | .int _ => true
  | .str _ => true
  | _ => false
/-- x and y are the same data, nested less than n deep -/
def SameV (K : PySem.W.Frag) (H : Hp) : Nat → V → V → Prop
  | 0, _, _ => False
  | n + 1, x, y => (x = y ∧ isScal x = true) ∨
      (∃ (a b : Addr) (xs ys : List V), x = .ref a ∧ y = .ref b ∧ H a = some (.lst xs) ∧ H b = some (.lst ys) ∧ xs.length = ys.length ∧ xs.length ≤ 1000 ∧ ∀ (i : Nat) (u v : V), xs[i]? = some u → ys[i]? = some v → SameV K H n u v) ∨
      (∃ (a b : Addr) (xs ys : List V), x = .ref a ∧ y = .ref b ∧ H a = some (.tup xs) ∧ H b = some (.tup ys) ∧ xs.length = ys.length ∧ xs.length ≤ 1000 ∧ ∀ (i : Nat) (u v : V), xs[i]? = some u → ys[i]? = some v → SameV K H n u v)
theorem SameV.sc {K : PySem.W.Frag} {H : Hp} {n : Nat} {x : V} (h : isScal x = true) : SameV K H (n + 1) x x := Or.inl ⟨rfl, h⟩
/-- _law_same, for data that are the same -/
def spSame (K : PySem.W.Frag) (n : Nat) : Sp := fun vs H Q _ => ∃ x y, vs = [x, y] ∧ SameV K H n x y ∧ Q (.bl true) H
def spItems (K : PySem.W.Frag) (n : Nat) : Sp := fun vs H Q _ => ∃ (a b : Addr) (xs ys : List V), vs = [.ref a, .ref b] ∧ ((H a = some (.lst xs) ∧ H b = some (.lst ys)) ∨ (H a = some (.tup xs) ∧ H b = some (.tup ys))) ∧ xs.length = ys.length ∧ xs.length ≤ 1000 ∧
  (∀ (i : Nat) (u v : V), xs[i]? = some u → ys[i]? = some v → SameV K H n u v) ∧ Q (.bl true) H
def spIsInt : Sp := fun vs H Q _ => ∃ x, vs = [x] ∧ isScal x = true ∧ Q (.bl (match x with | .int _ => true | _ => false)) H
theorem ty_scal {K : PySem.W.Frag} {H : Hp} {x : V} (h : isScal x = true) : ∃ t : String, TyX K H x (.type t) ∧ (x = .non ∧ t = "NoneType" ∨ (∃ b, x = .bl b) ∧ t = "bool" ∨ (∃ i, x = .int i) ∧ t = "int" ∨ (∃ z, x = .str z) ∧ t = "str") := by
  cases x with
  | non => exact ⟨_, .base .non, .inl ⟨rfl, rfl⟩⟩
  | bl b => exact ⟨_, .base (.bl b), .inr (.inl ⟨⟨b, rfl⟩, rfl⟩)⟩
  | int i => exact ⟨_, .base (.int i), .inr (.inr (.inl ⟨⟨i, rfl⟩, rfl⟩))⟩
  | str z => exact ⟨_, .base (.str z), .inr (.inr (.inr ⟨⟨z, rfl⟩, rfl⟩))⟩
  | byt _ => cases h
  | flt _ => cases h
  | ref _ => cases h
  | ty _ => cases h
/-- a def that draws: from the tape at t, what it hands back in R -/
def spDraw (R : V → Hp → Addr → Prop) : Sp := fun vs H Q _ => ∃ (t c : Addr) (cs : List Int), vs = [.ref t] ∧ TapeAt H t c cs ∧ ∀ v H', R v H' t → TapeAt H' t c cs → SameX t H H' → Q v H'
def isChar : V → Hp → Addr → Prop := fun v _ _ => ∃ c, chOk c ∧ v = .str (one c)
def isText (n : Nat) : V → Hp → Addr → Prop := fun v _ _ => ∃ z : Str, z.length ≤ n ∧ (∀ c ∈ tl z, chOk c) ∧ v = .str z
def isInt (lo hi : Int) : V → Hp → Addr → Prop := fun v _ _ => ∃ i : Int, lo ≤ i ∧ i ≤ hi ∧ v = .int i
theorem cutS_sub {z : Str} {lo hi : Option Int} : ∀ c ∈ tl (cutS z lo hi), c ∈ tl z := by
  intro c hc
  have e : tl (cutS z lo hi) = (z.cps.toList.drop (HT.sIx z.length 0 lo)).take (HT.sIx z.length z.length hi - HT.sIx z.length 0 lo) := by simp [tl, cutS]
  rw [e] at hc
  exact List.mem_of_mem_drop (List.mem_of_mem_take hc)
theorem len_app (u v : Str) : (u ++ v).length = u.length + v.length := by rw [len_tl, tl_append, List.length_append, ← len_tl, ← len_tl]
/-- anything that is handed to is_value -/
inductive Thing (H : Hp) : V → Prop where
  | non : Thing H .non
  | bl (b : Bool) : Thing H (.bl b)
  | int (i : Int) : Thing H (.int i)
  | str (z : Str) (h : z.length ≤ 1000) : Thing H (.str z)
  | lst {a : Addr} {xs : List V} (h : H a = some (.lst xs)) : Thing H (.ref a)
  | tup {a : Addr} {xs : List V} (h : H a = some (.tup xs)) : Thing H (.ref a)
theorem Thing.mono {H H' : Hp} {v : V} (t : Thing H v) (e : Same H H') : Thing H' v := by
  cases t with
  | non => exact .non
  | bl b => exact .bl b
  | int i => exact .int i
  | str z h => exact .str z h
  | lst h => exact .lst (e _ _ h)
  | tup h => exact .tup (e _ _ h)
/-- is it a value (point 3) -/
def goodV : V → Bool
  | .non => true
  | .int i => decide (-1000000000 < i ∧ i < 1000000000)
  | .str z => decide (z.length ≤ 30 ∧ ∀ c ∈ tl z, chOk c)
  | _ => false
def kindOf : V → Str
  | .non => ""
  | .int _ => "int"
  | .bl _ => "int"
  | _ => "text"
def plainOf (k : Str) (b : Bool) : V := if b = true then .non else if k = ("int" : Str) then .int 0 else .str ""
def spIsValue : Sp := fun vs H Q _ => ∃ v, vs = [v] ∧ Thing H v ∧ ∀ H', Same H H' → Q (.bl (goodV v)) H'
def spIsText : Sp := fun vs H Q _ => ∃ z : Str, vs = [.str z] ∧ z.length ≤ 1000 ∧ ∀ H', Same H H' → Q (.bl (goodV (.str z))) H'
def spIsChar : Sp := fun vs H Q _ => ∃ c : Nat, vs = [.str (one c)] ∧ Q (.bl (decide (chOk c))) H
def spKindOf : Sp := fun vs H Q _ => ∃ v, vs = [v] ∧ isScal v = true ∧ Q (.str (kindOf v)) H
def spPlain : Sp := fun vs H Q _ => ∃ (k : Str) (b : Bool), vs = [.str k, .bl b] ∧ Q (plainOf k b) H
/-- what law(script) promises -/
def spLaw (K : PySem.W.Frag) : Sp := fun vs H Q _ => ∃ (a : Addr) (ns : List Int), vs = [.ref a] ∧ SqL K H a (ns.map V.int) ∧ ns.length ≤ 63 ∧ ∀ H', Q (.bl true) H'
def codeOk (c : Int) : Prop := 32 ≤ c ∧ c ≤ 126 ∧ c ≠ 37
instance (c : Int) : Decidable (codeOk c) := by unfold codeOk; exact inferInstance
/-- is_text_code -/
def spIsCode : Sp := fun vs H Q _ => ∃ c : Int, vs = [.int c] ∧ Q (.bl (decide (codeOk c))) H
end Lt

set_option autoImplicit false
namespace Lt
open PySem L2 TL
open C8 (pss_cut)
/-! ## data that stand still: tuples of tuples of plain values -/
inductive D where
  | s (v : V)
  | t (ds : List D)
mutual
inductive Tp (H : Hp) : V → D → Prop
  | s {v : V} (h : isScal v = true) : Tp H v (.s v)
  | t {a : Addr} {xs : List V} {ds : List D} (h : H a = some (.tup xs)) (r : TpL H xs ds) : Tp H (.ref a) (.t ds)
inductive TpL (H : Hp) : List V → List D → Prop
  | nil : TpL H [] []
  | cons {v : V} {d : D} {vs : List V} {ds : List D} (h : Tp H v d) (r : TpL H vs ds) : TpL H (v :: vs) (d :: ds)
end
/-- every tuple stands as it stood -/
def KeepT (H H' : Hp) : Prop := ∀ b xs, H b = some (.tup xs) → H' b = some (.tup xs)
theorem KeepT.refl (H : Hp) : KeepT H H := fun _ _ h => h
theorem KeepT.trans {H H1 H2 : Hp} (a : KeepT H H1) (b : KeepT H1 H2) : KeepT H H2 := fun c o h => b c o (a c o h)
theorem KeepT.of {H H1 : Hp} (a : Same H H1) : KeepT H H1 := fun c o h => a c _ h
theorem KeepT.ofX {t c : Addr} {cs : List Int} {H H1 : Hp} (T : TapeAt H t c cs) (a : SameX t H H1) : KeepT H H1 := fun b o h => a b _ h (by
  obtain ⟨_, _, _, _, e, _⟩ := T.dk
  exact ne_of h e (by intro z; cases z))
theorem KeepT.upd {H : Hp} {p : Addr} {o : HO} (h : ∀ xs, H p ≠ some (.tup xs)) : KeepT H (L2.upd H p o) := fun b xs e => by
  have ne : b ≠ p := by
    intro z
    subst z
    exact h xs e
  rw [upd_ne ne]; exact e
theorem KeepT.new {H : Hp} {p : Addr} (h : H p = none) (o : HO) : KeepT H (L2.upd H p o) := KeepT.of (same_new h o)
mutual
theorem Tp.mono {H H' : Hp} (k : KeepT H H') : ∀ {d : D} {v : V}, Tp H v d → Tp H' v d
  | .s _, _, h => by cases h with | s h => exact .s h
  | .t ds, _, h => by cases h with | t h r => exact .t (k _ _ h) (TpL.mono k r)
theorem TpL.mono {H H' : Hp} (k : KeepT H H') : ∀ {ds : List D} {vs : List V}, TpL H vs ds → TpL H' vs ds
  | [], _, h => by cases h; exact .nil
  | d :: ds, _, h => by cases h with | cons h r => exact .cons (Tp.mono k h) (TpL.mono k r)
end
theorem TpL.length {H : Hp} : ∀ {ds : List D} {vs : List V}, TpL H vs ds → vs.length = ds.length
  | [], _, h => by cases h; rfl
  | d :: ds, _, h => by cases h with | cons h r => rw [List.length_cons, List.length_cons, TpL.length r]
theorem TpL.get {H : Hp} : ∀ {ds : List D} {vs : List V} {i : Nat} {v : V}, TpL H vs ds → vs[i]? = some v → ∃ d, ds[i]? = some d ∧ Tp H v d
  | [], _, i, v, h, e => by cases h; simp at e
  | d :: ds, _, 0, v, h, e => by cases h with | cons h r => simp at e; subst e; exact ⟨d, rfl, h⟩
  | d :: ds, _, i + 1, v, h, e => by cases h with | cons h r => exact TpL.get (i := i) r (by simpa using e)
theorem TpL.get' {H : Hp} {ds : List D} {vs : List V} {i : Nat} {d : D} (h : TpL H vs ds) (e : ds[i]? = some d) : ∃ v, vs[i]? = some v ∧ Tp H v d := by
  have hl := h.length
  have hi : i < ds.length := (List.getElem?_eq_some_iff.mp e).1
  have ev : vs[i]? = some vs[i] := List.getElem?_eq_getElem (by omega)
  obtain ⟨d', e1, e2⟩ := h.get ev
  rw [e] at e1
  cases e1
  exact ⟨_, ev, e2⟩
theorem TpL.snoc {H : Hp} : ∀ {ds : List D} {vs : List V} {v : V} {d : D}, TpL H vs ds → Tp H v d → TpL H (vs ++ [v]) (ds ++ [d])
  | [], _, v, d, h, q => by cases h; exact .cons q .nil
  | d0 :: ds, _, v, d, h, q => by cases h with | cons h r => exact .cons h (TpL.snoc r q)
theorem TpL.scal {H : Hp} : ∀ {vs : List V}, (∀ v ∈ vs, isScal v = true) → TpL H vs (vs.map D.s)
  | [], _ => .nil
  | v :: vs, h => .cons (.s (h v List.mem_cons_self)) (TpL.scal fun x hx => h x (List.mem_cons_of_mem _ hx))

/-! ### columns, clauses, conditions -/
structure Col where
  n : Str
  k : Str
  b : Bool
def colD (c : Col) : D := .t [.s (.str c.n), .s (.str c.k), .s (.bl c.b)]
structure Cl where
  n : Str
  op : Str
  v : V
def clD (c : Cl) : D := .t [.s (.str c.n), .s (.str c.op), .s c.v]
abbrev Cond := List (List Cl)
def altD (a : List Cl) : D := .t (a.map clD)
def condD (c : Cond) : D := .t (c.map altD)
theorem col_at {H : Hp} {v : V} {c : Col} (h : Tp H v (colD c)) : ∃ a, v = .ref a ∧ H a = some (.tup [.str c.n, .str c.k, .bl c.b]) := by
  cases h with
  | t h r =>
    cases r with
    | cons h1 r => cases h1; cases r with
      | cons h2 r => cases h2; cases r with
        | cons h3 r => cases h3; cases r; exact ⟨_, rfl, h⟩
theorem col_mk {H : Hp} {a : Addr} {c : Col} (h : H a = some (.tup [.str c.n, .str c.k, .bl c.b])) : Tp H (.ref a) (colD c) :=
  .t h (.cons (.s rfl) (.cons (.s rfl) (.cons (.s rfl) .nil)))
theorem cl_at {H : Hp} {v : V} {c : Cl} (h : Tp H v (clD c)) : ∃ a, v = .ref a ∧ H a = some (.tup [.str c.n, .str c.op, c.v]) ∧ isScal c.v = true := by
  cases h with
  | t h r =>
    cases r with
    | cons h1 r => cases h1; cases r with
      | cons h2 r => cases h2; cases r with
        | cons h3 r => cases h3 with | s hs => cases r; exact ⟨_, rfl, h, hs⟩
theorem cl_mk {H : Hp} {a : Addr} {c : Cl} (h : H a = some (.tup [.str c.n, .str c.op, c.v])) (hs : isScal c.v = true) : Tp H (.ref a) (clD c) :=
  .t h (.cons (.s rfl) (.cons (.s rfl) (.cons (.s hs) .nil)))
theorem t_at {H : Hp} {v : V} {ds : List D} (h : Tp H v (.t ds)) : ∃ a xs, v = .ref a ∧ H a = some (.tup xs) ∧ TpL H xs ds := by
  cases h with
  | t h r => exact ⟨_, _, rfl, h, r⟩
/-! ### what a condition says of a row -/
def ltV : V → V → Bool
  | .int a, .int b => decide (a < b)
  | .str a, .str b => decide (tl a < tl b)
  | _, _ => false
def cmpM (v : V) (op : Str) (w : V) : Bool :=
  if op = ("=" : Str) then decide (v = w) else if op = ("!=" : Str) then !decide (v = w) else if op = ("<" : Str) then ltV v w
  else if op = ("<=" : Str) then !ltV w v else if op = (">" : Str) then ltV w v else !ltV v w
/-- two values that may be compared -/
def Alike (v w : V) : Prop := (∃ a b, v = .int a ∧ w = .int b) ∨ ∃ a b, v = .str a ∧ w = .str b
def at_ (names : List Str) (row : List V) (n : Str) : V := row.getD (names.idxOf n) .non
def clauseM (names : List Str) (row : List V) (c : Cl) : Bool :=
  if c.op = ("null" : Str) then decide (at_ names row c.n = .non) else if c.op = ("given" : Str) then !decide (at_ names row c.n = .non)
  else if at_ names row c.n = .non then false else cmpM (at_ names row c.n) c.op c.v
def altM (names : List Str) (row : List V) (a : List Cl) : Bool := a.all (clauseM names row)
def holdsM (names : List Str) (row : List V) (c : Cond) : Bool := c.any (altM names row)
/-- the clause can be asked of the row -/
def ClFit (names : List Str) (row : List V) (c : Cl) : Prop := c.n ∈ names ∧ (c.op = ("null" : Str) ∨ c.op = ("given" : Str) ∨ at_ names row c.n = .non ∨ Alike (at_ names row c.n) c.v)
theorem idx_str : ∀ {names : List Str} {n : Str}, n ∈ names → ∃ j, j = names.idxOf n ∧ j < names.length ∧ names[j]? = some n ∧ ∀ m x, m < j → names[m]? = some x → x ≠ n
  | [], n, h => by cases h
  | x :: r, n, h => by
    by_cases e : x = n
    · subst e
      exact ⟨0, by simp, by simp, rfl, fun m x hm => absurd hm (Nat.not_lt_zero _)⟩
    · have h' : n ∈ r := by
        rcases List.mem_cons.mp h with h | h
        · exact absurd h.symm e
        · exact h
      obtain ⟨j, e1, e2, e3, e4⟩ := idx_str h'
      refine ⟨j + 1, by rw [List.idxOf_cons, beq_false_of_ne e, ← e1]; rfl, by rw [List.length_cons]; omega, by simpa using e3, fun m y hm hy => ?_⟩
      match m, hm, hy with
      | 0, _, hy => simp at hy; subst hy; exact e
      | m + 1, hm, hy => exact e4 m y (by omega) (by simpa using hy)
theorem at_some {names : List Str} {row : List V} {n : Str} (h : n ∈ names) (hl : row.length = names.length) : row[names.idxOf n]? = some (at_ names row n) := by
  obtain ⟨j, e1, e2, _, _⟩ := idx_str h
  rw [← e1]
  unfold at_
  rw [← e1, List.getD_eq_getElem?_getD, List.getElem?_eq_getElem (by omega)]
  rfl
theorem list_lt (a b : List Nat) : (!decide (b < a)) = (decide (a < b) || decide (a = b)) := by
  have h : ¬ b < a ↔ (a < b ∨ a = b) := by rw [List.not_lt]; exact List.le_iff_lt_or_eq
  by_cases h1 : b < a
  · have h2 : ¬ (a < b ∨ a = b) := fun z => h.mpr z h1
    have h3 : ¬ a < b := fun z => h2 (.inl z)
    have h4 : ¬ a = b := fun z => h2 (.inr z)
    simp [h1, h3, h4]
  · rcases h.mp h1 with h2 | h2
    · simp [h1, h2]
    · simp [h1, h2]
theorem le_V {v w : V} (h : Alike v w) : (!ltV w v) = (ltV v w || decide (v = w)) := by
  rcases h with ⟨a, b, rfl, rfl⟩ | ⟨a, b, rfl, rfl⟩
  · unfold ltV
    by_cases h1 : b < a
    · have h2 : ¬ a < b := by omega
      have h3 : ¬ V.int a = V.int b := fun z => by cases z; omega
      simp [h1, h2]
      intro z; omega
    · by_cases h2 : a < b
      · simp [h1, h2]
      · have e : a = b := by omega
        simp [e]
  · unfold ltV
    rw [list_lt]
    have e : decide (tl a = tl b) = decide (V.str a = V.str b) := by
      by_cases h : a = b
      · subst h; simp
      · have h1 : ¬ tl a = tl b := fun z => h (ext_tl z)
        have h2 : ¬ V.str a = V.str b := fun z => h (V.str.inj z)
        rw [decide_eq_false h1, decide_eq_false h2]
    rw [e]
/-- one of two rules -/
theorem op_either {X : Cx} {f : Value → Value → Sem Value} {r1 r2 : R2} (h1 : OpR X f r1) (h2 : OpR X f r2) : OpR X f (fun x y H Q => r1 x y H Q ∨ r2 x y H Q) := by
  intro pins s σ H x y v u Q I rx ry h
  rcases h with h | h
  · exact h1 pins s σ H x y v u Q I rx ry h
  · exact h2 pins s σ H x y v u Q I rx ry h
/-- names.index(n) -/
theorem ix_names {names : List Str} {n : Str} (hn : n ∈ names) : ∃ z, (names.map V.str).all flatV = true ∧ (names.map V.str)[names.idxOf n]? = some z ∧ eqV z (.str n) = true ∧ ∀ (m : Nat) (z' : V), m < names.idxOf n → (names.map V.str)[m]? = some z' → eqV z' (.str n) = false := by
  obtain ⟨j, e1, e2, e3, e4⟩ := idx_str hn
  rw [← e1]
  refine ⟨.str n, ?_, ?_, ?_, ?_⟩
  · rw [List.all_eq_true]
    intro v hv
    obtain ⟨z, _, rfl⟩ := List.mem_map.mp hv
    rfl
  · rw [List.getElem?_map, e3]; rfl
  · show (n == n) = true; simp
  · intro m z hm hz
    rw [List.getElem?_map] at hz
    cases e : names[m]? with
    | none => rw [e] at hz; cases hz
    | some y =>
      rw [e] at hz
      cases hz
      have := e4 m y hm e
      show (y == n) = false
      simpa using this
/-- what a drawn value of a column is -/
def ValOf (k : Str) (b : Bool) (v : V) : Prop := (b = true ∧ v = .non) ∨ (k = ("int" : Str) ∧ ∃ i : Int, v = .int i ∧ -999999999 ≤ i ∧ i ≤ 999999999) ∨ (k ≠ ("int" : Str) ∧ ∃ z : Str, v = .str z ∧ z.length ≤ 30 ∧ ∀ c ∈ tl z, chOk c)
theorem ValOf.scal {k : Str} {b : Bool} {v : V} (h : ValOf k b v) : isScal v = true := by
  rcases h with ⟨_, rfl⟩ | ⟨_, i, rfl, _⟩ | ⟨_, z, rfl, _⟩ <;> rfl
theorem ValOf.alike {k : Str} {b : Bool} {v w : V} (h : ValOf k b v) (g : ValOf k false w) : v = .non ∨ Alike v w := by
  rcases h with ⟨_, rfl⟩ | ⟨k1, i, rfl, _⟩ | ⟨k1, z, rfl, _⟩
  · exact .inl rfl
  · rcases g with ⟨e, _⟩ | ⟨_, j, rfl, _⟩ | ⟨k2, _⟩
    · cases e
    · exact .inr (.inl ⟨_, _, rfl, rfl⟩)
    · exact absurd k1 k2
  · rcases g with ⟨e, _⟩ | ⟨k2, _⟩ | ⟨_, y, rfl, _⟩
    · cases e
    · exact absurd k2 k1
    · exact .inr (.inr ⟨_, _, rfl, rfl⟩)
end Lt

set_option autoImplicit false
namespace Lt
open PySem L2 TL
open C8 (pss_cut)
/-! ## what the laws draw -/
def SameXY (t u : Addr) (H H' : Hp) : Prop := ∀ b o, H b = some o → b ≠ t → b ≠ u → H' b = some o
theorem SameXY.refl (t u : Addr) (H : Hp) : SameXY t u H H := fun _ _ h _ _ => h
theorem SameXY.trans {t u : Addr} {H H1 H2 : Hp} (a : SameXY t u H H1) (b : SameXY t u H1 H2) : SameXY t u H H2 := fun c o h n m => b c o (a c o h n m) n m
theorem SameXY.ofX {t u : Addr} {H H1 : Hp} (a : SameX t H H1) : SameXY t u H H1 := fun c o h n _ => a c o h n
theorem SameXY.of {t u : Addr} {H H1 : Hp} (a : Same H H1) : SameXY t u H H1 := fun c o h _ _ => a c o h
theorem samexy_upd {t u : Addr} {H H1 : Hp} {p : Addr} (h : H p = none) (o : HO) (e : SameXY t u H H1) : SameXY t u H (upd H1 p o) := fun b v q n m => by rw [upd_ne (ne_of_none q h)]; exact e _ _ q n m
theorem SameXY.updY {t u : Addr} {H H1 : Hp} (o : HO) (e : SameXY t u H H1) : SameXY t u H (upd H1 u o) := fun b v q n m => by rw [upd_ne m]; exact e _ _ q n m
theorem TapeAt.fresh {H : Hp} {t c D : Addr} {cs : List Int} (T : TapeAt H t c cs) (h : H D = none) : D ≠ t ∧ c ≠ D := by
  obtain ⟨_, _, _, _, e, _⟩ := T.dk
  exact ⟨(ne_of_none e h).symm, ne_of_none T.ls h⟩
theorem TapeAt.notL {H : Hp} {t c D : Addr} {cs : List Int} {xs : List V} (T : TapeAt H t c cs) (h : H D = some (.lst xs)) : D ≠ t := by
  obtain ⟨_, _, _, _, e, _⟩ := T.dk
  exact ne_of h e (by intro z; cases z)
theorem KeepT.ofXY {t u c : Addr} {cs : List Int} {H H1 : Hp} {us : List V} (T : TapeAt H t c cs) (hu : H u = some (.lst us)) (a : SameXY t u H H1) : KeepT H H1 := fun b o h => by
  obtain ⟨_, _, _, _, e, _⟩ := T.dk
  exact a b _ h (ne_of h e (by intro z; cases z)) (ne_of h hu (by intro z; cases z))
theorem tl_int (i : Int) : tl (Str.ofString (toString i)) = if i < 0 then 45 :: numL i.natAbs else numL i.natAbs := by
  cases i with
  | ofNat n =>
    rw [if_neg (by show ¬ ((n : Int) < 0); omega)]
    exact tl_num n
  | negSucc n =>
    rw [if_pos (Int.negSucc_lt_zero n)]
    have e : toString (Int.negSucc n) = "-" ++ toString (((n + 1 : Nat) : Int)) := rfl
    rw [e, tl_ofString, String.toList_append, List.map_append, ← tl_ofString, ← tl_ofString, tl_num]
    rfl
theorem num_chars (n : Nat) : ∀ c ∈ numL n, 48 ≤ c ∧ c ≤ 57 := fun c h => numL_digits n c h
theorem int_text {i : Int} (h1 : -999999999 ≤ i) (h2 : i ≤ 999999999) : (Str.ofString (toString i)).length ≤ 10 ∧ ∀ c ∈ tl (Str.ofString (toString i)), c = 45 ∨ (48 ≤ c ∧ c ≤ 57) := by
  have hl : (numL i.natAbs).length ≤ 9 := numL_len (by decide) (by omega)
  constructor
  · rw [len_tl, tl_int]
    split
    · rw [List.length_cons]; omega
    · omega
  · intro c hc
    rw [tl_int] at hc
    split at hc
    · rcases List.mem_cons.mp hc with h | h
      · exact .inl h
      · exact .inr (num_chars _ _ h)
    · exact .inr (num_chars _ _ hc)
theorem log_small {i : Int} (h1 : -999999999 ≤ i) (h2 : i ≤ 999999999) : i.natAbs.log2 < 1920 := by
  have : i.natAbs < 2 ^ 30 := by omega
  exact Nat.lt_of_lt_of_le (PySem.Flt.log2_lt_of (by decide) this) (by decide)
theorem digit_ok {c : Nat} (h : c = 45 ∨ (48 ≤ c ∧ c ≤ 57)) : chOk c := by unfold chOk; omega
/-- _law_value -/
def spVal : Sp := fun vs H Q _ => ∃ (t c : Addr) (cs : List Int) (k : Str) (b : Bool), vs = [.ref t, .str k, .bl b] ∧ TapeAt H t c cs ∧ ∀ v H', ValOf k b v → TapeAt H' t c cs → SameX t H H' → Q v H'
/-! ### names -/
def nmCh (c : Nat) : Prop := (97 ≤ c ∧ c ≤ 122) ∨ (48 ≤ c ∧ c ≤ 57) ∨ c = 95
instance (c : Nat) : Decidable (nmCh c) := by unfold nmCh; exact inferInstance
def nameOk (z : Str) : Prop := z.length ≤ 20 ∧ (∃ c r, tl z = c :: r ∧ 97 ≤ c ∧ c ≤ 122) ∧ ∀ c ∈ tl z, nmCh c
theorem nmCh.ok {c : Nat} (h : nmCh c) : chOk c := by unfold nmCh at h; unfold chOk; omega
/-- each of i names of the list us begins with one of the first i letters, no two alike -/
def Hit (us : List Str) (i : Nat) : Prop := ∃ ws : List Str, ws.length = i ∧ ws.Nodup ∧ ∀ v ∈ ws, v ∈ us ∧ ∃ j r, j < i ∧ tl v = (97 + j) :: r
theorem Hit.step {us : List Str} {i : Nat} (h : Hit us i) {z : Str} {r : List Nat} (e : tl z = (97 + i) :: r) : z ∉ us ∨ Hit us (i + 1) := by
  obtain ⟨ws, h1, h2, h3⟩ := h
  by_cases hz : z ∈ us
  · refine .inr ⟨z :: ws, by rw [List.length_cons, h1], List.nodup_cons.mpr ⟨fun hw => ?_, h2⟩, fun v hv => ?_⟩
    · obtain ⟨_, j, r', hj, e'⟩ := h3 z hw
      rw [e] at e'
      have := (List.cons.inj e').1
      omega
    · rcases List.mem_cons.mp hv with rfl | hv
      · exact ⟨hz, i, r, by omega, e⟩
      · obtain ⟨a, j, r', hj, e'⟩ := h3 v hv
        exact ⟨a, j, r', by omega, e'⟩
  · exact .inl hz
theorem Hit.no {us : List Str} {i : Nat} (h : Hit us i) (hl : us.length < i) : False := by
  obtain ⟨ws, h1, h2, h3⟩ := h
  have := List.Nodup.length_le_of_subset h2 (fun v hv => (h3 v hv).1)
  omega
theorem inV_str (z : Str) (us : List Str) : inV (.str z) (us.map V.str) = decide (z ∈ us) := by
  unfold inV
  rw [Bool.eq_iff_iff, List.any_eq_true, decide_eq_true_iff]
  constructor
  · rintro ⟨v, hv, e⟩
    obtain ⟨y, hy, rfl⟩ := List.mem_map.mp hv
    have : y = z := by simpa [eqV] using e
    rw [← this]; exact hy
  · intro h
    exact ⟨.str z, List.mem_map.mpr ⟨z, h, rfl⟩, by simp [eqV]⟩
theorem flat_strs (us : List Str) : (us.map V.str).all flatV = true := by
  rw [List.all_eq_true]
  intro v hv
  obtain ⟨y, _, rfl⟩ := List.mem_map.mp hv
  rfl
def spName : Sp := fun vs H Q _ => ∃ (t c u : Addr) (cs : List Int) (us : List Str), vs = [.ref t, .ref u] ∧ TapeAt H t c cs ∧ H u = some (.lst (us.map V.str)) ∧ u ≠ c ∧ us.length ≤ 25 ∧
  ∀ z H', nameOk z → z ∉ us → TapeAt H' t c cs → H' u = some (.lst ((us ++ [z]).map V.str)) → SameXY t u H H' → Q (.str z) H'
/-! ### columns -/
def colNs (cols : List Col) : List Str := cols.map (·.n)
structure ColsOk (us : List Str) (cols : List Col) : Prop where
  nd : (colNs cols).Nodup
  fr : ∀ n ∈ colNs cols, n ∉ us ∧ nameOk n
  kd : ∀ c ∈ cols, c.k = ("int" : Str) ∨ c.k = ("text" : Str)
  hd : ∀ c, cols[0]? = some c → c.b = false
def spColumns : Sp := fun vs H Q _ => ∃ (t c u : Addr) (cs : List Int) (us : List Str) (many : Int), vs = [.ref t, .ref u, .int many] ∧ TapeAt H t c cs ∧ H u = some (.lst (us.map V.str)) ∧ u ≠ c ∧ 0 ≤ many ∧ many ≤ 8 ∧ (us.length : Int) + many ≤ 25 ∧
  ∀ L cols xs H', H L = none → H' L = some (.lst xs) → TpL H' xs (cols.map colD) → (cols.length : Int) = many + 1 → ColsOk us cols → TapeAt H' t c cs → H' u = some (.lst ((us ++ colNs cols).map V.str)) → SameXY t u H H' → Q (.ref L) H'
/-- a list of columns stands at L -/
def ColsAt (H : Hp) (L : Addr) (cols : List Col) : Prop := ∃ xs, H L = some (.lst xs) ∧ TpL H xs (cols.map colD)
theorem ColsAt.mono {H H' : Hp} {L : Addr} {cols : List Col} (h : ColsAt H L cols) (k : KeepT H H') (e : ∀ o, H L = some o → H' L = some o) : ColsAt H' L cols := by
  obtain ⟨xs, h1, h2⟩ := h
  exact ⟨xs, e _ h1, h2.mono k⟩
theorem ColsAt.get {H : Hp} {L : Addr} {cols : List Col} (h : ColsAt H L cols) {i : Nat} {col : Col} (e : cols[i]? = some col) : ∃ xs a, H L = some (.lst xs) ∧ xs[i]? = some (.ref a) ∧ H a = some (.tup [.str col.n, .str col.k, .bl col.b]) := by
  obtain ⟨xs, h1, h2⟩ := h
  obtain ⟨v, e1, e2⟩ := h2.get' (i := i) (d := colD col) (by rw [List.getElem?_map, e]; rfl)
  obtain ⟨a, rfl, e3⟩ := col_at e2
  exact ⟨xs, a, h1, e1, e3⟩
def spNames : Sp := fun vs H Q _ => ∃ (L : Addr) (cols : List Col), vs = [.ref L] ∧ ColsAt H L cols ∧ cols.length ≤ 100 ∧ ∀ N H', H N = none → Same H H' → H' N = some (.lst ((colNs cols).map V.str)) → Q (.ref N) H'
/-- the values of a row behind the key -/
def RestOf (cols : List Col) (vs : List V) : Prop := vs.length + 1 = cols.length ∧ ∀ (i : Nat) (col : Col) (v : V), cols[i + 1]? = some col → vs[i]? = some v → ValOf col.k col.b v
def spRest : Sp := fun vs H Q _ => ∃ (t c L : Addr) (cs : List Int) (cols : List Col), vs = [.ref t, .ref L] ∧ TapeAt H t c cs ∧ ColsAt H L cols ∧ 0 < cols.length ∧ cols.length ≤ 100 ∧
  ∀ p ws H', H p = none → H' p = some (.tup ws) → RestOf cols ws → TapeAt H' t c cs → SameX t H H' → Q (.ref p) H'
/-! ### clauses and conditions -/
def ClOk (cols : List Col) (cl : Cl) : Prop := PyData.strOk cl.op = true ∧ ∃ col ∈ cols, cl.n = col.n ∧ (((cl.op = ("null" : Str) ∨ cl.op = ("given" : Str)) ∧ cl.v = .non) ∨
  ((cl.op ≠ ("null" : Str) ∧ cl.op ≠ ("given" : Str)) ∧ ValOf col.k false cl.v))
theorem ClOk.scal {cols : List Col} {cl : Cl} (h : ClOk cols cl) : isScal cl.v = true := by
  obtain ⟨_, col, _, _, ⟨_, e⟩ | ⟨_, e⟩⟩ := h
  · rw [e]; rfl
  · exact e.scal
def spClause : Sp := fun vs H Q _ => ∃ (t c L : Addr) (cs : List Int) (cols : List Col), vs = [.ref t, .ref L] ∧ TapeAt H t c cs ∧ ColsAt H L cols ∧ 0 < cols.length ∧ cols.length ≤ 100 ∧
  ∀ v cl H', Tp H' v (clD cl) → ClOk cols cl → TapeAt H' t c cs → SameX t H H' → Q v H'
def spCond : Sp := fun vs H Q _ => ∃ (t c L : Addr) (cs : List Int) (cols : List Col), vs = [.ref t, .ref L] ∧ TapeAt H t c cs ∧ ColsAt H L cols ∧ 0 < cols.length ∧ cols.length ≤ 100 ∧
  ∀ v cond H', Tp H' v (condD cond) → (∀ a ∈ cond, ∀ cl ∈ a, ClOk cols cl) → cond.length ≤ 4 → (∀ a ∈ cond, a.length ≤ 4) → TapeAt H' t c cs → SameX t H H' → Q v H'
theorem at_ofN {α : Type} {xs : List α} {z : Int} {j : Nat} {v : α} (e : z = (j : Int)) (h : xs[j]? = some v) : atI xs z = some v := by rw [e]; exact atI_nat h
theorem getD_some {vs : List V} {i : Nat} {v : V} (h : vs[i]? = some v) : vs.getD i .non = v := by rw [List.getD_eq_getElem?_getD, h]; rfl
theorem fit_of {cols : List Col} {row : List V} (nd : (colNs cols).Nodup) (hl : row.length = cols.length) (hv : ∀ (i : Nat) (col : Col) (v : V), cols[i]? = some col → row[i]? = some v → ValOf col.k col.b v) {cl : Cl} (h : ClOk cols cl) : ClFit (colNs cols) row cl := by
  obtain ⟨_, col, hc, e, h⟩ := h
  have hn : cl.n ∈ colNs cols := by rw [e]; exact List.mem_map.mpr ⟨col, hc, rfl⟩
  refine ⟨hn, ?_⟩
  rcases h with ⟨h, _⟩ | ⟨_, hw⟩
  · rcases h with h | h
    · exact .inl h
    · exact .inr (.inl h)
  · obtain ⟨j, e1, e2, e3, _⟩ := idx_str hn
    have hj : j < cols.length := by unfold colNs at e2; rwa [List.length_map] at e2
    have ec : cols[j]? = some cols[j] := List.getElem?_eq_getElem hj
    have en : cols[j].n = col.n := by
      unfold colNs at e3
      rw [List.getElem?_map, ec] at e3
      exact (Option.some.inj e3).trans e
    have eq : cols[j] = col := by
      obtain ⟨i, hi, ei⟩ := List.getElem_of_mem hc
      have a1 : (colNs cols)[i]? = some col.n := by unfold colNs; rw [List.getElem?_map, List.getElem?_eq_getElem hi, ei]; rfl
      have a2 : (colNs cols)[j]? = some col.n := by unfold colNs; rw [List.getElem?_map, ec]; exact congrArg some en
      have := nd_ix nd a1 a2
      subst this
      exact ei
    have er : row[j]? = some row[j] := List.getElem?_eq_getElem (by omega)
    have ea : at_ (colNs cols) row cl.n = row[j] := by unfold at_; rw [← e1]; exact getD_some er
    rw [ea]
    have := (hv j col row[j] (by rw [ec, eq]) er).alike hw
    exact .inr (.inr this)
theorem alike_self {v w : V} (h : Alike v w) : Alike v v := by
  rcases h with ⟨a, b, rfl, rfl⟩ | ⟨a, b, rfl, rfl⟩
  · exact .inl ⟨a, a, rfl, rfl⟩
  · exact .inr ⟨a, a, rfl, rfl⟩
theorem cut_tail (xs : List V) : cutV xs (some 1) none = xs.drop 1 := by
  unfold cutV
  have e1 : HT.sIx xs.length 0 (some 1) = min 1 xs.length := HT.sIx_nat _ _ 1
  have e2 : HT.sIx xs.length xs.length none = xs.length := rfl
  rw [e1, e2]
  cases xs with
  | nil => rfl
  | cons x r =>
    have e3 : min 1 (x :: r).length = 1 := by rw [List.length_cons]; omega
    rw [e3, List.take_of_length_le (by rw [List.length_drop]; omega)]
end Lt

set_option autoImplicit false
namespace Lt
open PySem L2 TL
open C8 (pss_cut)
/-! ## numbers as texts -/
theorem takes_no {X : Cx} : Takes X (fun _ _ _ _ => False) := fun u s' h => by
  obtain ⟨_, _, _, _, _, _, _, _, _, _, _, _, _, _, _, _, bad⟩ := h
  exact bad.elim
def dgL (L : List Nat) : List Nat := if L.head? = some 45 then L.tail else L
def numI (L : List Nat) : Int := if L.head? = some 45 then -((NumText.digitsVal (dgL L) : Nat) : Int) else ((NumText.digitsVal (dgL L) : Nat) : Int)
def shape (L : List Nat) : Prop := dgL L ≠ [] ∧ (dgL L).length ≤ 9 ∧ NumText.AllDigits (dgL L)
def canon (L : List Nat) : Prop := shape L ∧ ((dgL L).head? = some 48 → L = [48])
instance (l : List Nat) : Decidable (NumText.AllDigits l) := by unfold NumText.AllDigits; exact inferInstance
instance (L : List Nat) : Decidable (shape L) := by unfold shape; exact inferInstance
instance (L : List Nat) : Decidable (canon L) := by unfold canon; exact inferInstance
theorem val_snoc (l : List Nat) (d : Nat) : NumText.digitsVal (l ++ [d]) = NumText.digitsVal l * 10 + (d - 48) := by
  unfold NumText.digitsVal
  rw [List.foldl_append]
  rfl
theorem fold_pos : ∀ (l : List Nat) (a : Nat), 1 ≤ a → 1 ≤ l.foldl (fun acc c => acc * 10 + (c - 48)) a
  | [], a, h => h
  | c :: r, a, h => fold_pos r (a * 10 + (c - 48)) (by omega)
theorem val_pos {l : List Nat} (h : NumText.AllDigits l) (hn : l ≠ []) (h0 : l.head? ≠ some 48) : 1 ≤ NumText.digitsVal l := by
  cases l with
  | nil => exact absurd rfl hn
  | cons c r =>
    have hc := h.head
    have : c ≠ 48 := fun e => h0 (by rw [e]; rfl)
    unfold NumText.digitsVal
    rw [List.foldl_cons]
    exact fold_pos r (0 * 10 + (c - 48)) (by omega)
theorem num_of : ∀ (n : Nat) (l : List Nat), l.length = n → NumText.AllDigits l → l ≠ [] → l.head? ≠ some 48 → numL (NumText.digitsVal l) = l := by
  intro n
  induction n with
  | zero => intro l hl _ hn; exact absurd (List.eq_nil_of_length_eq_zero hl) hn
  | succ n ih =>
    intro l hl h hn h0
    have e := List.dropLast_concat_getLast hn
    generalize l.getLast hn = d at e
    generalize l.dropLast = l' at e
    subst e
    have hd : 48 ≤ d ∧ d ≤ 57 := h d (by simp)
    rw [val_snoc]
    by_cases e0 : l' = []
    · subst e0
      have hd0 : d ≠ 48 := fun z => h0 (by rw [z]; rfl)
      have ev : NumText.digitsVal [] * 10 + (d - 48) = d - 48 := by show 0 * 10 + (d - 48) = d - 48; omega
      rw [ev, numL_lt (by omega)]
      show [48 + (d - 48)] = [d]
      rw [show 48 + (d - 48) = d by omega]
    · have h' : NumText.AllDigits l' := fun c hc => h c (List.mem_append.mpr (.inl hc))
      have h0' : l'.head? ≠ some 48 := by
        cases l' with
        | nil => exact absurd rfl e0
        | cons a r => exact h0
      have pos := val_pos h' e0 h0'
      have hl' : l'.length = n := by rw [List.length_append] at hl; simpa using hl
      rw [numL_step (by omega)]
      have e1 : (NumText.digitsVal l' * 10 + (d - 48)) / 10 = NumText.digitsVal l' := by omega
      have e2 : 48 + (NumText.digitsVal l' * 10 + (d - 48)) % 10 = d := by omega
      rw [e1, e2, ih l' hl' h' e0 h0']
theorem num_head (n : Nat) (h : 1 ≤ n) : (numL n).head? ≠ some 48 := by
  induction n using Nat.strongRecOn with
  | _ n ih =>
    by_cases h1 : n < 10
    · rw [numL_lt h1]
      intro e
      have := Option.some.inj e
      omega
    · rw [numL_step (by omega)]
      have := ih (n / 10) (by omega) (by omega)
      cases e : numL (n / 10) with
      | nil => exact absurd e (numL_ne _)
      | cons a r => rw [e] at this; exact this
theorem num_zero : numL 0 = [48] := numL_lt (by decide)
/-- the number written down again is the text exactly if the text is canonical -/
theorem canon_iff {L : List Nat} (h : shape L) : tl (Str.ofString (toString (numI L))) = L ↔ canon L := by
  obtain ⟨h1, h2, h3⟩ := id h
  rw [tl_int]
  by_cases hs : L.head? = some 45
  · have eL : L = 45 :: dgL L := by
      unfold dgL
      rw [if_pos hs]
      cases L with
      | nil => cases hs
      | cons a r => cases hs; rfl
    have en : numI L = -((NumText.digitsVal (dgL L) : Nat) : Int) := by unfold numI; rw [if_pos hs]
    rw [en]
    generalize hD : dgL L = D at *
    by_cases h0 : D.head? = some 48
    · have nc : ¬ canon L := fun c => by
        have := c.2 (by rw [hD]; exact h0)
        rw [this] at hs
        cases hs
      refine iff_of_false ?_ nc
      intro e
      by_cases hv : NumText.digitsVal D = 0
      · rw [hv] at e
        rw [if_neg (by decide)] at e
        have e' : numL 0 = L := e
        rw [num_zero] at e'
        rw [← e'] at hs
        cases hs
      · rw [if_pos (by omega), Int.natAbs_neg, Int.natAbs_natCast, eL] at e
        have e1 := (List.cons.inj e).2
        exact num_head _ (by omega) (e1 ▸ h0)
    · refine iff_of_true ?_ ⟨h, fun z => absurd (by rw [hD] at z; exact z) h0⟩
      have := val_pos h3 h1 h0
      rw [if_pos (by omega), Int.natAbs_neg, Int.natAbs_natCast, num_of _ D rfl h3 h1 h0]
      exact eL.symm
  · have eL : dgL L = L := by unfold dgL; rw [if_neg hs]
    have en : numI L = ((NumText.digitsVal L : Nat) : Int) := by unfold numI; rw [if_neg hs, eL]
    rw [en, if_neg (by omega), Int.natAbs_natCast]
    unfold canon
    rw [eL] at h1 h2 h3 ⊢
    by_cases h0 : L.head? = some 48
    · constructor
      · intro e
        refine ⟨h, fun _ => ?_⟩
        by_cases hv : NumText.digitsVal L = 0
        · rw [hv, num_zero] at e; exact e.symm
        · exact absurd (e ▸ h0) (num_head _ (by omega))
      · rintro ⟨_, c⟩
        rw [c h0]
        decide +kernel
    · exact iff_of_true (num_of _ L rfl h3 h1 h0) ⟨h, fun z => absurd z h0⟩
theorem int_of {z : Str} (h : shape (tl z)) : intText? z = some (numI (tl z)) := by
  obtain ⟨h1, h2, h3⟩ := id h
  by_cases hs : (tl z).head? = some 45
  · have eL : tl z = 45 :: dgL (tl z) := by
      unfold dgL
      rw [if_pos hs]
      cases e : tl z with
      | nil => rw [e] at hs; cases hs
      | cons a r => rw [e] at hs; cases hs; rfl
    have l : z.length ≤ 4300 := by rw [len_tl, eL, List.length_cons]; omega
    have e := intText_neg (x := z) eL h3 h1 l
    rw [e]
    unfold numI
    rw [if_pos hs]
  · have eL : dgL (tl z) = tl z := by unfold dgL; rw [if_neg hs]
    rw [eL] at h1 h2 h3
    have e := intText_digits (x := z) h3 h1 (by rw [len_tl]; omega)
    rw [e]
    unfold numI
    rw [if_neg hs, eL]
theorem len_shape {z : Str} (h : shape (tl z)) : z.length ≤ 10 := by
  obtain ⟨_, h2, _⟩ := h
  rw [len_tl]
  unfold dgL at h2
  split at h2
  · rw [List.length_tail] at h2; omega
  · omega
theorem small_num {L : List Nat} (h : shape L) : -999999999 ≤ numI L ∧ numI L ≤ 999999999 := by
  obtain ⟨_, h2, h3⟩ := h
  have b : ∀ (l : List Nat), NumText.AllDigits l → NumText.digitsVal l < 10 ^ l.length := by
    intro l
    have g : ∀ (n : Nat) (l : List Nat), l.length = n → NumText.AllDigits l → NumText.digitsVal l < 10 ^ n := by
      intro n
      induction n with
      | zero => intro l hl _; rw [List.eq_nil_of_length_eq_zero hl]; decide
      | succ n ih =>
        intro l hl h
        have hn : l ≠ [] := by intro z; rw [z] at hl; cases hl
        have e := List.dropLast_concat_getLast hn
        generalize l.getLast hn = d at e
        generalize l.dropLast = l' at e
        subst e
        have hd : 48 ≤ d ∧ d ≤ 57 := h d (by simp)
        have hl' : l'.length = n := by rw [List.length_append] at hl; simpa using hl
        have := ih l' hl' (fun c hc => h c (List.mem_append.mpr (.inl hc)))
        rw [val_snoc, Nat.pow_succ]
        omega
    exact g l.length l rfl
  have h4 := b _ h3
  have h5 : (10 : Nat) ^ (dgL L).length ≤ 10 ^ 9 := Nat.pow_le_pow_right (by decide) h2
  have h6 : NumText.digitsVal (dgL L) ≤ 999999999 := by
    have : (10 : Nat) ^ 9 = 1000000000 := by decide
    omega
  unfold numI
  split <;> omega
theorem dec_ascii : ∀ c : Nat, c < 127 → Unicode.isDecimal c = decide (48 ≤ c ∧ c ≤ 57) := by decide +kernel
theorem isdec {z : Str} (h : ∀ c ∈ tl z, chOk c) : Txt.isdecimal z = decide (tl z ≠ [] ∧ NumText.AllDigits (tl z)) := by
  unfold PySem.Txt.isdecimal
  rw [← Array.all_toList, Bool.eq_iff_iff, Bool.and_eq_true, decide_eq_true_iff, List.all_eq_true, decide_eq_true_iff]
  have e : z.length = (tl z).length := len_tl z
  constructor
  · rintro ⟨a, b⟩
    refine ⟨fun z0 => by rw [z0] at e; simp at e; omega, fun c hc => ?_⟩
    have := b c hc
    rw [dec_ascii c (by have := (h c hc).2.1; omega)] at this
    exact of_decide_eq_true this
  · rintro ⟨a, b⟩
    refine ⟨by have := List.length_pos_iff.mpr a; omega, fun c hc => ?_⟩
    rw [dec_ascii c (by have := (h c hc).2.1; omega)]
    exact decide_eq_true (b c hc)
theorem tl_dash : tl ("-" : Str) = [45] := by decide +kernel
theorem tl_remove (z : Str) : tl (Txt.removeprefix z ("-" : Str)) = dgL (tl z) := by
  have l1 : ("-" : Str).length = 1 := by decide +kernel
  have hsub : Builtin.Str.subAt z ("-" : Str) 0 = decide ((tl z).head? = some 45) := by
    rw [PySem.StrLaws.subAt_eq, l1, List.drop_zero]
    show ((tl z).take 1 == tl ("-" : Str)) = _
    rw [tl_dash]
    cases e : tl z with
    | nil => simp
    | cons a r =>
      by_cases h : a = 45
      · subst h; rfl
      · simp [h]
  unfold PySem.Txt.removeprefix PySem.Txt.affix dgL
  rw [hsub, l1]
  by_cases h : (tl z).head? = some 45
  · rw [if_pos (decide_eq_true h), if_pos h]
    have hp : 0 < z.length := by
      rw [len_tl]
      cases e : tl z with
      | nil => rw [e] at h; cases h
      | cons a r => simp
    have ne : (z.length - 1 == z.length) = false := by simp; omega
    show tl (if (z.length - 1 == z.length) = true then z else Builtin.Str.strSub z 1 z.length) = _
    rw [ne, if_neg Bool.false_ne_true, tl_strSub, List.take_of_length_le (by rw [List.length_drop, len_tl]; omega)]
    exact List.drop_one
  · rw [if_neg (by simpa using h), if_neg h]
theorem tl_cut1 (z : Str) : tl (cutS z none (some 1)) = (tl z).take 1 := by
  have e : tl (cutS z none (some 1)) = ((tl z).drop (HT.sIx z.length 0 none)).take (HT.sIx z.length z.length (some 1) - HT.sIx z.length 0 none) := by simp [tl, cutS]
  have e1 : HT.sIx z.length z.length (some 1) = min 1 z.length := HT.sIx_nat _ _ 1
  rw [e, e1]
  show ((tl z).drop 0).take (min 1 z.length - 0) = _
  rw [List.drop_zero, Nat.sub_zero, len_tl]
  cases tl z with
  | nil => rfl
  | cons a r => rw [show min 1 (a :: r).length = 1 by rw [List.length_cons]; omega]
theorem tl_cut2 (z : Str) : tl (cutS z (some 1) none) = (tl z).drop 1 := by
  have e : tl (cutS z (some 1) none) = ((tl z).drop (HT.sIx z.length 0 (some 1))).take (HT.sIx z.length z.length none - HT.sIx z.length 0 (some 1)) := by simp [tl, cutS]
  have e1 : HT.sIx z.length 0 (some 1) = min 1 z.length := HT.sIx_nat _ _ 1
  rw [e, e1]
  show ((tl z).drop (min 1 z.length)).take (z.length - min 1 z.length) = _
  rw [len_tl]
  cases tl z with
  | nil => rfl
  | cons a r =>
    rw [show min 1 (a :: r).length = 1 by rw [List.length_cons]; omega, List.take_of_length_le (by rw [List.length_drop]; omega)]
theorem first_dash (z : Str) : (cutS z none (some 1) = ("-" : Str)) ↔ (tl z).head? = some 45 := by
  constructor
  · intro e
    have e1 := congrArg tl e
    rw [tl_cut1, tl_dash] at e1
    cases h : tl z with
    | nil => rw [h] at e1; cases e1
    | cons a r => rw [h] at e1; simp at e1; rw [e1]; rfl
  · intro e
    refine ext_tl ?_
    rw [tl_cut1, tl_dash]
    cases h : tl z with
    | nil => rw [h] at e; cases e
    | cons a r => rw [h] at e; cases e; rfl
theorem digit_in : ∀ k : Nat, k < 10 → Txt.index0 ("0123456789" : Str) (one (48 + k)) = some k := by decide +kernel
theorem digits_tl : ∀ c : Nat, c < 127 → (c ∈ ("0123456789" : Str).cps.toList ↔ (48 ≤ c ∧ c ≤ 57)) := by decide +kernel
end Lt

set_option autoImplicit false
namespace Lt
open PySem L2 TL
open C8 (pss_cut)
/-! ## walks within comprehensions; tuples cut and joined; data that are the same -/
theorem inner {J : It} {n : Nat} {G : Hp → Prop} {Y : Nat → Hp → V → Hp → Prop} (wk : Walk J n G Y) {B : V → Hp → (Hp → Prop) → Prop} {Ha : Hp} {Nx : Hp → Prop} (Pv : Nat → Hp → Prop)
    (h0 : Pv 0 Ha) (hG : ∀ i Hb, i ≤ n → Pv i Hb → G Hb) (hs : ∀ i x Hb Hc, i < n → Pv i Hb → Y i Hb x Hc → B x Hc (Pv (i + 1))) (hd : ∀ Hb, Pv n Hb → Nx Hb) :
    ∃ W : Nat → Nat → Hp → Prop, (∃ m, W 0 m Ha) ∧ ∀ j k Hb, W j k Hb → (J.stop j Hb ∧ Nx Hb) ∨ (J.go j Hb ∧ ∃ N : Hp → Prop, (∀ Hc, N Hc → ∃ k', k' < k ∧ W (j + 1) k' Hc) ∧ ∀ x Hc, J.yld j Hb x Hc → B x Hc N) := by
  refine ⟨fun j left Hb => left + j = n ∧ Pv j Hb, ⟨n, Nat.add_zero n, h0⟩, fun j left Hb hw => ?_⟩
  obtain ⟨e, p⟩ := hw
  have g := hG j Hb (by omega) p
  rcases Nat.eq_zero_or_pos left with z | z
  · have ej : j = n := by omega
    subst ej
    exact .inl ⟨wk.stops Hb g, hd Hb p⟩
  · have lt : j < n := by omega
    exact .inr ⟨wk.goes j Hb lt g, Pv (j + 1), fun Hc pc => ⟨left - 1, by omega, by omega, pc⟩, fun x Hc y => hs j x Hb Hc lt p (wk.yields j Hb x Hc lt g y)⟩
def rTup (K : PySem.W.Frag) : List V → Hp → VK → Prop := fun xs H Q => ∃ p ys, xs = [.ref p] ∧ ((SqL K H p ys ∧ ∀ l, H l = none → Q (.ref l) (upd H l (.tup ys))) ∨ (SqT K H p ys ∧ Q (.ref p) H))
theorem ct {X : Cx} : CallR X (.type "tuple") (rTup X.K) := call_tuple_of
theorem cat_any {K : PySem.W.Frag} {H : Hp} {Q : VK} {a b : Addr} {xs ys : List V} (ha : H a = some (.tup xs)) (hb : H b = some (.tup ys)) (hl : xs.length + ys.length ≤ 1000)
    (q : ∀ p H', H' p = some (.tup (xs ++ ys)) → Same H H' → Q (.ref p) H') : rCatA K (.ref a) (.ref b) H Q := by
  refine ⟨a, b, xs, ys, rfl, rfl, SqT.of ha, SqT.of hb, Nat.le_of_lt (small1000 hl), fun e => ?_, fun _ e => ?_, fun _ _ p hp => q p _ upd_same (same_new hp _)⟩
  · subst e; exact q b H hb (Same.refl _)
  · subst e; exact q a H (by rw [List.append_nil]; exact ha) (Same.refl _)
theorem cut_any {K : PySem.W.Frag} {H : Hp} {Q : VK} {a : Addr} {xs : List V} {lo hi : Option Int} (ha : H a = some (.tup xs))
    (q : ∀ p H', H' p = some (.tup (cutV xs lo hi)) → Same H H' → Q (.ref p) H') : rSlA K (.ref a) lo hi H Q := by
  refine ⟨a, xs, rfl, SqT.of ha, fun e => ?_, fun _ p hp => q p _ upd_same (same_new hp _)⟩
  refine q a H ?_ (Same.refl _)
  rw [ha]
  unfold cutV
  rw [e.1, e.2, List.drop_zero, Nat.sub_zero, List.take_length]
theorem cut_front (xs : List V) (j : Nat) (h : j ≤ xs.length) : cutV xs none (some (j : Int)) = xs.take j := by
  unfold cutV
  rw [HT.sIx_nat, HT.sIx_none, List.drop_zero, Nat.sub_zero, Nat.min_eq_left h]
theorem cut_back (xs : List V) (j : Nat) (h : j ≤ xs.length) : cutV xs (some (j : Int)) none = xs.drop j := by
  unfold cutV
  rw [HT.sIx_nat, HT.sIx_none, Nat.min_eq_left h, List.take_of_length_le (by rw [List.length_drop]; omega)]
theorem TpL.take {H : Hp} : ∀ {ds : List D} {vs : List V} (n : Nat), TpL H vs ds → TpL H (vs.take n) (ds.take n)
  | _, _, 0, _ => .nil
  | [], _, n + 1, h => by cases h; exact .nil
  | d :: ds, _, n + 1, h => by cases h with | cons h r => exact .cons h (TpL.take n r)
theorem TpL.drop {H : Hp} : ∀ {ds : List D} {vs : List V} (n : Nat), TpL H vs ds → TpL H (vs.drop n) (ds.drop n)
  | _, _, 0, h => h
  | [], _, n + 1, h => by cases h; exact .nil
  | d :: ds, _, n + 1, h => by cases h with | cons h r => exact TpL.drop n r
theorem TpL.app {H : Hp} : ∀ {ds es : List D} {vs ws : List V}, TpL H vs ds → TpL H ws es → TpL H (vs ++ ws) (ds ++ es)
  | [], _, _, _, h, g => by cases h; exact g
  | d :: ds, _, _, _, h, g => by cases h with | cons h r => exact .cons h (TpL.app r g)
/-- two that bear the same data -/
theorem same_t {K : PySem.W.Frag} {H : Hp} {n : Nat} {v w : V} {ds : List D} (h : Tp H v (.t ds)) (g : Tp H w (.t ds)) (hl : ds.length ≤ 1000) (e : ∀ d ∈ ds, ∀ x y, Tp H x d → Tp H y d → SameV K H n x y) : SameV K H (n + 1) v w := by
  obtain ⟨a, xs, rfl, ha, ra⟩ := t_at h
  obtain ⟨b, ys, rfl, hb, rb⟩ := t_at g
  refine Or.inr (Or.inr ⟨a, b, xs, ys, rfl, rfl, ha, hb, by rw [ra.length, rb.length], by rw [ra.length]; exact hl, fun i u v hu hv => ?_⟩)
  obtain ⟨d, e1, e2⟩ := ra.get hu
  obtain ⟨d', e3, e4⟩ := rb.get hv
  rw [e1] at e3
  cases e3
  exact e d (List.mem_of_getElem? e1) u v e2 e4
theorem same_s {K : PySem.W.Frag} {H : Hp} {n : Nat} {v w x : V} (h : Tp H v (.s x)) (g : Tp H w (.s x)) : SameV K H (n + 1) v w := by
  cases h with
  | s h => cases g with | s g => exact SameV.sc h
theorem same_cl {K : PySem.W.Frag} {H : Hp} {n : Nat} {v w : V} {c : Cl} (h : Tp H v (clD c)) (g : Tp H w (clD c)) : SameV K H (n + 2) v w := by
  refine same_t h g (by show 3 ≤ 1000; decide) fun d hd x y hx hy => ?_
  simp only [List.mem_cons, List.not_mem_nil, or_false] at hd
  rcases hd with rfl | rfl | rfl <;> exact same_s hx hy
theorem same_cond {K : PySem.W.Frag} {H : Hp} {n : Nat} {v w : V} {c : Cond} (h : Tp H v (condD c)) (g : Tp H w (condD c)) (h1 : c.length ≤ 1000) (h2 : ∀ a ∈ c, a.length ≤ 1000) : SameV K H (n + 4) v w := by
  refine same_t h g (by rw [List.length_map]; exact h1) fun d hd x y hx hy => ?_
  obtain ⟨a, ha, rfl⟩ := List.mem_map.mp hd
  refine same_t hx hy (by rw [List.length_map]; exact h2 a ha) fun d hd x y hx hy => ?_
  obtain ⟨cl, _, rfl⟩ := List.mem_map.mp hd
  exact same_cl hx hy
/-! ### what conditions mention; renaming -/
def mentM (n : Str) (c : Cond) : Bool := c.any fun a => a.any fun cl => decide (cl.n = n)
def renCl (o n : Str) (cl : Cl) : Cl := if cl.n = o then ⟨n, cl.op, cl.v⟩ else cl
def renM (o n : Str) (c : Cond) : Cond := c.map fun a => a.map (renCl o n)
/-- any, all of one list after another -/
def flat (c : Cond) : List Cl := c.flatten
theorem any_flat (c : Cond) (f : Cl → Bool) : (c.flatten).any f = c.any fun a => a.any f := by
  induction c with
  | nil => rfl
  | cons a r ih => rw [List.flatten_cons, List.any_append, List.any_cons, ih]
theorem all_flat (c : Cond) (f : Cl → Bool) : (c.flatten).all f = c.all fun a => a.all f := by
  induction c with
  | nil => rfl
  | cons a r ih => rw [List.flatten_cons, List.all_append, List.all_cons, ih]
theorem flat_step {c : Cond} {i j : Nat} {a : List Cl} {x : Cl} (h : c[i]? = some a) (g : a[j]? = some x) : (c.take i).flatten ++ a.take (j + 1) = ((c.take i).flatten ++ a.take j) ++ [x] := by
  rw [List.take_add_one, g, List.append_assoc]; rfl
theorem flat_next {c : Cond} {i : Nat} {a : List Cl} (h : c[i]? = some a) : (c.take (i + 1)).flatten = (c.take i).flatten ++ a := by
  rw [List.take_add_one, h, List.flatten_append]
  simp
theorem map2_snoc {α β γ : Type} (f : α → β) (g : β → γ) (l : List α) (x : α) : ((l ++ [x]).map f).map g = (l.map f).map g ++ [g (f x)] := by simp
/-- a value that a clause may bear -/
def ClG (cl : Cl) : Prop := cl.v = .non ∨ (∃ i : Int, cl.v = .int i ∧ -999999999 ≤ i ∧ i ≤ 999999999) ∨ ∃ z : Str, cl.v = .str z ∧ z.length ≤ 30 ∧ ∀ c ∈ tl z, chOk c
theorem ClG.scal {cl : Cl} (h : ClG cl) : isScal cl.v = true := by
  rcases h with e | ⟨i, e, _⟩ | ⟨z, e, _⟩ <;> rw [e] <;> rfl
theorem ClOk.g {cols : List Col} {cl : Cl} (h : ClOk cols cl) : ClG cl := by
  obtain ⟨_, col, _, _, ⟨_, e⟩ | ⟨_, e⟩⟩ := h
  · exact .inl e
  · rcases e with ⟨e, _⟩ | ⟨_, i, e, h1, h2⟩ | ⟨_, z, e, h1, h2⟩
    · cases e
    · exact .inr (.inl ⟨i, e, h1, h2⟩)
    · exact .inr (.inr ⟨z, e, h1, h2⟩)
theorem ClG.thing {cl : Cl} {H : Hp} (h : ClG cl) : Thing H cl.v := by
  rcases h with e | ⟨i, e, _⟩ | ⟨z, e, h1, _⟩ <;> rw [e]
  · exact .non
  · exact .int i
  · exact .str z (by omega)
/-- fits_kind -/
def fitsK (v : V) (k : Str) (b : Bool) : Bool := if v = .non then b else goodV v && decide (kindOf v = k)
def spFitsKind : Sp := fun vs H Q _ => ∃ (v : V) (k : Str) (b : Bool), vs = [v, .str k, .bl b] ∧ Thing H v ∧ ∀ H', Same H H' → Q (.bl (fitsK v k b)) H'
/-- the kind of the column called n -/
def kindAt (cols : List Col) (n : Str) : Str := (cols.map (·.k)).getD ((colNs cols).idxOf n) ""
def clFits (cols : List Col) (cl : Cl) : Bool := decide (cl.n ∈ colNs cols) && fitsK cl.v (kindAt cols cl.n) true
def fitsM (cols : List Col) (c : Cond) : Bool := c.all fun a => a.all (clFits cols)
def kindsD (cols : List Col) : List (Key × V) := cols.map fun c => ((Sum.inr c.n : Key), V.str c.k)
theorem kinds_get : ∀ (cols : List Col) (n : Str), valV (kindsD cols) (Sum.inr n : Key) = if n ∈ colNs cols then some (.str (kindAt cols n)) else none
  | [], n => by simp [kindsD, colNs, valV]
  | c :: r, n => by
    have ih := kinds_get r n
    by_cases h : c.n = n
    · have e1 : valV (kindsD (c :: r)) (Sum.inr n : Key) = some (.str c.k) := by
        show valV ((((Sum.inr c.n : Key), V.str c.k)) :: kindsD r) _ = _
        rw [valV_pos (by rw [h])]
      have e2 : n ∈ colNs (c :: r) := by rw [← h]; exact List.mem_cons_self
      have e3 : kindAt (c :: r) n = c.k := by
        unfold kindAt colNs
        rw [List.map_cons, List.map_cons, List.idxOf_cons, h, beq_self_eq_true]
        rfl
      rw [e1, if_pos e2, e3]
    · have e1 : valV (kindsD (c :: r)) (Sum.inr n : Key) = valV (kindsD r) (Sum.inr n) := by
        show valV ((((Sum.inr c.n : Key), V.str c.k)) :: kindsD r) _ = _
        rw [valV_neg (fun z => h (Sum.inr.inj z))]
      have e2 : (n ∈ colNs (c :: r)) ↔ n ∈ colNs r := by
        unfold colNs
        rw [List.map_cons, List.mem_cons]
        exact ⟨fun z => z.resolve_left (fun w => h w.symm), .inr⟩
      have e3 : kindAt (c :: r) n = kindAt r n := by
        unfold kindAt colNs
        rw [List.map_cons, List.map_cons, List.idxOf_cons, beq_false_of_ne h]
        rfl
      rw [e1, ih, e3]
      by_cases g : n ∈ colNs r
      · rw [if_pos g, if_pos (e2.mpr g)]
      · rw [if_neg g, if_neg (fun z => g (e2.mp z))]
theorem kinds_put {cols : List Col} (nd : (colNs cols).Nodup) {i : Nat} {c : Col} (h : cols[i]? = some c) : putK (kindsD (cols.take i)) (Sum.inr c.n : Key) (.str c.k) = kindsD (cols.take (i + 1)) := by
  have hno : valV (kindsD (cols.take i)) (Sum.inr c.n : Key) = none := by
    rw [kinds_get, if_neg]
    intro hm
    unfold colNs at hm
    obtain ⟨d, hd, e⟩ := List.mem_map.mp hm
    obtain ⟨j, hj, ej⟩ := List.getElem_of_mem hd
    rw [List.length_take] at hj
    rw [List.getElem_take] at ej
    have a1 : (colNs cols)[j]? = some c.n := by unfold colNs; rw [List.getElem?_map, List.getElem?_eq_getElem (by omega), ej]; exact congrArg some e
    have a2 : (colNs cols)[i]? = some c.n := by unfold colNs; rw [List.getElem?_map, h]; rfl
    have := nd_ix nd a1 a2
    omega
  rw [putK_new _ hno, List.take_add_one, h]
  unfold kindsD
  rw [List.map_append]
  rfl
end Lt

set_option autoImplicit false
namespace Lt
open PySem L2 TL
open C8 (pss_cut)
/-! ## data of any form: tuples, lists, dicts, nested -/
inductive G where
  | s (v : V)
  | t (gs : List G)
  | l (gs : List G)
  | d (ks : List (Key × G))
mutual
/-- v bears the data g; the lists and dicts of it stand at the addresses D -/
inductive Gp (H : Hp) : V → G → List Addr → Prop
  | s {v : V} (h : isScal v = true) : Gp H v (.s v) []
  | t {a : Addr} {xs : List V} {gs : List G} {D : List Addr} (h : H a = some (.tup xs)) (n : xs.length ≤ 1000) (r : GpL H xs gs D) : Gp H (.ref a) (.t gs) D
  | l {a : Addr} {xs : List V} {gs : List G} {D : List Addr} (h : H a = some (.lst xs)) (n : xs.length ≤ 1000) (r : GpL H xs gs D) : Gp H (.ref a) (.l gs) (a :: D)
  | d {a : Addr} {kvs : List (Key × V)} {kgs : List (Key × G)} {D : List Addr} (h : H a = some (.dK kvs)) (n : kvs.length ≤ 1000) (nd : (kvs.map (·.1)).Nodup) (r : GpK H kvs kgs D) (f : a ∉ D) : Gp H (.ref a) (.d kgs) (a :: D)
inductive GpL (H : Hp) : List V → List G → List Addr → Prop
  | nil : GpL H [] [] []
  | cons {v : V} {g : G} {vs : List V} {gs : List G} {D E : List Addr} (h : Gp H v g D) (r : GpL H vs gs E) : GpL H (v :: vs) (g :: gs) (D ++ E)
inductive GpK (H : Hp) : List (Key × V) → List (Key × G) → List Addr → Prop
  | nil : GpK H [] [] []
  | cons {k : Key} {v : V} {g : G} {vs : List (Key × V)} {gs : List (Key × G)} {D E : List Addr} (h : Gp H v g D) (r : GpK H vs gs E) : GpK H ((k, v) :: vs) ((k, g) :: gs) (D ++ E)
end
mutual
def G.dep : G → Nat
  | .s _ => 0
  | .t gs => depL gs + 1
  | .l gs => depL gs + 1
  | .d ks => depK ks + 1
def depL : List G → Nat
  | [] => 0
  | g :: gs => max g.dep (depL gs)
def depK : List (Key × G) → Nat
  | [] => 0
  | (_, g) :: gs => max g.dep (depK gs)
end
theorem depL_mem : ∀ {gs : List G} {g : G}, g ∈ gs → g.dep ≤ depL gs
  | x :: r, g, h => by
    simp only [depL]
    rcases List.mem_cons.mp h with rfl | h
    · omega
    · have := depL_mem h; omega
theorem depK_mem : ∀ {ks : List (Key × G)} {k : Key} {g : G}, (k, g) ∈ ks → g.dep ≤ depK ks
  | (k', x) :: r, k, g, h => by
    simp only [depK]
    rcases List.mem_cons.mp h with e | h
    · cases e; omega
    · have := depK_mem h; omega
mutual
theorem Gp.frame {H H' : Hp} (kt : KeepT H H') : ∀ {g : G} {v : V} {D : List Addr}, Gp H v g D → (∀ b ∈ D, ∀ o, H b = some o → H' b = some o) → Gp H' v g D
  | .s _, _, _, h, _ => by cases h with | s h => exact .s h
  | .t gs, _, _, h, hd => by cases h with | t h n r => exact .t (kt _ _ h) n (GpL.frame kt r hd)
  | .l gs, _, _, h, hd => by cases h with | l h n r => exact .l (hd _ List.mem_cons_self _ h) n (GpL.frame kt r fun b hb => hd b (List.mem_cons_of_mem _ hb))
  | .d ks, _, _, h, hd => by cases h with | d h n nd r f => exact .d (hd _ List.mem_cons_self _ h) n nd (GpK.frame kt r fun b hb => hd b (List.mem_cons_of_mem _ hb)) f
theorem GpL.frame {H H' : Hp} (kt : KeepT H H') : ∀ {gs : List G} {vs : List V} {D : List Addr}, GpL H vs gs D → (∀ b ∈ D, ∀ o, H b = some o → H' b = some o) → GpL H' vs gs D
  | [], _, _, h, _ => by cases h; exact .nil
  | g :: gs, _, _, h, hd => by cases h with | cons h r => exact .cons (Gp.frame kt h fun b hb => hd b (List.mem_append.mpr (.inl hb))) (GpL.frame kt r fun b hb => hd b (List.mem_append.mpr (.inr hb)))
theorem GpK.frame {H H' : Hp} (kt : KeepT H H') : ∀ {gs : List (Key × G)} {vs : List (Key × V)} {D : List Addr}, GpK H vs gs D → (∀ b ∈ D, ∀ o, H b = some o → H' b = some o) → GpK H' vs gs D
  | [], _, _, h, _ => by cases h; exact .nil
  | (k, g) :: gs, _, _, h, hd => by cases h with | cons h r => exact .cons (Gp.frame kt h fun b hb => hd b (List.mem_append.mpr (.inl hb))) (GpK.frame kt r fun b hb => hd b (List.mem_append.mpr (.inr hb)))
end
theorem Gp.mono {H H' : Hp} {g : G} {v : V} {D : List Addr} (h : Gp H v g D) (e : Same H H') : Gp H' v g D := h.frame (KeepT.of e) fun b _ o z => e b o z
theorem GpL.mono {H H' : Hp} {g : List G} {v : List V} {D : List Addr} (h : GpL H v g D) (e : Same H H') : GpL H' v g D := h.frame (KeepT.of e) fun b _ o z => e b o z
theorem GpK.mono {H H' : Hp} {g : List (Key × G)} {v : List (Key × V)} {D : List Addr} (h : GpK H v g D) (e : Same H H') : GpK H' v g D := h.frame (KeepT.of e) fun b _ o z => e b o z
theorem GpL.length {H : Hp} : ∀ {gs : List G} {vs : List V} {D : List Addr}, GpL H vs gs D → vs.length = gs.length
  | [], _, _, h => by cases h; rfl
  | g :: gs, _, _, h => by cases h with | cons h r => rw [List.length_cons, List.length_cons, GpL.length r]
theorem GpL.get {H : Hp} : ∀ {gs : List G} {vs : List V} {D : List Addr} {i : Nat} {v : V}, GpL H vs gs D → vs[i]? = some v → ∃ g E, gs[i]? = some g ∧ Gp H v g E ∧ ∀ a ∈ E, a ∈ D
  | [], _, _, i, v, h, e => by cases h; simp at e
  | g :: gs, _, _, 0, v, h, e => by cases h with | cons h r => simp at e; subst e; exact ⟨g, _, rfl, h, fun a ha => List.mem_append.mpr (.inl ha)⟩
  | g :: gs, _, _, i + 1, v, h, e => by
    cases h with
    | cons h r =>
      obtain ⟨g', E, e1, e2, e3⟩ := GpL.get (i := i) r (by simpa using e)
      exact ⟨g', E, e1, e2, fun a ha => List.mem_append.mpr (.inr (e3 a ha))⟩
theorem GpK.get {H : Hp} : ∀ {gs : List (Key × G)} {vs : List (Key × V)} {D : List Addr} {i : Nat} {k : Key} {v : V}, GpK H vs gs D → vs[i]? = some (k, v) → ∃ g E, gs[i]? = some (k, g) ∧ Gp H v g E ∧ ∀ a ∈ E, a ∈ D
  | [], _, _, i, k, v, h, e => by cases h; simp at e
  | (k', g) :: gs, _, _, 0, k, v, h, e => by cases h with | cons h r => simp at e; obtain ⟨rfl, rfl⟩ := e; exact ⟨g, _, rfl, h, fun a ha => List.mem_append.mpr (.inl ha)⟩
  | (k', g) :: gs, _, _, i + 1, k, v, h, e => by
    cases h with
    | cons h r =>
      obtain ⟨g', E, e1, e2, e3⟩ := GpK.get (i := i) r (by simpa using e)
      exact ⟨g', E, e1, e2, fun a ha => List.mem_append.mpr (.inr (e3 a ha))⟩
theorem GpK.keys {H : Hp} : ∀ {gs : List (Key × G)} {vs : List (Key × V)} {D : List Addr}, GpK H vs gs D → vs.map (·.1) = gs.map (·.1)
  | [], _, _, h => by cases h; rfl
  | g :: gs, _, _, h => by cases h with | cons h r => rw [List.map_cons, List.map_cons, GpK.keys r]
theorem GpL.snoc {H : Hp} : ∀ {gs : List G} {vs : List V} {D E : List Addr} {v : V} {g : G}, GpL H vs gs D → Gp H v g E → GpL H (vs ++ [v]) (gs ++ [g]) (D ++ E)
  | [], _, _, E, v, g, h, q => by
    cases h
    have := GpL.cons q GpL.nil
    rw [List.append_nil] at this
    exact this
  | g0 :: gs, _, _, E, v, g, h, q => by
    cases h with
    | cons h r =>
      rw [List.append_assoc]
      exact .cons h (GpL.snoc r q)
theorem GpK.snoc {H : Hp} : ∀ {gs : List (Key × G)} {vs : List (Key × V)} {D E : List Addr} {k : Key} {v : V} {g : G}, GpK H vs gs D → Gp H v g E → GpK H (vs ++ [(k, v)]) (gs ++ [(k, g)]) (D ++ E)
  | [], _, _, E, k, v, g, h, q => by
    cases h
    have := GpK.cons (k := k) q GpK.nil
    rw [List.append_nil] at this
    exact this
  | g0 :: gs, _, _, E, k, v, g, h, q => by
    cases h with
    | cons h r =>
      rw [List.append_assoc]
      exact .cons h (GpK.snoc r q)
theorem valV_at : ∀ {kvs : List (Key × V)} {i : Nat} {k : Key} {v : V}, (kvs.map (·.1)).Nodup → kvs[i]? = some (k, v) → valV kvs k = some v
  | [], i, k, v, _, h => by simp at h
  | (k0, v0) :: r, 0, k, v, _, h => by simp at h; obtain ⟨rfl, rfl⟩ := h; exact valV_pos rfl
  | (k0, v0) :: r, i + 1, k, v, nd, h => by
    have h' : r[i]? = some (k, v) := by simpa using h
    rw [List.map_cons, List.nodup_cons] at nd
    have ne : ¬ k0 = k := fun e => nd.1 (by rw [e]; exact List.mem_map.mpr ⟨(k, v), List.mem_of_getElem? h', rfl⟩)
    rw [valV_neg ne]
    exact valV_at nd.2 h'
theorem upd_self {H : Hp} {a : Addr} {o : HO} (h : H a = some o) : upd H a o = H := by
  funext b
  by_cases e : b = a
  · subst e; rw [upd_same, h]
  · rw [upd_ne e]
theorem KeepT.lock {H : Hp} {a : Addr} {kvs : List (Key × V)} {o : HO} (h : H a = some (.dK kvs)) : KeepT H (L2.upd H a o) := KeepT.upd fun xs z => by rw [h] at z; cases z
/-- behind a lock -/
theorem Gp.locked {H : Hp} {g : G} {v : V} {D : List Addr} {b : Addr} {kvs : List (Key × V)} {o : HO} (h : Gp H v g D) (hb : H b = some (.dK kvs)) (n : b ∉ D) : Gp (upd H b o) v g D :=
  h.frame (KeepT.lock hb) fun c hc u z => by
    have ne : c ≠ b := fun e => by subst e; exact n hc
    rw [upd_ne ne]; exact z
theorem ty_ref {K : PySem.W.Frag} {H : Hp} {a : Addr} {o : HO} (h : H a = some o) : (∀ xs, o = .lst xs → TyX K H (.ref a) (.type "list")) ∧ (∀ xs, o = .tup xs → TyX K H (.ref a) (.type "tuple")) ∧ (∀ xs, o = .dK xs → TyX K H (.ref a) (.type "dict")) :=
  ⟨fun xs e => .base (.lst (by rw [h, e])), fun xs e => .base (.tup (by rw [h, e])), fun xs e => .base (.dK (by rw [h, e]))⟩
def spSameG (n : Nat) : Sp := fun vs H Q _ => ∃ x y g D E, vs = [x, y] ∧ Gp H x g D ∧ Gp H y g E ∧ (∀ a ∈ D, a ∉ E) ∧ g.dep < n ∧ Q (.bl true) H
def spItemsG (n : Nat) : Sp := fun vs H Q _ => ∃ (a b : Addr) (xs ys : List V) (gs : List G) (D E : List Addr), vs = [.ref a, .ref b] ∧ ((H a = some (.lst xs) ∧ H b = some (.lst ys)) ∨ (H a = some (.tup xs) ∧ H b = some (.tup ys))) ∧ xs.length ≤ 1000 ∧
  GpL H xs gs D ∧ GpL H ys gs E ∧ (∀ a ∈ D, a ∉ E) ∧ (∀ g ∈ gs, g.dep < n) ∧ Q (.bl true) H
def spCopyG (n : Nat) : Sp := fun vs H Q _ => ∃ x g D, vs = [x] ∧ Gp H x g D ∧ g.dep < n ∧ ∀ x' D' H', Gp H' x' g D' → Same H H' → (∀ a ∈ D', H a = none) → D'.Nodup → Q x' H'
mutual
theorem Gp.there {H : Hp} : ∀ {g : G} {v : V} {D : List Addr}, Gp H v g D → ∀ a ∈ D, H a ≠ none
  | .s _, _, _, h, a, ha => by cases h; cases ha
  | .t gs, _, _, h, a, ha => by cases h with | t h n r => exact GpL.there r a ha
  | .l gs, _, _, h, a, ha => by
    cases h with
    | l h n r =>
      rcases List.mem_cons.mp ha with rfl | ha
      · rw [h]; intro z; cases z
      · exact GpL.there r a ha
  | .d ks, _, _, h, a, ha => by
    cases h with
    | d h n nd r f =>
      rcases List.mem_cons.mp ha with rfl | ha
      · rw [h]; intro z; cases z
      · exact GpK.there r a ha
theorem GpL.there {H : Hp} : ∀ {g : List G} {v : List V} {D : List Addr}, GpL H v g D → ∀ a ∈ D, H a ≠ none
  | [], _, _, h, a, ha => by cases h; cases ha
  | g :: gs, _, _, h, a, ha => by
    cases h with
    | cons h r =>
      rcases List.mem_append.mp ha with ha | ha
      · exact Gp.there h a ha
      · exact GpL.there r a ha
theorem GpK.there {H : Hp} : ∀ {g : List (Key × G)} {v : List (Key × V)} {D : List Addr}, GpK H v g D → ∀ a ∈ D, H a ≠ none
  | [], _, _, h, a, ha => by cases h; cases ha
  | (k, g) :: gs, _, _, h, a, ha => by
    cases h with
    | cons h r =>
      rcases List.mem_append.mp ha with ha | ha
      · exact Gp.there h a ha
      · exact GpK.there r a ha
end
end Lt

set_option autoImplicit false
namespace Lt
open PySem L2 TL
open C8 (pss_cut)
/-! ## schemas as they stand in the heap -/
structure Tab where
  n : Str
  cols : List Col
  ch : List Cond
  un : List Str
  rf : List (Str × Str)
structure Ads where
  d : Addr
  c : Addr
  k : Addr
  u : Addr
  r : Addr
def rfD (p : Str × Str) : D := .t [.s (.str p.1), .s (.str p.2)]
theorem rf_at {H : Hp} {v : V} {p : Str × Str} (h : Tp H v (rfD p)) : ∃ a, v = .ref a ∧ H a = some (.tup [.str p.1, .str p.2]) := by
  obtain ⟨a, xs, rfl, h1, h2⟩ := t_at h
  cases h2 with
  | cons g r => cases g; cases r with
    | cons g r => cases g; cases r; exact ⟨a, rfl, h1⟩
theorem rf_mk {H : Hp} {a : Addr} {p : Str × Str} (h : H a = some (.tup [.str p.1, .str p.2])) : Tp H (.ref a) (rfD p) := .t h (.cons (.s rfl) (.cons (.s rfl) .nil))
theorem e_co_ch : ¬ ("columns" : Str) = ("checks" : Str) := by decide +kernel
theorem e_co_un : ¬ ("columns" : Str) = ("uniques" : Str) := by decide +kernel
theorem e_co_rf : ¬ ("columns" : Str) = ("references" : Str) := by decide +kernel
theorem e_ch_un : ¬ ("checks" : Str) = ("uniques" : Str) := by decide +kernel
theorem e_ch_rf : ¬ ("checks" : Str) = ("references" : Str) := by decide +kernel
theorem e_un_rf : ¬ ("uniques" : Str) = ("references" : Str) := by decide +kernel
def descD (a : Ads) : List (Key × V) := [(Sum.inr ("columns" : Str), .ref a.c), (Sum.inr ("checks" : Str), .ref a.k), (Sum.inr ("uniques" : Str), .ref a.u), (Sum.inr ("references" : Str), .ref a.r)]
theorem dd_c (a : Ads) : valV (descD a) (Sum.inr ("columns" : Str) : Key) = some (.ref a.c) := valV_pos rfl
theorem dd_k (a : Ads) : valV (descD a) (Sum.inr ("checks" : Str) : Key) = some (.ref a.k) := by unfold descD; rw [valV_neg (fun z => e_co_ch (Sum.inr.inj z)), valV_pos rfl]
theorem dd_u (a : Ads) : valV (descD a) (Sum.inr ("uniques" : Str) : Key) = some (.ref a.u) := by unfold descD; rw [valV_neg (fun z => e_co_un (Sum.inr.inj z)), valV_neg (fun z => e_ch_un (Sum.inr.inj z)), valV_pos rfl]
theorem dd_r (a : Ads) : valV (descD a) (Sum.inr ("references" : Str) : Key) = some (.ref a.r) := by unfold descD; rw [valV_neg (fun z => e_co_rf (Sum.inr.inj z)), valV_neg (fun z => e_ch_rf (Sum.inr.inj z)), valV_neg (fun z => e_un_rf (Sum.inr.inj z)), valV_pos rfl]
theorem merge_desc (a : Ads) : mergeK [] (descD a) = descD a := by
  simp [mergeK, putK, descD, e_co_ch, e_co_un, e_co_rf, e_ch_un, e_ch_rf, e_un_rf]
structure DescAt (H : Hp) (a : Ads) (t : Tab) : Prop where
  dk : H a.d = some (.dK (descD a))
  co : ColsAt H a.c t.cols
  ch : ∃ xs, H a.k = some (.lst xs) ∧ TpL H xs (t.ch.map condD)
  un : H a.u = some (.lst (t.un.map V.str))
  rf : ∃ xs, H a.r = some (.lst xs) ∧ TpL H xs (t.rf.map rfD)
def adL (a : Ads) : List Addr := [a.c, a.k, a.u, a.r]
theorem DescAt.frame {H H' : Hp} {a : Ads} {t : Tab} (h : DescAt H a t) (kt : KeepT H H') (kd : ∀ o, H a.d = some o → H' a.d = some o) (kl : ∀ b ∈ adL a, ∀ o, H b = some o → H' b = some o) : DescAt H' a t := by
  obtain ⟨h1, h2, ⟨xs, h3, h3'⟩, h4, ⟨ys, h5, h5'⟩⟩ := h
  refine ⟨kd _ h1, h2.mono kt (kl a.c (by simp [adL])), ⟨xs, kl a.k (by simp [adL]) _ h3, h3'.mono kt⟩, kl a.u (by simp [adL]) _ h4, ⟨ys, kl a.r (by simp [adL]) _ h5, h5'.mono kt⟩⟩
theorem DescAt.isL {H : Hp} {a : Ads} {t : Tab} (h : DescAt H a t) : ∀ b ∈ adL a, ∃ xs, H b = some (.lst xs) := by
  obtain ⟨h1, ⟨xs, h2, _⟩, ⟨ys, h3, _⟩, h4, ⟨zs, h5, _⟩⟩ := h
  intro b hb
  simp only [adL, List.mem_cons, List.not_mem_nil, or_false] at hb
  rcases hb with rfl | rfl | rfl | rfl
  · exact ⟨_, h2⟩
  · exact ⟨_, h3⟩
  · exact ⟨_, h4⟩
  · exact ⟨_, h5⟩
abbrev Sch := List (Ads × Tab)
def schK (s : Sch) : List (Key × V) := s.map fun p => ((Sum.inr p.2.n : Key), V.ref p.1.d)
def schN (s : Sch) : List Str := s.map fun p => p.2.n
def schL (s : Sch) : List Addr := s.flatMap fun p => adL p.1
structure SchAt (H : Hp) (S : Addr) (s : Sch) (t c : Addr) : Prop where
  sk : H S = some (.dK (schK s))
  ds : ∀ p ∈ s, DescAt H p.1 p.2
  nm : (schN s).Nodup
  dn : (t :: S :: s.map fun p => p.1.d).Nodup
  ln : (c :: schL s).Nodup
theorem sch_keys (s : Sch) : (schK s).map (·.1) = (schN s).map Sum.inr := by unfold schK schN; rw [List.map_map, List.map_map]; rfl
theorem sch_nd {s : Sch} (h : (schN s).Nodup) : ((schK s).map (·.1)).Nodup := by
  rw [sch_keys]
  exact List.Pairwise.map _ (fun a b e z => e (Sum.inr.inj z)) h
theorem sch_get {s : Sch} (h : (schN s).Nodup) {p : Ads × Tab} (hp : p ∈ s) : valV (schK s) (Sum.inr p.2.n : Key) = some (.ref p.1.d) := by
  obtain ⟨i, hi, e⟩ := List.getElem_of_mem hp
  refine valV_at (i := i) (sch_nd h) ?_
  unfold schK
  rw [List.getElem?_map, List.getElem?_eq_getElem hi, e]
  rfl
theorem sch_in {s : Sch} {n : Str} (h : n ∈ schN s) : ∃ p ∈ s, p.2.n = n := by
  obtain ⟨p, h1, h2⟩ := List.mem_map.mp h
  exact ⟨p, h1, h2⟩
theorem sch_one {s : Sch} (h : (schN s).Nodup) {p q : Ads × Tab} (hp : p ∈ s) (hq : q ∈ s) (e : p.2.n = q.2.n) : p = q := by
  obtain ⟨i, hi, ei⟩ := List.getElem_of_mem hp
  obtain ⟨j, hj, ej⟩ := List.getElem_of_mem hq
  have a1 : (schN s)[i]? = some p.2.n := by unfold schN; rw [List.getElem?_map, List.getElem?_eq_getElem hi, ei]; rfl
  have a2 : (schN s)[j]? = some p.2.n := by unfold schN; rw [List.getElem?_map, List.getElem?_eq_getElem hj, ej]; exact congrArg some e.symm
  have := nd_ix h a1 a2
  subst this
  rw [← ei, ← ej]
theorem SchAt.desc {H : Hp} {S : Addr} {s : Sch} {t c : Addr} (h : SchAt H S s t c) {p : Ads × Tab} (hp : p ∈ s) : DGet H S (.str p.2.n) (some (.ref p.1.d)) := by
  have g := DGet.k (k := (Sum.inr p.2.n : Key)) h.sk
  rw [sch_get h.nm hp] at g
  exact g
theorem DescAt.gc {H : Hp} {a : Ads} {t : Tab} (h : DescAt H a t) : DGet H a.d (.str "columns") (some (.ref a.c)) := by have g := DGet.k (k := (Sum.inr ("columns" : Str) : Key)) h.dk; rw [dd_c] at g; exact g
theorem DescAt.gk {H : Hp} {a : Ads} {t : Tab} (h : DescAt H a t) : DGet H a.d (.str "checks") (some (.ref a.k)) := by have g := DGet.k (k := (Sum.inr ("checks" : Str) : Key)) h.dk; rw [dd_k] at g; exact g
theorem DescAt.gu {H : Hp} {a : Ads} {t : Tab} (h : DescAt H a t) : DGet H a.d (.str "uniques") (some (.ref a.u)) := by have g := DGet.k (k := (Sum.inr ("uniques" : Str) : Key)) h.dk; rw [dd_u] at g; exact g
theorem DescAt.gr {H : Hp} {a : Ads} {t : Tab} (h : DescAt H a t) : DGet H a.d (.str "references") (some (.ref a.r)) := by have g := DGet.k (k := (Sum.inr ("references" : Str) : Key)) h.dk; rw [dd_r] at g; exact g
/-- the same but for the things at ex -/
def SameE (ex : List Addr) (H H' : Hp) : Prop := ∀ b o, H b = some o → b ∉ ex → H' b = some o
theorem SameE.refl (ex : List Addr) (H : Hp) : SameE ex H H := fun _ _ h _ => h
theorem SameE.trans {ex : List Addr} {H H1 H2 : Hp} (a : SameE ex H H1) (b : SameE ex H1 H2) : SameE ex H H2 := fun c o h n => b c o (a c o h n) n
theorem SameE.ofX {ex : List Addr} {t : Addr} {H H1 : Hp} (a : SameX t H H1) (h : t ∈ ex) : SameE ex H H1 := fun c o e n => a c o e (fun z => n (z ▸ h))
theorem SameE.of {ex : List Addr} {H H1 : Hp} (a : Same H H1) : SameE ex H H1 := fun c o e _ => a c o e
theorem SameE.upd {ex : List Addr} {H H1 : Hp} {p : Addr} (h : p ∈ ex) (o : HO) (a : SameE ex H H1) : SameE ex H (L2.upd H1 p o) := fun b u q n => by
  have ne : b ≠ p := fun z => n (z ▸ h)
  rw [upd_ne ne]; exact a b u q n
/-- what a schema's table may hold -/
structure TabOk (fr : List (Str × List Col)) (t : Tab) : Prop where
  nm : nameOk t.n
  co : ColsOk [] t.cols
  l0 : 1 ≤ t.cols.length
  l5 : t.cols.length ≤ 5
  c4 : t.ch.length ≤ 2
  cc : ∀ c ∈ t.ch, c.length ≤ 4 ∧ ∀ a ∈ c, a.length ≤ 4 ∧ ∀ cl ∈ a, ClOk t.cols cl
  u4 : t.un.length ≤ 4
  un : t.un.Nodup
  uc : ∀ n ∈ t.un, n ∈ colNs (t.cols.drop 1)
  r4 : t.rf.length ≤ 4
  rn : (t.rf.map (·.1)).Nodup
  rc : ∀ p ∈ t.rf, ∃ col ∈ t.cols.drop 1, col.n = p.1 ∧ p.2 ≠ t.n ∧ ∃ f ∈ fr, f.1 = p.2 ∧ ∃ kc, f.2[0]? = some kc ∧ kc.k = col.k
/-- a table that has no constraints yet -/
structure TabBare (t : Tab) : Prop where
  nm : nameOk t.n
  co : ColsOk [] t.cols
  l0 : 1 ≤ t.cols.length
  l5 : t.cols.length ≤ 5
  c0 : t.ch = []
  u0 : t.un = []
  r0 : t.rf = []
def frOf (s : Sch) : List (Str × List Col) := s.map fun p => (p.2.n, p.2.cols)
def spTable : Sp := fun vs H Q _ => ∃ (L : Addr) (cols : List Col), vs = [.ref L] ∧ ColsAt H L cols ∧ ∀ (a : Ads) (H' : Hp), (∀ n, DescAt H' a ⟨n, cols, [], [], []⟩) → Same H H' → H a.d = none → (∀ b ∈ adL a, H b = none) → (adL a).Nodup → Q (.ref a.d) H'
def spLimits : Sp := fun vs H Q _ => ∃ (t c S : Addr) (cs : List Int) (s : Sch) (a : Ads) (tab : Tab), vs = [.ref t, .ref S, .str tab.n] ∧ TapeAt H t c cs ∧ SchAt H S s t c ∧ s.length ≤ 6 ∧ (∀ p ∈ s, nameOk p.2.n ∧ 1 ≤ p.2.cols.length) ∧ (a, tab) ∈ s ∧ TabBare tab ∧
  ∀ (tab' : Tab) (H' : Hp), tab'.n = tab.n → tab'.cols = tab.cols → TabOk (frOf s) tab' → DescAt H' a tab' → TapeAt H' t c cs → KeepT H H' → SameE [t, a.k, a.u, a.r] H H' → Q .non H'
def spSchema : Sp := fun vs H Q _ => ∃ (t c : Addr) (cs : List Int) (least most : Int), vs = [.ref t, .int least, .int most] ∧ TapeAt H t c cs ∧ 0 ≤ least ∧ least ≤ most ∧ most ≤ 6 ∧
  ∀ (S : Addr) (s : Sch) (H' : Hp), SchAt H' S s t c → (∀ p ∈ s, TabOk (frOf s) p.2) → least ≤ s.length → (s.length : Int) ≤ most → TapeAt H' t c cs → SameX t H H' → Q (.ref S) H'
theorem mem_flat {s : Sch} {p : Ads × Tab} (h : p ∈ s) {b : Addr} (hb : b ∈ adL p.1) : b ∈ schL s := List.mem_flatMap.mpr ⟨p, h, hb⟩
theorem flat_one {s : Sch} (nd : (schL s).Nodup) {p q : Ads × Tab} (hp : p ∈ s) (hq : q ∈ s) {b : Addr} (h1 : b ∈ adL p.1) (h2 : b ∈ adL q.1) : p = q := by
  have nd := List.pairwise_flatMap.mp nd
  obtain ⟨i, hi, ei⟩ := List.getElem_of_mem hp
  obtain ⟨j, hj, ej⟩ := List.getElem_of_mem hq
  rcases Nat.lt_trichotomy i j with h | h | h
  · have := List.pairwise_iff_getElem.mp nd.2 i j hi hj h
    rw [ei, ej] at this
    exact absurd rfl (this b h1 b h2)
  · subst h; rw [← ei, ← ej]
  · have := List.pairwise_iff_getElem.mp nd.2 j i hj hi h
    rw [ei, ej] at this
    exact absurd rfl (this b h2 b h1)
theorem SchAt.tS {H : Hp} {S : Addr} {s : Sch} {t c : Addr} (h : SchAt H S s t c) : t ≠ S ∧ (∀ p ∈ s, p.1.d ≠ t) ∧ (∀ p ∈ s, p.1.d ≠ S) ∧ (∀ p ∈ s, ∀ b ∈ adL p.1, b ≠ c) := by
  have h1 := List.nodup_cons.mp h.dn
  have h2 := List.nodup_cons.mp h1.2
  have h3 := List.nodup_cons.mp h.ln
  refine ⟨fun e => h1.1 (by rw [e]; exact List.mem_cons_self), fun p hp e => h1.1 (List.mem_cons_of_mem _ (List.mem_map.mpr ⟨p, hp, e⟩)), fun p hp e => h2.1 (List.mem_map.mpr ⟨p, hp, e⟩), fun p hp b hb e => h3.1 (e ▸ mem_flat hp hb)⟩
theorem SchAt.monoX {H H' : Hp} {S : Addr} {s : Sch} {t c : Addr} {cs : List Int} (h : SchAt H S s t c) (T : TapeAt H t c cs) (e : SameX t H H') : SchAt H' S s t c := by
  obtain ⟨h1, h2, h3, _⟩ := h.tS
  refine ⟨e _ _ h.sk h1.symm, fun p hp => (h.ds p hp).frame (KeepT.ofX T e) (fun o z => e _ _ z (h2 p hp)) (fun b hb o z => e _ _ z ?_), h.nm, h.dn, h.ln⟩
  obtain ⟨xs, g⟩ := (h.ds p hp).isL b hb
  exact T.notL g
structure Lim (H H' : Hp) (t c : Addr) (cs : List Int) (a : Ads) (OL : Addr) (os : List Str) (conds : List Cond) (un : List Str) (rf : List (Str × Str)) : Prop where
  T : TapeAt H' t c cs
  kt : KeepT H H'
  se : SameE [t, a.k, a.u, a.r] H H'
  ol : H' OL = some (.lst (os.map V.str))
  ch : ∃ xs, H' a.k = some (.lst xs) ∧ TpL H' xs (conds.map condD)
  un : H' a.u = some (.lst (un.map V.str))
  rf : ∃ ys, H' a.r = some (.lst ys) ∧ TpL H' ys (rf.map rfD)
section
variable {H H' H2 : Hp} {t c : Addr} {cs : List Int} {a : Ads} {OL : Addr} {os : List Str} {conds : List Cond} {un : List Str} {rf : List (Str × Str)}
theorem Lim.stepX (L : Lim H H' t c cs a OL os conds un rf) (T2 : TapeAt H2 t c cs) (e : SameX t H' H2) : Lim H H2 t c cs a OL os conds un rf := by
  obtain ⟨T, kt, se, ol, ⟨xs, c1, c2⟩, un, ⟨ys, r1, r2⟩⟩ := L
  have k2 := KeepT.ofX T e
  exact ⟨T2, kt.trans k2, se.trans (SameE.ofX e (by simp)), e _ _ ol (T.notL ol), ⟨xs, e _ _ c1 (T.notL c1), c2.mono k2⟩, e _ _ un (T.notL un), ⟨ys, e _ _ r1 (T.notL r1), r2.mono k2⟩⟩
theorem Lim.step (L : Lim H H' t c cs a OL os conds un rf) (e : Same H' H2) : Lim H H2 t c cs a OL os conds un rf := by
  obtain ⟨T, kt, se, ol, ⟨xs, c1, c2⟩, un, ⟨ys, r1, r2⟩⟩ := L
  exact ⟨T.mono e, kt.trans (KeepT.of e), se.trans (SameE.of e), e _ _ ol, ⟨xs, e _ _ c1, c2.mono (KeepT.of e)⟩, e _ _ un, ⟨ys, e _ _ r1, r2.mono (KeepT.of e)⟩⟩
/-- what the schema shows while one table of it gets its constraints -/
theorem Lim.see {S : Addr} {s : Sch} {tab : Tab} (L : Lim H H' t c cs a OL os conds un rf) (A : SchAt H S s t c) (hm : (a, tab) ∈ s) (htk : ∃ kvs, H t = some (.dK kvs)) : DGet H' S (.str tab.n) (some (.ref a.d)) ∧ DGet H' a.d (.str "columns") (some (.ref a.c)) ∧ DGet H' a.d (.str "checks") (some (.ref a.k)) ∧ DGet H' a.d (.str "uniques") (some (.ref a.u)) ∧ DGet H' a.d (.str "references") (some (.ref a.r)) ∧ ColsAt H' a.c tab.cols ∧
    ∀ q ∈ s, DGet H' S (.str q.2.n) (some (.ref q.1.d)) ∧ DGet H' q.1.d (.str "columns") (some (.ref q.1.c)) ∧ ColsAt H' q.1.c q.2.cols := by
  obtain ⟨h1, h2, h3, h4⟩ := A.tS
  have D := A.ds _ hm
  have dl : ∀ {x : Addr} {kvs : List (Key × V)}, H x = some (.dK kvs) → x ≠ t → x ∉ [t, a.k, a.u, a.r] := by
    intro x kvs hx hxt hc
    have gl := D.isL
    simp only [List.mem_cons, List.not_mem_nil, or_false] at hc
    rcases hc with z | z | z | z
    · exact hxt z
    · obtain ⟨xs, g⟩ := gl a.k (by simp [adL]); rw [z, g] at hx; cases hx
    · obtain ⟨xs, g⟩ := gl a.u (by simp [adL]); rw [z, g] at hx; cases hx
    · obtain ⟨xs, g⟩ := gl a.r (by simp [adL]); rw [z, g] at hx; cases hx
  have hS : H' S = some (.dK (schK s)) := L.se _ _ A.sk (dl A.sk h1.symm)
  have all : ∀ q ∈ s, DGet H' S (.str q.2.n) (some (.ref q.1.d)) ∧ H' q.1.d = some (.dK (descD q.1)) ∧ ColsAt H' q.1.c q.2.cols := by
    intro q hq
    have g := DGet.k (k := (Sum.inr q.2.n : Key)) hS
    rw [sch_get A.nm hq] at g
    have Dq := A.ds q hq
    refine ⟨g, L.se _ _ Dq.dk (dl Dq.dk (h2 q hq)), Dq.co.mono L.kt fun o ho => L.se _ _ ho fun hc => ?_⟩
    have hb : q.1.c ∈ adL q.1 := by simp [adL]
    have nd := (List.nodup_cons.mp A.ln).2
    have one : ∀ b, b ∈ adL a → q.1.c = b → b = a.c := by
      intro b hba e
      have := flat_one nd hq hm hb (by rw [e]; exact hba)
      rw [← e, this]
    have ndA : (adL a).Nodup := (List.pairwise_flatMap.mp nd).1 _ hm
    simp only [adL, List.nodup_cons, List.mem_cons, List.not_mem_nil, or_false, not_or] at ndA
    simp only [List.mem_cons, List.not_mem_nil, or_false] at hc
    rcases hc with z | z | z | z
    · obtain ⟨kvs, e⟩ := htk
      obtain ⟨xs, g⟩ := Dq.isL q.1.c hb
      rw [z, e] at g; cases g
    · exact ndA.1.1 (one a.k (by simp [adL]) z).symm
    · exact ndA.1.2.1 (one a.u (by simp [adL]) z).symm
    · exact ndA.1.2.2 (one a.r (by simp [adL]) z).symm
  obtain ⟨g1, g2, g3⟩ := all _ hm
  have gg : ∀ {q : Ads}, H' q.d = some (.dK (descD q)) → DGet H' q.d (.str "columns") (some (.ref q.c)) := fun {q} e => by
    have g := DGet.k (k := (Sum.inr ("columns" : Str) : Key)) e; rw [dd_c] at g; exact g
  refine ⟨g1, gg g2, ?_, ?_, ?_, g3, fun q hq => ?_⟩
  · have g := DGet.k (k := (Sum.inr ("checks" : Str) : Key)) g2; rw [dd_k] at g; exact g
  · have g := DGet.k (k := (Sum.inr ("uniques" : Str) : Key)) g2; rw [dd_u] at g; exact g
  · have g := DGet.k (k := (Sum.inr ("references" : Str) : Key)) g2; rw [dd_r] at g; exact g
  · obtain ⟨q1, q2, q3⟩ := all q hq
    exact ⟨q1, gg q2, q3⟩
end
/-- a list of texts, compared with the empty one -/
theorem strs_dp {K : PySem.W.Frag} {H : Hp} : ∀ xs : List Str, DpAll K H (xs.map V.str) (xs.map PyData.str)
  | [] => .nil
  | x :: r => .cons (.str x) (strs_dp r)
theorem strs_lay : ∀ xs : List Str, (∀ x ∈ xs, PyData.strOk x = true) → PyData.canLayAll0 (xs.map PyData.str) = true ∧ PyData.depthAll (xs.map PyData.str) ≤ 1
  | [], _ => by simp [PyData.canLayAll0, PyData.depthAll]
  | x :: r, h => by
    obtain ⟨a, b⟩ := strs_lay r fun y hy => h y (List.mem_cons_of_mem _ hy)
    have hx := h x List.mem_cons_self
    constructor
    · simp [PyData.canLayAll0, PyData.canLay0, a, hx]
    · simp only [List.map_cons, PyData.depthAll, PyData.depth]
      omega
theorem strs_shaped {xs : List Str} (h : ∀ x ∈ xs, PyData.strOk x = true) : SeqAt.shaped (.list (xs.map PyData.str)) = true := by
  obtain ⟨a, b⟩ := strs_lay xs h
  simp only [SeqAt.shaped, PyData.canLay0, a, Bool.true_and, PyData.depth]
  exact decide_eq_true (by omega)
theorem strs_eqv (xs : List Str) : PyData.eqv (.list (xs.map PyData.str)) (.list []) = xs.isEmpty := by cases xs <;> rfl
theorem nameOk.str {z : Str} (h : nameOk z) : PyData.strOk z = true := strOk_of fun c hc => (h.2.2 c hc).ok
/-- one table's description has changed, all else stands -/
theorem SchAt.set {H H' : Hp} {S : Addr} {s : Sch} {t c : Addr} {i : Nat} {a : Ads} {tab tab' : Tab} (h : SchAt H S s t c) (ht : ∃ kvs, H t = some (.dK kvs)) (hi : s[i]? = some (a, tab)) (hn : tab'.n = tab.n) (hd : DescAt H' a tab') (kt : KeepT H H') (e : SameE [t, a.k, a.u, a.r] H H') : SchAt H' S (s.set i (a, tab')) t c := by
  obtain ⟨h1, h2, h3, h4⟩ := h.tS
  have hm : (a, tab) ∈ s := List.mem_of_getElem? hi
  have hil : i < s.length := (List.getElem?_eq_some_iff.mp hi).1
  have dl : ∀ {x : Addr} {kvs : List (Key × V)}, H x = some (.dK kvs) → x ≠ t → x ∉ [t, a.k, a.u, a.r] := by
    intro x kvs hx hxt hc
    have gl := (h.ds _ hm).isL
    simp only [List.mem_cons, List.not_mem_nil, or_false] at hc
    rcases hc with z | z | z | z
    · exact hxt z
    · obtain ⟨xs, g⟩ := gl a.k (by simp [adL]); rw [z, g] at hx; cases hx
    · obtain ⟨xs, g⟩ := gl a.u (by simp [adL]); rw [z, g] at hx; cases hx
    · obtain ⟨xs, g⟩ := gl a.r (by simp [adL]); rw [z, g] at hx; cases hx
  have ek : schK (s.set i (a, tab')) = schK s := by
    unfold schK
    rw [List.map_set]
    refine List.ext_getElem? fun j => ?_
    rw [List.getElem?_set]
    split
    · rename_i hj; subst hj
      rw [List.getElem?_map, hi, if_pos (by rw [List.length_map]; exact hil)]
      show some ((Sum.inr tab'.n : Key), V.ref a.d) = _
      rw [hn]; rfl
    · rfl
  have en : schN (s.set i (a, tab')) = schN s := by
    unfold schN
    rw [List.map_set]
    refine List.ext_getElem? fun j => ?_
    rw [List.getElem?_set]
    split
    · rename_i hj; subst hj
      rw [List.getElem?_map, hi, if_pos (by rw [List.length_map]; exact hil)]
      exact congrArg some hn
    · rfl
  have ea : (s.set i (a, tab')).map (fun p => p.1) = s.map (fun p => p.1) := by
    rw [List.map_set]
    refine List.ext_getElem? fun j => ?_
    rw [List.getElem?_set]
    split
    · rename_i hj; subst hj
      rw [List.getElem?_map, hi, if_pos (by rw [List.length_map]; exact hil)]
      rfl
    · rfl
  have ed : (s.set i (a, tab')).map (fun p => p.1.d) = s.map (fun p => p.1.d) := by
    have := congrArg (List.map fun x : Ads => x.d) ea
    rw [List.map_map, List.map_map] at this
    exact this
  have el : schL (s.set i (a, tab')) = schL s := by
    have := congrArg (List.flatMap fun x : Ads => adL x) ea
    rw [List.flatMap_map, List.flatMap_map] at this
    exact this
  refine ⟨?_, fun p hp => ?_, by rw [en]; exact h.nm, by rw [ed]; exact h.dn, by rw [el]; exact h.ln⟩
  · rw [ek]; exact e _ _ h.sk (dl h.sk h1.symm)
  · obtain ⟨j, hj, ej⟩ := List.getElem_of_mem hp
    rw [List.getElem_set] at ej
    split at ej
    · rw [← ej]; exact hd
    · rename_i hne
      rw [List.length_set] at hj
      have hps : p ∈ s := by rw [← ej]; exact List.getElem_mem hj
      have D := h.ds p hps
      refine D.frame kt (fun o z => e _ _ z (by rw [D.dk] at z; cases z; exact dl D.dk (h2 p hps))) (fun b hb o z => e _ _ z fun hc => ?_)
      have hb2 : b ∈ adL a ∨ b = t := by
        simp only [List.mem_cons, List.not_mem_nil, or_false] at hc
        rcases hc with z | z | z | z
        · exact .inr z
        · exact .inl (by rw [z]; simp [adL])
        · exact .inl (by rw [z]; simp [adL])
        · exact .inl (by rw [z]; simp [adL])
      rcases hb2 with hb2 | hb2
      · have eq := flat_one (List.nodup_cons.mp h.ln).2 hps hm hb hb2
        have hi' : s[i] = (a, tab) := by rw [List.getElem?_eq_getElem hil] at hi; exact Option.some.inj hi
        have b1 : (schN s)[j]? = some tab.n := by unfold schN; rw [List.getElem?_map, List.getElem?_eq_getElem hj, ej, eq]; rfl
        have b2 : (schN s)[i]? = some tab.n := by unfold schN; rw [List.getElem?_map, hi]; rfl
        exact hne (nd_ix h.nm b2 b1)
      · obtain ⟨xs, g⟩ := D.isL b hb
        obtain ⟨kvs, h5⟩ := ht
        rw [hb2, h5] at g
        cases g
end Lt

set_option autoImplicit false
namespace Lt
open PySem L2 TL
open C8 (pss_cut)
/-! ## a schema in the making -/
theorem putK_fresh {kvs : List (Key × V)} {k : Key} {v : V} (h : k ∉ kvs.map (·.1)) : putK kvs k v = kvs ++ [(k, v)] := by
  unfold putK
  rw [if_neg]
  intro z
  obtain ⟨x, h1, h2⟩ := List.any_eq_true.mp z
  exact h (List.mem_map.mpr ⟨x, h1, of_decide_eq_true h2⟩)
theorem schK_new {s : Sch} {a : Ads} {tab : Tab} (h : tab.n ∉ schN s) : putK (schK s) (Sum.inr tab.n : Key) (.ref a.d) = schK (s ++ [(a, tab)]) := by
  rw [putK_fresh]
  · unfold schK; rw [List.map_append]; rfl
  · rw [sch_keys]
    intro z
    obtain ⟨x, h1, h2⟩ := List.mem_map.mp z
    cases h2
    exact h h1
theorem SchAt.notS {H : Hp} {S : Addr} {s : Sch} {t c : Addr} (A : SchAt H S s t c) : ∀ p ∈ s, ∀ b ∈ adL p.1, b ≠ S := fun p hp b hb e => by
  obtain ⟨xs, g⟩ := (A.ds p hp).isL b hb
  rw [e, A.sk] at g
  cases g
theorem SchAt.add {H : Hp} {S t c : Addr} {s : Sch} {a : Ads} {tab : Tab} (A : SchAt H S s t c) (D : DescAt H a tab) (hz : tab.n ∉ schN s) (hd : a.d ≠ t ∧ a.d ≠ S ∧ ∀ p ∈ s, a.d ≠ p.1.d)
    (hl : ∀ b ∈ adL a, b ≠ c ∧ b ∉ schL s) (nd : (adL a).Nodup) : SchAt (upd H S (.dK (schK (s ++ [(a, tab)])))) S (s ++ [(a, tab)]) t c := by
  obtain ⟨h1, h2, h3, h4⟩ := A.tS
  have kt : KeepT H (upd H S (.dK (schK (s ++ [(a, tab)])))) := KeepT.lock A.sk
  have fr : ∀ {a' : Ads} {tab' : Tab}, DescAt H a' tab' → a'.d ≠ S → DescAt (upd H S (.dK (schK (s ++ [(a, tab)])))) a' tab' := fun {a' tab'} D' ne =>
    D'.frame kt (fun o z => by rw [upd_ne ne]; exact z) (fun b hb o z => by
      have : b ≠ S := fun e => by
        obtain ⟨xs, g⟩ := D'.isL b hb
        rw [e, A.sk] at g; cases g
      rw [upd_ne this]; exact z)
  refine ⟨upd_same, fun p hp => ?_, ?_, ?_, ?_⟩
  · rcases List.mem_append.mp hp with hp | hp
    · exact fr (A.ds p hp) (h3 p hp)
    · rw [List.mem_singleton.mp hp]; exact fr D hd.2.1
  · unfold schN
    rw [List.map_append]
    refine List.nodup_append.mpr ⟨A.nm, by simp, fun x hx y hy => ?_⟩
    have : y = tab.n := by simpa using hy
    subst this
    rintro rfl
    exact hz hx
  · rw [List.map_append]
    show ((t :: S :: s.map fun p => p.1.d) ++ [a.d]).Nodup
    refine List.nodup_append.mpr ⟨A.dn, by simp, fun x hx y hy => ?_⟩
    have : y = a.d := by simpa using hy
    subst this
    rcases List.mem_cons.mp hx with rfl | hx
    · exact hd.1.symm
    · rcases List.mem_cons.mp hx with rfl | hx
      · exact hd.2.1.symm
      · obtain ⟨p, hp, e⟩ := List.mem_map.mp hx
        rw [← e]; exact (hd.2.2 p hp).symm
  · have e : schL (s ++ [(a, tab)]) = schL s ++ adL a := by unfold schL; rw [List.flatMap_append]; simp
    rw [e]
    show ((c :: schL s) ++ adL a).Nodup
    refine List.nodup_append.mpr ⟨A.ln, nd, fun x hx y hy => ?_⟩
    rintro rfl
    rcases List.mem_cons.mp hx with e | hx
    · exact (hl x hy).1 e
    · exact (hl x hy).2 hx
/-- all stands but the tape and a list that is no part of it -/
theorem SchAt.monoXY {H H' : Hp} {S U : Addr} {s : Sch} {t c : Addr} {cs : List Int} {us : List V} (h : SchAt H S s t c) (T : TapeAt H t c cs) (hU : H U = some (.lst us)) (nU : U ∉ schL s) (e : SameXY t U H H') : SchAt H' S s t c := by
  obtain ⟨h1, h2, h3, _⟩ := h.tS
  have nl : ∀ {b : Addr} {kvs : List (Key × V)}, H b = some (.dK kvs) → b ≠ U := fun hb z => by rw [z, hU] at hb; cases hb
  refine ⟨e _ _ h.sk h1.symm (nl h.sk), fun p hp => (h.ds p hp).frame (KeepT.ofXY T hU e) (fun o z => e _ _ z (h2 p hp) (nl (h.ds p hp).dk)) (fun b hb o z => e _ _ z ?_ ?_), h.nm, h.dn, h.ln⟩
  · obtain ⟨xs, g⟩ := (h.ds p hp).isL b hb
    exact T.notL g
  · rintro rfl; exact nU (mem_flat hp hb)
theorem SameXY.free {t u : Addr} {H H' : Hp} (e : SameXY t u H H') {b : Addr} (h1 : b ≠ t) (h2 : b ≠ u) (h : H' b = none) : H b = none := by
  cases z : H b with
  | none => rfl
  | some o => have := e _ _ z h1 h2; rw [h] at this; cases this
theorem set_map {α β : Type} {s : List α} {i : Nat} {x y : α} (f : α → β) (h : s[i]? = some x) (e : f y = f x) : (s.set i y).map f = s.map f := by
  have hil : i < s.length := (List.getElem?_eq_some_iff.mp h).1
  rw [List.map_set]
  refine List.ext_getElem? fun j => ?_
  rw [List.getElem?_set]
  split
  · rename_i hj; subst hj
    rw [List.getElem?_map, h, if_pos (by rw [List.length_map]; exact hil), e]
    rfl
  · rfl
/-- a schema whose tables get their constraints one after another: those in done have them -/
structure Half (H0 H' : Hp) (t c : Addr) (cs : List Int) (S : Addr) (s s' : Sch) (done : List Str) : Prop where
  A : SchAt H' S s' t c
  T : TapeAt H' t c cs
  ads : s'.map (·.1) = s.map (·.1)
  fr : frOf s' = frOf s
  ok : ∀ p ∈ s', p.2.n ∈ done → TabOk (frOf s) p.2
  ba : ∀ p ∈ s', p.2.n ∉ done → TabBare p.2
  se : SameX t H0 H'
  new : ∀ b ∈ schL s', H0 b = none
theorem schN_of {s s' : Sch} (h : frOf s' = frOf s) : schN s' = schN s := by
  have := congrArg (List.map (·.1)) h
  unfold frOf at this
  rw [List.map_map, List.map_map] at this
  exact this
theorem schL_of {s s' : Sch} (h : s'.map (·.1) = s.map (·.1)) : schL s' = schL s := by
  have := congrArg (List.flatMap fun x : Ads => adL x) h
  rw [List.flatMap_map, List.flatMap_map] at this
  exact this
theorem Half.put {H0 H1 H2 : Hp} {t c : Addr} {cs : List Int} {S : Addr} {s s' : Sch} {done : List Str} {a : Ads} {tab tab' : Tab} (L : Half H0 H1 t c cs S s s' done) (hm : (a, tab) ∈ s')
    (hn : tab'.n = tab.n) (hc : tab'.cols = tab.cols) (ok : TabOk (frOf s') tab') (D : DescAt H2 a tab') (T : TapeAt H2 t c cs) (kt : KeepT H1 H2) (e : SameE [t, a.k, a.u, a.r] H1 H2) :
    ∃ s2, Half H0 H2 t c cs S s s2 (done ++ [tab.n]) := by
  obtain ⟨i, hi, ei⟩ := List.getElem_of_mem hm
  have hi' : s'[i]? = some (a, tab) := by rw [List.getElem?_eq_getElem hi, ei]
  have ht : ∃ kvs, H1 t = some (.dK kvs) := by obtain ⟨_, _, _, _, e, _⟩ := L.T.dk; exact ⟨_, e⟩
  have f1 : frOf (s'.set i (a, tab')) = frOf s := by
    rw [← L.fr]
    exact set_map (fun p : Ads × Tab => (p.2.n, p.2.cols)) hi' (by show (tab'.n, tab'.cols) = (tab.n, tab.cols); rw [hn, hc])
  have f2 : (s'.set i (a, tab')).map (·.1) = s.map (·.1) := by rw [← L.ads]; exact set_map (fun p : Ads × Tab => p.1) hi' rfl
  have back : ∀ p ∈ s'.set i (a, tab'), p = (a, tab') ∨ (p ∈ s' ∧ p.2.n ≠ tab.n) := by
    intro p hp
    obtain ⟨j, hj, ej⟩ := List.getElem_of_mem hp
    rw [List.getElem_set] at ej
    split at ej
    · exact .inl ej.symm
    · rename_i hne
      rw [List.length_set] at hj
      have hps : p ∈ s' := by rw [← ej]; exact List.getElem_mem hj
      refine .inr ⟨hps, fun z => ?_⟩
      have b1 : (schN s')[j]? = some tab.n := by unfold schN; rw [List.getElem?_map, List.getElem?_eq_getElem hj, ej, ← z]; rfl
      have b2 : (schN s')[i]? = some tab.n := by unfold schN; rw [List.getElem?_map, hi']; rfl
      exact hne (nd_ix L.A.nm b2 b1)
  refine ⟨s'.set i (a, tab'), L.A.set ht hi' hn D kt e, T, f2, f1, ?_, ?_, ?_, ?_⟩
  · intro p hp hd
    rcases back p hp with rfl | ⟨h1, h2⟩
    · rw [← L.fr]; exact ok
    · rcases List.mem_append.mp hd with hd | hd
      · exact L.ok p h1 hd
      · exact absurd (List.mem_singleton.mp hd) h2
  · intro p hp hd
    rcases back p hp with rfl | ⟨h1, h2⟩
    · exact absurd (List.mem_append.mpr (.inr (by rw [List.mem_singleton]; exact hn))) hd
    · exact L.ba p h1 fun z => hd (List.mem_append.mpr (.inl z))
  · intro b o hb hbt
    have g := L.se b o hb hbt
    refine e b o g fun hc => ?_
    simp only [List.mem_cons, List.not_mem_nil, or_false] at hc
    have nw : ∀ x ∈ adL a, b ≠ x := fun x hx z => by
      have := L.new x (mem_flat hm hx)
      rw [← z, hb] at this; cases this
    rcases hc with z | z | z | z
    · exact hbt z
    · exact nw a.k (by simp [adL]) z
    · exact nw a.u (by simp [adL]) z
    · exact nw a.r (by simp [adL]) z
  · rw [schL_of (f2.trans L.ads.symm)]; exact L.new
end Lt

set_option autoImplicit false
namespace Lt
open PySem L2 TL
open C8 (pss_cut)
/-! ## schemas as data; what they say of columns and tables -/
mutual
def gOf : D → G
  | .s v => .s v
  | .t ds => .t (gOfL ds)
def gOfL : List D → List G
  | [] => []
  | d :: ds => gOf d :: gOfL ds
end
mutual
def D.sm : D → Bool
  | .s _ => true
  | .t ds => decide (ds.length ≤ 1000) && smL ds
def smL : List D → Bool
  | [] => true
  | d :: ds => d.sm && smL ds
end
theorem gOfL_map : ∀ ds : List D, gOfL ds = ds.map gOf
  | [] => rfl
  | d :: ds => by simp only [gOfL, List.map_cons]; rw [gOfL_map ds]
theorem smL_all : ∀ {ds : List D}, smL ds = true ↔ ∀ d ∈ ds, d.sm = true
  | [] => by simp [smL]
  | d :: ds => by simp only [smL, Bool.and_eq_true, List.forall_mem_cons]; rw [smL_all]
theorem sm_t {ds : List D} (h : ds.length ≤ 1000) (k : ∀ d ∈ ds, d.sm = true) : (D.t ds).sm = true := by
  simp only [D.sm, Bool.and_eq_true, decide_eq_true_eq]
  exact ⟨h, smL_all.mpr k⟩
mutual
theorem Tp.g {H : Hp} : ∀ {d : D} {v : V}, Tp H v d → d.sm = true → Gp H v (gOf d) []
  | .s _, _, h, _ => by cases h with | s h => exact .s h
  | .t ds, _, h, k => by
    cases h with
    | t h r =>
      simp only [D.sm, Bool.and_eq_true, decide_eq_true_eq] at k
      exact .t h (by rw [r.length]; exact k.1) (TpL.g r k.2)
theorem TpL.g {H : Hp} : ∀ {ds : List D} {vs : List V}, TpL H vs ds → smL ds = true → GpL H vs (gOfL ds) []
  | [], _, h, _ => by cases h; exact .nil
  | d :: ds, _, h, k => by
    cases h with
    | cons h r =>
      simp only [smL, Bool.and_eq_true] at k
      exact GpL.cons (D := []) (E := []) (Tp.g h k.1) (TpL.g r k.2)
end
mutual
def D.dp : D → Nat
  | .s _ => 0
  | .t ds => dpL ds + 1
def dpL : List D → Nat
  | [] => 0
  | d :: ds => max d.dp (dpL ds)
end
mutual
theorem dep_gOf : ∀ d : D, (gOf d).dep = d.dp
  | .s _ => rfl
  | .t ds => by simp only [gOf, G.dep, D.dp]; rw [dep_gOfL ds]
theorem dep_gOfL : ∀ ds : List D, depL (gOfL ds) = dpL ds
  | [] => rfl
  | d :: ds => by simp only [gOfL, depL, dpL]; rw [dep_gOf d, dep_gOfL ds]
end
theorem depL_le {n : Nat} : ∀ {gs : List G}, (∀ g ∈ gs, g.dep ≤ n) → depL gs ≤ n
  | [], _ => Nat.zero_le _
  | g :: gs, h => by
    simp only [depL]
    have a := h g List.mem_cons_self
    have b := depL_le fun x hx => h x (List.mem_cons_of_mem _ hx)
    omega
theorem depK_le {n : Nat} : ∀ {gs : List (Key × G)}, (∀ p ∈ gs, p.2.dep ≤ n) → depK gs ≤ n
  | [], _ => Nat.zero_le _
  | (k, g) :: gs, h => by
    simp only [depK]
    have a := h _ List.mem_cons_self
    have b := depK_le fun x hx => h x (List.mem_cons_of_mem _ hx)
    simp only at a
    omega
theorem dpL_le {n : Nat} : ∀ {gs : List D}, (∀ g ∈ gs, g.dp ≤ n) → dpL gs ≤ n
  | [], _ => Nat.zero_le _
  | g :: gs, h => by
    simp only [dpL]
    have a := h g List.mem_cons_self
    have b := dpL_le fun x hx => h x (List.mem_cons_of_mem _ hx)
    omega
theorem col_sm (c : Col) : (colD c).sm = true := rfl
theorem col_dp (c : Col) : (colD c).dp = 1 := rfl
theorem rf_sm (c : Str × Str) : (rfD c).sm = true := rfl
theorem rf_dp (c : Str × Str) : (rfD c).dp = 1 := rfl
theorem cl_sm (c : Cl) : (clD c).sm = true := rfl
theorem cl_dp (c : Cl) : (clD c).dp = 1 := rfl
theorem cond_sm {c : Cond} (h : c.length ≤ 1000) (k : ∀ a ∈ c, a.length ≤ 1000) : (condD c).sm = true := by
  refine sm_t (by rw [List.length_map]; exact h) fun d hd => ?_
  obtain ⟨a, ha, rfl⟩ := List.mem_map.mp hd
  refine sm_t (by rw [List.length_map]; exact k a ha) fun d hd => ?_
  obtain ⟨cl, _, rfl⟩ := List.mem_map.mp hd
  exact cl_sm cl
theorem cond_dp (c : Cond) : (condD c).dp ≤ 3 := by
  have : dpL (c.map altD) ≤ 2 := by
    refine dpL_le fun d hd => ?_
    obtain ⟨a, _, rfl⟩ := List.mem_map.mp hd
    have : dpL (a.map clD) ≤ 1 := dpL_le fun d hd => by
      obtain ⟨cl, _, rfl⟩ := List.mem_map.mp hd
      exact Nat.le_of_eq (cl_dp cl)
    simp only [altD, D.dp]; omega
  simp only [condD, D.dp]; omega
/-- a list of tuples as data -/
def lG (ds : List D) : G := .l (gOfL ds)
def strsG (xs : List Str) : G := .l (xs.map fun x => .s (.str x))
theorem strsG_L {H : Hp} : ∀ xs : List Str, GpL H (xs.map V.str) (xs.map fun x => G.s (.str x)) []
  | [] => .nil
  | x :: r => GpL.cons (D := []) (E := []) (.s rfl) (strsG_L r)
theorem strsG_at {H : Hp} {N : Addr} {xs : List Str} (h : H N = some (.lst (xs.map V.str))) (hl : xs.length ≤ 1000) : Gp H (.ref N) (strsG xs) [N] := .l h (by rw [List.length_map]; exact hl) (strsG_L xs)
theorem strsG_dep (xs : List Str) : (strsG xs).dep ≤ 1 := by
  have : depL (xs.map fun x => G.s (.str x)) ≤ 0 := depL_le fun g hg => by
    obtain ⟨x, _, rfl⟩ := List.mem_map.mp hg
    exact Nat.le_refl 0
  simp only [strsG, G.dep]; omega
def descG (t : Tab) : G := .d [(Sum.inr ("columns" : Str), lG (t.cols.map colD)), (Sum.inr ("checks" : Str), lG (t.ch.map condD)), (Sum.inr ("uniques" : Str), strsG t.un), (Sum.inr ("references" : Str), lG (t.rf.map rfD))]
def tabsG (ts : List Tab) : List (Key × G) := ts.map fun t => ((Sum.inr t.n : Key), descG t)
def schG (s : Sch) : G := .d (tabsG (s.map (·.2)))
/-- sizes that any schema here keeps to -/
structure TabSm (t : Tab) : Prop where
  co : t.cols.length ≤ 40
  ch : t.ch.length ≤ 40
  cc : ∀ c ∈ t.ch, c.length ≤ 20 ∧ ∀ a ∈ c, a.length ≤ 20
  un : t.un.length ≤ 40
  rf : t.rf.length ≤ 40
theorem TabOk.sm {fr : List (Str × List Col)} {t : Tab} (h : TabOk fr t) : TabSm t := by
  have h1 := h.l5
  have h2 := h.c4
  have h3 := h.u4
  have h4 := h.r4
  exact ⟨by omega, by omega, fun c hc => by
    obtain ⟨a, b⟩ := h.cc c hc
    exact ⟨by omega, fun x hx => by have := (b x hx).1; omega⟩, by omega, by omega⟩
theorem lG_dep {ds : List D} {n : Nat} (h : ∀ d ∈ ds, d.dp ≤ n) : (lG ds).dep ≤ n + 1 := by
  simp only [lG, G.dep]
  rw [dep_gOfL]
  have := dpL_le h
  omega
theorem desc_dep (t : Tab) : (descG t).dep ≤ 5 := by
  have : depK [((Sum.inr ("columns" : Str) : Key), lG (t.cols.map colD)), (Sum.inr ("checks" : Str), lG (t.ch.map condD)), (Sum.inr ("uniques" : Str), strsG t.un), (Sum.inr ("references" : Str), lG (t.rf.map rfD))] ≤ 4 := by
    refine depK_le fun p hp => ?_
    simp only [List.mem_cons, List.not_mem_nil, or_false] at hp
    rcases hp with rfl | rfl | rfl | rfl
    · exact Nat.le_trans (lG_dep (n := 1) fun d hd => by obtain ⟨x, _, rfl⟩ := List.mem_map.mp hd; exact Nat.le_of_eq (col_dp x)) (by decide)
    · exact lG_dep (n := 3) fun d hd => by obtain ⟨x, _, rfl⟩ := List.mem_map.mp hd; exact cond_dp x
    · exact Nat.le_trans (strsG_dep _) (by decide)
    · exact Nat.le_trans (lG_dep (n := 1) fun d hd => by obtain ⟨x, _, rfl⟩ := List.mem_map.mp hd; exact Nat.le_of_eq (rf_dp x)) (by decide)
  simp only [descG, G.dep]; omega
theorem sch_dep (s : Sch) : (schG s).dep ≤ 6 := by
  have : depK (tabsG (s.map (·.2))) ≤ 5 := depK_le fun p hp => by
    obtain ⟨t, _, rfl⟩ := List.mem_map.mp hp
    exact desc_dep t
  simp only [schG, G.dep]; omega
theorem desc_nd (a : Ads) : ((descD a).map (·.1)).Nodup := by
  simp only [descD, List.map_cons, List.map_nil, List.nodup_cons, List.mem_cons, List.not_mem_nil, or_false, not_or, not_false_eq_true, List.nodup_nil, and_true]
  refine ⟨⟨fun z => e_co_ch (Sum.inr.inj z), fun z => e_co_un (Sum.inr.inj z), fun z => e_co_rf (Sum.inr.inj z)⟩, ⟨fun z => e_ch_un (Sum.inr.inj z), fun z => e_ch_rf (Sum.inr.inj z)⟩, fun z => e_un_rf (Sum.inr.inj z)⟩
theorem DescAt.g {H : Hp} {a : Ads} {t : Tab} (h : DescAt H a t) (k : TabSm t) : Gp H (.ref a.d) (descG t) (a.d :: adL a) := by
  obtain ⟨xs, h2, r2⟩ := h.co
  obtain ⟨ys, h3, r3⟩ := h.ch
  obtain ⟨zs, h5, r5⟩ := h.rf
  have g2 : Gp H (.ref a.c) (lG (t.cols.map colD)) [a.c] := .l h2 (by have := k.co; rw [r2.length, List.length_map]; omega) (r2.g (smL_all.mpr fun d hd => by obtain ⟨x, _, rfl⟩ := List.mem_map.mp hd; rfl))
  have g3 : Gp H (.ref a.k) (lG (t.ch.map condD)) [a.k] := .l h3 (by have := k.ch; rw [r3.length, List.length_map]; omega) (r3.g (smL_all.mpr fun d hd => by
    obtain ⟨x, hx, rfl⟩ := List.mem_map.mp hd
    have := k.cc x hx
    exact cond_sm (by omega) fun a ha => by have := this.2 a ha; omega))
  have g4 : Gp H (.ref a.u) (strsG t.un) [a.u] := strsG_at h.un (by have := k.un; omega)
  have g5 : Gp H (.ref a.r) (lG (t.rf.map rfD)) [a.r] := .l h5 (by have := k.rf; rw [r5.length, List.length_map]; omega) (r5.g (smL_all.mpr fun d hd => by obtain ⟨x, _, rfl⟩ := List.mem_map.mp hd; rfl))
  refine .d h.dk (by show 4 ≤ 1000; decide) (desc_nd a) (D := adL a) (GpK.cons (D := [a.c]) (E := [a.k, a.u, a.r]) g2 (GpK.cons (D := [a.k]) (E := [a.u, a.r]) g3 (GpK.cons (D := [a.u]) (E := [a.r]) g4 (GpK.cons (D := [a.r]) (E := []) g5 .nil)))) fun hm => ?_
  obtain ⟨ys, e⟩ := h.isL _ hm
  rw [h.dk] at e
  cases e
def schD (s : Sch) : List Addr := s.flatMap fun p => p.1.d :: adL p.1
theorem tabs_gp {H : Hp} : ∀ {s : Sch}, (∀ p ∈ s, DescAt H p.1 p.2) → (∀ p ∈ s, TabSm p.2) → GpK H (schK s) (tabsG (s.map (·.2))) (schD s)
  | [], _, _ => .nil
  | p :: r, h, k => by
    have := tabs_gp (fun q hq => h q (List.mem_cons_of_mem _ hq)) (fun q hq => k q (List.mem_cons_of_mem _ hq))
    exact GpK.cons ((h p List.mem_cons_self).g (k p List.mem_cons_self)) this
theorem sch_gp {H : Hp} {S : Addr} {s : Sch} (hs : H S = some (.dK (schK s))) (hd : ∀ p ∈ s, DescAt H p.1 p.2) (nm : (schN s).Nodup) (k : ∀ p ∈ s, TabSm p.2) (l : s.length ≤ 100) (ne : ∀ p ∈ s, p.1.d ≠ S) : Gp H (.ref S) (schG s) (S :: schD s) := by
  refine .d hs (by unfold schK; rw [List.length_map]; omega) (sch_nd nm) (tabs_gp hd k) fun hm => ?_
  obtain ⟨p, hp, hb⟩ := List.mem_flatMap.mp hm
  rcases List.mem_cons.mp hb with e | hb
  · exact ne p hp e.symm
  · obtain ⟨xs, e⟩ := (hd p hp).isL _ hb
    rw [hs] at e
    cases e
theorem SchAt.g {H : Hp} {S t c : Addr} {s : Sch} (A : SchAt H S s t c) (k : ∀ p ∈ s, TabSm p.2) (l : s.length ≤ 100) : Gp H (.ref S) (schG s) (S :: schD s) := sch_gp A.sk A.ds A.nm k l A.tS.2.2.1
/-! ### is a column used, is a table referenced -/
def usedM (t : Tab) (n : Str) : Bool := t.ch.any (mentM n) || (decide (n ∈ t.un) || decide (n ∈ t.rf.map (·.1)))
def refdM (ts : List Tab) (n : Str) : Bool := ts.any fun t => t.rf.any fun r => decide (r.2 = n)
def spColumnNames : Sp := fun vs H Q _ => ∃ (d L : Addr) (cols : List Col), vs = [.ref d] ∧ DGet H d (.str "columns") (some (.ref L)) ∧ ColsAt H L cols ∧ cols.length ≤ 100 ∧ ∀ N H', H N = none → Same H H' → H' N = some (.lst ((colNs cols).map V.str)) → Q (.ref N) H'
def spCopyDesc : Sp := fun vs H Q _ => ∃ (a : Ads) (tab : Tab), vs = [.ref a.d] ∧ DescAt H a tab ∧ ∀ a' H', DescAt H' a' tab → Same H H' → H a'.d = none → (∀ b ∈ adL a', H b = none) → (adL a').Nodup → Q (.ref a'.d) H'
/-- a schema, made anew -/
structure NewSch (H H' : Hp) (S : Addr) (s : Sch) (ts : List Tab) : Prop where
  sk : H' S = some (.dK (schK s))
  ds : ∀ p ∈ s, DescAt H' p.1 p.2
  ts : s.map (·.2) = ts
  fS : H S = none
  fd : ∀ p ∈ s, H p.1.d = none ∧ p.1.d ≠ S ∧ ∀ b ∈ adL p.1, H b = none
  dn : (s.map fun p => p.1.d).Nodup
  ln : (schL s).Nodup
  se : Same H H'
def spCopySchema : Sp := fun vs H Q _ => ∃ (S : Addr) (s : Sch), vs = [.ref S] ∧ H S = some (.dK (schK s)) ∧ (∀ p ∈ s, DescAt H p.1 p.2) ∧ (schN s).Nodup ∧ s.length ≤ 100 ∧ ∀ S' s' H', NewSch H H' S' s' (s.map (·.2)) → Q (.ref S') H'
def spIsUsed : Sp := fun vs H Q _ => ∃ (a : Ads) (tab : Tab) (n : Str), vs = [.ref a.d, .str n] ∧ DescAt H a tab ∧ TabSm tab ∧ ∀ H', Same H H' → Q (.bl (usedM tab n)) H'
def spIsReferenced : Sp := fun vs H Q _ => ∃ (S : Addr) (s : Sch) (n : Str), vs = [.ref S, .str n] ∧ H S = some (.dK (schK s)) ∧ (∀ p ∈ s, DescAt H p.1 p.2) ∧ (schN s).Nodup ∧ (∀ p ∈ s, TabSm p.2) ∧ s.length ≤ 20 ∧ ∀ H', Same H H' → Q (.bl (refdM (s.map (·.2)) n)) H'
theorem sch_at {s : Sch} {i : Nat} {k : Key} {v : V} (h : (schK s)[i]? = some (k, v)) : ∃ p, s[i]? = some p ∧ k = Sum.inr p.2.n ∧ v = .ref p.1.d := by
  unfold schK at h
  rw [List.getElem?_map] at h
  cases e : s[i]? with
  | none => rw [e] at h; cases h
  | some p => rw [e] at h; cases h; exact ⟨p, rfl, rfl, rfl⟩
theorem sch_getF {H : Hp} {S : Addr} {s : Sch} {od : Obj} (h : H S = some (.frz od (.dK (schK s)))) (nm : (schN s).Nodup) {p : Ads × Tab} (hp : p ∈ s) : DGet H S (.str p.2.n) (some (.ref p.1.d)) :=
  .inl ⟨schK s, Sum.inr p.2.n, .inr ⟨od, h⟩, rfl, (sch_get nm hp).symm⟩
theorem DescAt.lock {H : Hp} {S : Addr} {a : Ads} {t : Tab} {kvs : List (Key × V)} {o : HO} (h : DescAt H a t) (hS : H S = some (.dK kvs)) (ne : a.d ≠ S) : DescAt (upd H S o) a t :=
  h.frame (KeepT.lock hS) (fun o z => by rw [upd_ne ne]; exact z) fun b hb o z => by
    have : b ≠ S := fun e => by
      obtain ⟨xs, g⟩ := h.isL _ hb
      rw [e, hS] at g; cases g
    rw [upd_ne this]; exact z
/-- a description does not stand where the schema stands -/
theorem desc_ne {H : Hp} {S : Addr} {s : Sch} (hs : H S = some (.dK (schK s))) (hd : ∀ p ∈ s, DescAt H p.1 p.2) : ∀ p ∈ s, p.1.d ≠ S := fun p hp e => by
  have D := hd p hp
  have h1 := D.dk
  rw [e, hs] at h1
  have h2 : schK s = descD p.1 := HO.dK.inj (Option.some.inj h1)
  have h3 : ((Sum.inr ("columns" : Str) : Key), V.ref p.1.c) ∈ schK s := by rw [h2]; simp [descD]
  obtain ⟨q, hq, eq⟩ := List.mem_map.mp h3
  have h4 : q.1.d = p.1.c := V.ref.inj (Prod.mk.inj eq).2
  obtain ⟨xs, g⟩ := D.isL p.1.c (by simp [adL])
  rw [← h4, (hd q hq).dk] at g
  cases g
theorem cond_flat {c : Cond} (h1 : c.length ≤ 20) (h2 : ∀ a ∈ c, a.length ≤ 20) : c.flatten.length ≤ 1000 := by
  have : ∀ (c : Cond), (∀ a ∈ c, a.length ≤ 20) → c.flatten.length ≤ 20 * c.length := by
    intro c
    induction c with
    | nil => intro _; simp
    | cons a r ih =>
      intro h
      have a1 := h a List.mem_cons_self
      have a2 := ih fun x hx => h x (List.mem_cons_of_mem _ hx)
      rw [List.flatten_cons, List.length_append, List.length_cons]
      omega
  have := this c h2
  omega
theorem take_map {α β : Type} (f : α → β) {l : List α} {i : Nat} {x : α} (h : l[i]? = some x) : (l.take (i + 1)).map f = (l.take i).map f ++ [f x] := by
  rw [List.take_add_one, h, List.map_append]; rfl
theorem take_map2 {α β γ : Type} (f : α → β) (g : β → γ) {l : List α} {i : Nat} {x : α} (h : l[i]? = some x) : ((l.take (i + 1)).map f).map g = ((l.take i).map f).map g ++ [g (f x)] := by
  rw [take_map f h, List.map_append]; rfl
theorem D_str_eq (a b : Str) : decide (V.str a = V.str b) = decide (a = b) := by
  by_cases h : a = b
  · rw [decide_eq_true h, decide_eq_true (congrArg V.str h)]
  · rw [decide_eq_false h, decide_eq_false (fun z => h (V.str.inj z))]
theorem DescAt.mono {H H' : Hp} {a : Ads} {t : Tab} (h : DescAt H a t) (e : Same H H') : DescAt H' a t := h.frame (KeepT.of e) (fun o => e _ _) (fun b _ o => e _ _)
theorem NewSch.newD {H H' : Hp} {S : Addr} {s : Sch} {ts : List Tab} (N : NewSch H H' S s ts) : ∀ a ∈ S :: schD s, H a = none := by
  intro a ha
  rcases List.mem_cons.mp ha with rfl | ha
  · exact N.fS
  · obtain ⟨p, hp, hb⟩ := List.mem_flatMap.mp ha
    obtain ⟨h1, _, h2⟩ := N.fd p hp
    rcases List.mem_cons.mp hb with rfl | hb
    · exact h1
    · exact h2 a hb
theorem NewSch.nm {H H' : Hp} {S : Addr} {s s0 : Sch} (N : NewSch H H' S s (s0.map (·.2))) (h : (schN s0).Nodup) : (schN s).Nodup := by
  have : schN s = schN s0 := by
    have e := congrArg (List.map fun t : Tab => t.n) N.ts
    rw [List.map_map, List.map_map] at e
    exact e
  rw [this]; exact h
theorem NewSch.mem {H H' : Hp} {S : Addr} {s s0 : Sch} (N : NewSch H H' S s (s0.map (·.2))) {p : Ads × Tab} (hp : p ∈ s) : ∃ q ∈ s0, q.2 = p.2 := by
  have : p.2 ∈ s0.map (·.2) := by rw [← N.ts]; exact List.mem_map.mpr ⟨p, hp, rfl⟩
  obtain ⟨q, h1, h2⟩ := List.mem_map.mp this
  exact ⟨q, h1, h2⟩
theorem NewSch.g {H H' : Hp} {S : Addr} {s s0 : Sch} (N : NewSch H H' S s (s0.map (·.2))) (nm : (schN s0).Nodup) (k : ∀ p ∈ s0, TabSm p.2) (l : s0.length ≤ 100) : Gp H' (.ref S) (schG s0) (S :: schD s) := by
  have e : schG s = schG s0 := by unfold schG; rw [N.ts]
  rw [← e]
  refine sch_gp N.sk N.ds (N.nm nm) (fun p hp => ?_) ?_ (fun p hp => (N.fd p hp).2.1)
  · obtain ⟨q, h1, h2⟩ := N.mem hp
    rw [← h2]; exact k q h1
  · have := congrArg List.length N.ts
    simp only [List.length_map] at this
    omega
theorem DescAt.isLn {H : Hp} {a : Ads} {t : Tab} (h : DescAt H a t) (k : TabSm t) : ∀ b ∈ adL a, ∃ xs, H b = some (.lst xs) ∧ xs.length ≤ 40 := by
  obtain ⟨h1, ⟨xs, h2, r2⟩, ⟨ys, h3, r3⟩, h4, ⟨zs, h5, r5⟩⟩ := h
  intro b hb
  simp only [adL, List.mem_cons, List.not_mem_nil, or_false] at hb
  rcases hb with rfl | rfl | rfl | rfl
  · exact ⟨_, h2, by rw [r2.length, List.length_map]; exact k.co⟩
  · exact ⟨_, h3, by rw [r3.length, List.length_map]; exact k.ch⟩
  · exact ⟨_, h4, by rw [List.length_map]; exact k.un⟩
  · exact ⟨_, h5, by rw [r5.length, List.length_map]; exact k.rf⟩
theorem desc_part {H : Hp} {a : Ads} (h : H a.d = some (.dK (descD a))) {i : Nat} {x : V} (e : [V.str "columns", V.str "checks", V.str "uniques", V.str "references"][i]? = some x) : ∃ b ∈ adL a, DGet H a.d x (some (.ref b)) := by
  match i, e with
  | 0, e => cases e; exact ⟨a.c, by simp [adL], by have g := DGet.k (k := (Sum.inr ("columns" : Str) : Key)) h; rw [dd_c] at g; exact g⟩
  | 1, e => cases e; exact ⟨a.k, by simp [adL], by have g := DGet.k (k := (Sum.inr ("checks" : Str) : Key)) h; rw [dd_k] at g; exact g⟩
  | 2, e => cases e; exact ⟨a.u, by simp [adL], by have g := DGet.k (k := (Sum.inr ("uniques" : Str) : Key)) h; rw [dd_u] at g; exact g⟩
  | 3, e => cases e; exact ⟨a.r, by simp [adL], by have g := DGet.k (k := (Sum.inr ("references" : Str) : Key)) h; rw [dd_r] at g; exact g⟩
  | n + 4, e => simp at e
theorem sch_getK {H : Hp} {S : Addr} {s : Sch} (h : H S = some (.dK (schK s))) (nm : (schN s).Nodup) {p : Ads × Tab} (hp : p ∈ s) : DGet H S (.str p.2.n) (some (.ref p.1.d)) := by
  have g := DGet.k (k := (Sum.inr p.2.n : Key)) h
  rw [sch_get nm hp] at g
  exact g
end Lt

set_option autoImplicit false
namespace Lt
open PySem PySem.Spec PyProof.Rows L2 TL
/-! ## sorted(d) of a dict of any length, its keys all ints or all texts -/
def txV : Value → Str
  | .str x _ => x
  | _ => ⟨#[]⟩
def ltTx (v u : Value) : Bool := decide (tl (txV v) < tl (txV u))
theorem swo_tx : SrtO.Swo ltTx where
  asym := fun x y h => decide_eq_false (List.lt_asymm (of_decide_eq_true h))
  tr := fun x y z h1 h2 => by
    have a := List.not_lt.mp (of_decide_eq_false h1)
    have b := List.not_lt.mp (of_decide_eq_false h2)
    exact decide_eq_false (List.not_lt.mpr (List.le_trans a b))
theorem tx_mem : ∀ {vs : List Value} {xs : List Str}, StrsAre vs xs → ∀ v ∈ vs, ∃ x t, v = Value.str x t
  | _, _, .nil, v, h => by cases h
  | _, _, .cons x t r, v, h => by
    rcases List.mem_cons.mp h with rfl | h
    · exact ⟨x, t, rfl⟩
    · exact tx_mem r v h
theorem tx_of : ∀ {vs : List Value}, (∀ v ∈ vs, ∃ x t, v = Value.str x t) → StrsAre vs (vs.map txV)
  | [], _ => .nil
  | v :: vs, h => by
    obtain ⟨x, t, rfl⟩ := h v List.mem_cons_self
    exact .cons x t (tx_of fun u hu => h u (List.mem_cons_of_mem _ hu))
theorem tx_back : ∀ {vs : List Value} {xs : List Str}, StrsAre vs xs → vs.map txV = xs
  | _, _, .nil => rfl
  | _, _, .cons x t r => congrArg (x :: ·) (tx_back r)
section
variable {prog : Program} {w : World} {A : Around} {s : Shared}
theorem tx_sortable {a : Addr} {vs : List Value} {xs : List Str} (hT : StrsAre vs xs) (h2 : 2 ≤ vs.length) : SrtO.SortableO prog w A s a vs ltTx := fun hq _ => by
  refine ⟨oneType', fun Q E hq => ?_, fun p q hp hq => ?_⟩
  · cases hT with
    | nil => exact absurd h2 (by decide)
    | cons x t r =>
      cases r with
      | nil => exact absurd h2 (by simp)
      | cons y u r => rw [keyKind_strs (.cons x t (.cons y u r))]; exact wpAny_pure hq
  · obtain ⟨x, t, ex⟩ := tx_mem hT _ hp
    obtain ⟨y, u, ey⟩ := tx_mem hT _ hq
    show wpAny _ _ (keyLt' oneType' p.1 q.1) (fun r s' => s' = _ ∧ r = ltTx p.1 q.1) _ _
    rw [ex, ey, keyLt'_oneType]
    exact oneLt_str ⟨rfl, rfl⟩
end
/-- the order of keys of one kind -/
def kLt : Key → Key → Bool
  | .inl a, .inl b => decide (a < b)
  | .inr a, .inr b => decide (tl a < tl b)
  | .inl _, .inr _ => true
  | .inr _, .inl _ => false
def SortedK (ks : List Key) : Prop := ks.Pairwise fun a b => kLt b a = false
/-- keys all ints or all texts -/
def OneKind (ks : List Key) : Prop := (∃ is : List Int, ks = is.map Sum.inl) ∨ ∃ xs : List Str, ks = xs.map Sum.inr
def rSortK : List V → Hp → VK → Prop := fun xs H Q => ∃ (a : Addr) (kvs : List (Key × V)), xs = [.ref a] ∧ Rd H a (.dK kvs) ∧ OneKind (kvs.map (·.1)) ∧
  ∀ (ys : List Key) (p : Addr), ys.Perm (kvs.map (·.1)) → SortedK ys → H p = none → Q (.ref p) (upd H p (.lst (ys.map kV)))
/-- what the sort's machine hands back of items that all are of one kind -/
theorem one_out {vs out : List Value} {ks : List Key} (hk : (∃ is : List Int, IntsAre vs is ∧ ks = is.map Sum.inl ∧ SrtO.Srtd SrtO.ltIv out ∧ SrtO.Stb SrtO.ltIv out vs) ∨ ∃ xs : List Str, StrsAre vs xs ∧ ks = xs.map Sum.inr ∧ SrtO.Srtd ltTx out ∧ SrtO.Stb ltTx out vs) :
    ∃ ys : List Key, Vals (ys.map kV) out ∧ ys.Perm ks ∧ SortedK ys := by
  rcases hk with ⟨is, hI, rfl, hs, hb⟩ | ⟨xs, hT, rfl, hs, hb⟩
  · obtain ⟨k1, k2, k3⟩ := SrtO.ints_out hI hs hb
    refine ⟨(out.map SrtO.iv).map Sum.inl, ?_, k2.map _, ?_⟩
    · have e : ((out.map SrtO.iv).map Sum.inl).map kV = (out.map SrtO.iv).map V.int := by rw [List.map_map]; rfl
      rw [e]; exact vals_of_ints k1
    · refine List.pairwise_map.mpr (k3.imp fun {x y} h => ?_)
      exact decide_eq_false (by omega)
  · have m : ∀ v ∈ out, ∃ x t, v = Value.str x t := fun v hv => tx_mem hT v (hb.perm.mem_iff.mp hv)
    have k1 := tx_of m
    refine ⟨(out.map txV).map Sum.inr, ?_, ?_, ?_⟩
    · have e : ((out.map txV).map Sum.inr).map kV = (out.map txV).map V.str := by rw [List.map_map]; rfl
      rw [e]; exact vals_of_strs k1
    · have q := hb.perm.map txV
      rw [tx_back hT] at q
      exact q.map _
    · refine List.pairwise_map.mpr (List.pairwise_map.mpr (hs.imp fun {x y} h => ?_))
      exact h
section
variable {X : Cx}
theorem call_sortedK (calm : X.calm = true) : CallR X (.builtin "sorted") rSortK := by
  rintro pins s σ H xs us Q I r ⟨a, kvs, rfl, hd, hone, q⟩
  obtain ⟨u, rfl, rx⟩ := vals1 r
  cases rx
  obtain ⟨z, lo, vs, rel, dd⟩ := dk_rd I.hok hd
  obtain ⟨age, stands⟩ := dd.dictAt
  have hlv : vs.length = kvs.length := rel.length.symm
  have h16 : vs.length ≤ sizeLine := by rw [hlv]; exact z
  refine Calls.call_function_entry kind_sorted plain_sorted entry_sorted (args_sorted1 _) ?_; unfold Builtin.«sorted»
  refine wpAny_bind (m := checkCount "sorted" 1 1 _) (wpAny_pure (wpAny_bind (PySem.W.kdu_collect (A := X.A.in1) (PySem.W.kdl_dict (knd := mixKind X.prog X.w) (kvs := vs) (ep := age) lo) (I.ok.hd calm) stands h16 fun hq tok got hk hgot => ?_)))
  have hal : got.toList.length = vs.length := by rw [Array.length_toList, hgot.1]
  have item : ∀ (j : Nat) (v : Value), got.toList[j]? = some v → ∃ k, (kvs.map (·.1))[j]? = some k ∧ keyIs k v = true := fun j v e => by
    obtain ⟨k, x, e1, e2⟩ := hgot.2 j v (by rw [← Array.getElem?_toList]; exact e)
    refine ⟨k, ?_, e2⟩
    rw [rel.keys, List.getElem?_map, e1]; rfl
  have J : Inv X pins σ H { s with heap := hq, toks := tok } := I.kept hk
  have atNew : (hq.push (seqObj "list" got.toList.toArray 0)).get? hq.objs.size = some (seqObj "list" got.toList.toArray 0) := Heap.get?_push_size _ rfl
  have done : ∀ (out : List Value) (ys : List Key), Vals (ys.map kV) out → ys.Perm (kvs.map (·.1)) → SortedK ys →
      EP X pins σ Q (.ref hq.objs.size) { s with heap := sortedHeap (hq.push (seqObj "list" got.toList.toArray 0)) hq.objs.size got.toList out.toArray, toks := tok } := fun out ys g1 g2 g3 => by
    have hlen : (ys.map kV).length ≤ sizeLine := by
      rw [List.length_map, g2.length_eq, List.length_map, ← hlv]; exact h16
    obtain ⟨e', he'⟩ := PyProof.Rows.sortedHeap_at (vs := got.toList) (out := out.toArray) atNew
    have old : ∀ b u, hq.get? b = some u → (sortedHeap (hq.push (seqObj "list" got.toList.toArray 0)) hq.objs.size got.toList out.toArray).get? b = some u := fun b u e => by
      have hb := Heap.lt_size e
      rw [PyProof.Rows.sortedHeap_old (Nat.ne_of_lt hb) (by rw [size_push']; exact Nat.lt_succ_of_lt hb), Heap.get?_push_of_some _ e]
    exact ⟨.ref hq.objs.size, upd H hq.objs.size (.lst (ys.map kV)), J.laid (t' := tok) old (Nat.le_refl _) ⟨hlen, out, e', g1, he'⟩, rfl, q ys _ g2 g3 (J.hok.fresh (Nat.le_refl _))⟩
  have hz : got.toList.length ≤ sizeLine := by rw [hal]; exact h16
  refine wpAny_bind (wpAny_newList ?_ hz)
  rcases hone with ⟨is, hks⟩ | ⟨ts, hks⟩
  · have hI : IntsAre got.toList is := ints_each (by rw [hal, hlv]; have := congrArg List.length hks; simpa using this) fun j v e => by
      obtain ⟨k, e3, e2⟩ := item j v e
      rw [hks, List.getElem?_map] at e3
      cases e4 : is[j]? with
      | none => rw [e4] at e3; cases e3
      | some y =>
        rw [e4] at e3
        cases e3
        rcases keyIs_shape e2 with ⟨i, t, ek, ev⟩ | ⟨x, t, ek, ev⟩ <;> cases ek
        exact ⟨y, t, rfl, ev⟩
    refine wpAny_bind (wpAny_holding (wpAny_call_entry slot_list_sort ⟨_, atNew, rfl⟩ entry_list_sort
      (SrtO.list_sort_ord (s := { s with heap := hq.push (seqObj "list" got.toList.toArray 0), toks := tok }) SrtO.swo_int atNew hz (fun h2 => SrtO.ints_sortable hI h2) fun out h1 h2 => ⟨_, rfl, ?_⟩) (PyProof.Rows.args_list_sort _)))
    obtain ⟨ys, g1, g2, g3⟩ := one_out (.inl ⟨is, hI, hks, h1, h2⟩)
    exact wpAny_pure ⟨_, rfl, done out ys g1 g2 g3⟩
  · have hT : StrsAre got.toList ts := strs_at (by rw [hal, hlv]; have := congrArg List.length hks; simpa using this) fun j v e => by
      obtain ⟨k, e3, e2⟩ := item j v e
      rw [hks, List.getElem?_map] at e3
      cases e4 : ts[j]? with
      | none => rw [e4] at e3; cases e3
      | some y =>
        rw [e4] at e3
        cases e3
        obtain ⟨t, ev⟩ := Value.isStrOf_shape (x := y) (v := v) e2
        exact ⟨y, t, rfl, ev⟩
    refine wpAny_bind (wpAny_holding (wpAny_call_entry slot_list_sort ⟨_, atNew, rfl⟩ entry_list_sort
      (SrtO.list_sort_ord (s := { s with heap := hq.push (seqObj "list" got.toList.toArray 0), toks := tok }) swo_tx atNew hz (fun h2 => tx_sortable hT h2) fun out h1 h2 => ⟨_, rfl, ?_⟩) (PyProof.Rows.args_list_sort _)))
    obtain ⟨ys, g1, g2, g3⟩ := one_out (.inr ⟨ts, hT, hks, h1, h2⟩)
    exact wpAny_pure ⟨_, rfl, done out ys g1 g2 g3⟩
end
end Lt

set_option autoImplicit false
namespace Lt
open PySem L2 TL
open C8 (pss_cut)
/-! ## the one order of keys -/
def kLe (a b : Key) : Bool := !kLt b a
theorem kLe_total (a b : Key) : (kLe a b || kLe b a) = true := by
  unfold kLe kLt
  rcases a with a | a <;> rcases b with b | b
  · by_cases h : b < a
    · simp [show ¬ a < b by omega]
    · simp [h]
  · rfl
  · rfl
  · by_cases h : tl b < tl a
    · simp [List.lt_asymm h]
    · simp [h]
theorem kLe_trans (a b c : Key) : kLe a b = true → kLe b c = true → kLe a c = true := by
  unfold kLe kLt
  rcases a with a | a <;> rcases b with b | b <;> rcases c with c | c <;> simp
  · omega
  · intro h1 h2
    exact List.le_trans h1 h2
theorem kLe_anti (a b : Key) : kLe a b = true → kLe b a = true → a = b := by
  unfold kLe kLt
  rcases a with a | a <;> rcases b with b | b <;> simp
  · omega
  · intro h1 h2
    exact ext_tl (List.le_antisymm h1 h2)
def sortK (ks : List Key) : List Key := ks.mergeSort kLe
theorem sortK_perm (ks : List Key) : (sortK ks).Perm ks := List.mergeSort_perm ks kLe
theorem sortK_srt (ks : List Key) : SortedK (sortK ks) := (List.pairwise_mergeSort kLe_trans kLe_total ks).imp fun {a b} h => by
  unfold kLe at h
  simpa using h
theorem sortK_eq {ys ks : List Key} (p : ys.Perm ks) (s : SortedK ys) : ys = sortK ks := by
  refine List.Perm.eq_of_pairwise (le := fun a b => kLt b a = false) (fun a b _ _ h1 h2 => kLe_anti a b ?_ ?_) s (sortK_srt ks) (p.trans (sortK_perm ks).symm)
  · unfold kLe; rw [h1]; rfl
  · unfold kLe; rw [h2]; rfl
theorem sortK_len (ks : List Key) : (sortK ks).length = ks.length := (sortK_perm ks).length_eq
theorem sortK_mem {ks : List Key} {k : Key} : k ∈ sortK ks ↔ k ∈ ks := (sortK_perm ks).mem_iff
theorem sortK_nd {ks : List Key} (h : ks.Nodup) : (sortK ks).Nodup := (sortK_perm ks).nodup_iff.mpr h
/-! ## states -/
structure Ro where
  k : Key
  a : Addr
  vs : List V
def roK (rs : List Ro) : List (Key × V) := rs.map fun r => (r.k, V.ref r.a)
def roN (rs : List Ro) : List Key := rs.map fun r => r.k
theorem roK_keys (rs : List Ro) : (roK rs).map (·.1) = roN rs := by unfold roK roN; rw [List.map_map]; rfl
/-- the rows rs stand in the dict at d -/
structure TAt (H : Hp) (d : Addr) (rs : List Ro) : Prop where
  dk : H d = some (.dK (roK rs))
  rt : ∀ r ∈ rs, H r.a = some (.tup r.vs)
  nd : (roN rs).Nodup
theorem TAt.mono {H H' : Hp} {d : Addr} {rs : List Ro} (h : TAt H d rs) (kt : KeepT H H') (e : ∀ o, H d = some o → H' d = some o) : TAt H' d rs := ⟨e _ h.dk, fun r hr => kt _ _ (h.rt r hr), h.nd⟩
theorem ro_one {rs : List Ro} (nd : (roN rs).Nodup) {r q : Ro} (hr : r ∈ rs) (hq : q ∈ rs) (e : r.k = q.k) : r = q := by
  obtain ⟨i, hi, ei⟩ := List.getElem_of_mem hr
  obtain ⟨j, hj, ej⟩ := List.getElem_of_mem hq
  have a1 : (roN rs)[i]? = some r.k := by unfold roN; rw [List.getElem?_map, List.getElem?_eq_getElem hi, ei]; rfl
  have a2 : (roN rs)[j]? = some r.k := by unfold roN; rw [List.getElem?_map, List.getElem?_eq_getElem hj, ej]; exact congrArg some e.symm
  have := nd_ix nd a1 a2
  subst this
  rw [← ei, ← ej]
theorem ro_get {rs : List Ro} (nd : (roN rs).Nodup) {r : Ro} (hr : r ∈ rs) : valV (roK rs) r.k = some (.ref r.a) := by
  obtain ⟨i, hi, e⟩ := List.getElem_of_mem hr
  refine valV_at (i := i) (by rw [roK_keys]; exact nd) ?_
  unfold roK
  rw [List.getElem?_map, List.getElem?_eq_getElem hi, e]
  rfl
theorem ro_none {rs : List Ro} {k : Key} (h : k ∉ roN rs) : valV (roK rs) k = none := by
  cases e : valV (roK rs) k with
  | none => rfl
  | some v =>
    have := valV_in e
    rw [roK_keys] at this
    exact absurd this h
theorem ro_mem {rs : List Ro} {k : Key} (h : k ∈ roN rs) : ∃ r ∈ rs, r.k = k := by
  obtain ⟨r, h1, h2⟩ := List.mem_map.mp h
  exact ⟨r, h1, h2⟩
theorem TAt.get {H : Hp} {d : Addr} {rs : List Ro} (h : TAt H d rs) {r : Ro} (hr : r ∈ rs) : DGet H d (kV r.k) (some (.ref r.a)) := by
  have g := DGet.k (k := r.k) h.dk
  rw [ro_get h.nd hr] at g
  exact g
/-- rs with the row r put in -/
def putRo (rs : List Ro) (r : Ro) : List Ro := if (rs.any fun q => decide (q.k = r.k)) = true then rs.map (fun q => if q.k = r.k then ⟨q.k, r.a, r.vs⟩ else q) else rs ++ [r]
theorem putRo_K (rs : List Ro) (r : Ro) : putK (roK rs) r.k (.ref r.a) = roK (putRo rs r) := by
  unfold putK putRo roK
  rw [List.any_map]
  have e : ((fun kv : Key × V => decide (kv.1 = r.k)) ∘ fun r => (r.k, V.ref r.a)) = fun q : Ro => decide (q.k = r.k) := rfl
  rw [e]
  split
  · rw [List.map_map, List.map_map]
    refine List.map_congr_left fun q _ => ?_
    show (if q.k = r.k then (q.k, V.ref r.a) else (q.k, V.ref q.a)) = _
    show _ = ((if q.k = r.k then (⟨q.k, r.a, r.vs⟩ : Ro) else q).k, V.ref (if q.k = r.k then (⟨q.k, r.a, r.vs⟩ : Ro) else q).a)
    split <;> rfl
  · rw [List.map_append]; rfl
theorem putRo_N (rs : List Ro) (r : Ro) : (roN (putRo rs r) = roN rs ∧ r.k ∈ roN rs) ∨ (roN (putRo rs r) = roN rs ++ [r.k] ∧ r.k ∉ roN rs) := by
  unfold putRo roN
  by_cases h : (rs.any fun q => decide (q.k = r.k)) = true
  · have h2 : r.k ∈ rs.map fun r => r.k := by
      obtain ⟨q, h1, h2⟩ := List.any_eq_true.mp h
      exact List.mem_map.mpr ⟨q, h1, of_decide_eq_true h2⟩
    rw [if_pos h]
    refine .inl ⟨?_, h2⟩
    rw [List.map_map]
    refine List.map_congr_left fun q _ => ?_
    show (if q.k = r.k then (⟨q.k, r.a, r.vs⟩ : Ro) else q).k = q.k
    split <;> rfl
  · have h2 : ¬ r.k ∈ rs.map fun r => r.k := fun z => by
      obtain ⟨q, h1, h2⟩ := List.mem_map.mp z
      exact h (List.any_eq_true.mpr ⟨q, h1, decide_eq_true h2⟩)
    rw [if_neg h]
    exact .inr ⟨by rw [List.map_append]; rfl, h2⟩
theorem putRo_nd {rs : List Ro} (nd : (roN rs).Nodup) (r : Ro) : (roN (putRo rs r)).Nodup := by
  rcases putRo_N rs r with ⟨e, _⟩ | ⟨e, h⟩ <;> rw [e]
  · exact nd
  · refine List.nodup_append.mpr ⟨nd, by simp, fun x hx y hy => ?_⟩
    have : y = r.k := by simpa using hy
    subst this
    rintro rfl
    exact h hx
theorem putRo_len (rs : List Ro) (r : Ro) : (putRo rs r).length ≤ rs.length + 1 := by
  unfold putRo
  split
  · rw [List.length_map]; omega
  · rw [List.length_append]; simp
/-- a row put in is the one, or one of before -/
theorem putRo_mem {rs : List Ro} {r q : Ro} (h : q ∈ putRo rs r) : (q.k = r.k ∧ q.a = r.a ∧ q.vs = r.vs) ∨ q ∈ rs := by
  unfold putRo at h
  split at h
  · obtain ⟨x, h1, h2⟩ := List.mem_map.mp h
    split at h2
    · rename_i e
      rw [← h2]
      exact .inl ⟨e, rfl, rfl⟩
    · rw [← h2]; exact .inr h1
  · rcases List.mem_append.mp h with h | h
    · exact .inr h
    · rw [List.mem_singleton.mp h]; exact .inl ⟨rfl, rfl, rfl⟩
/-- the rows of a table fit its columns -/
structure RowFit (cols : List Col) (r : Ro) : Prop where
  k : ∀ c, cols[0]? = some c → ValOf c.k false (kV r.k)
  r : RestOf cols r.vs
theorem one_kind {cols : List Col} {rs : List Ro} {c : Col} (hc : cols[0]? = some c) (h : ∀ r ∈ rs, RowFit cols r) : OneKind (roN rs) := by
  by_cases e : c.k = ("int" : Str)
  · refine .inl ⟨(roN rs).map (fun k => match k with | .inl i => i | .inr _ => 0), ?_⟩
    rw [List.map_map]
    refine (List.map_congr_left (g := id) fun k hk => ?_).trans (List.map_id _) |>.symm
    obtain ⟨r, hr, rfl⟩ := ro_mem hk
    have v := (h r hr).k c hc
    cases hk2 : r.k with
    | inl i => rfl
    | inr x =>
      rw [hk2] at v
      rcases v with ⟨z, _⟩ | ⟨_, i, z, _⟩ | ⟨z, _⟩
      · cases z
      · cases z
      · exact absurd e z
  · refine .inr ⟨(roN rs).map (fun k => match k with | .inl i => "" | .inr x => x), ?_⟩
    rw [List.map_map]
    refine (List.map_congr_left (g := id) fun k hk => ?_).trans (List.map_id _) |>.symm
    obtain ⟨r, hr, rfl⟩ := ro_mem hk
    have v := (h r hr).k c hc
    cases hk2 : r.k with
    | inr x => rfl
    | inl i =>
      rw [hk2] at v
      rcases v with ⟨z, _⟩ | ⟨z, _⟩ | ⟨_, y, z, _⟩
      · cases z
      · exact absurd z e
      · cases z
/-! ### rows as tuples -/
def restAt (rs : List Ro) (k : Key) : List V := match rs.find? (fun r => decide (r.k = k)) with | some r => r.vs | none => []
def rowsM (rs : List Ro) : List (List V) := (sortK (roN rs)).map fun k => kV k :: restAt rs k
theorem restAt_eq {rs : List Ro} (nd : (roN rs).Nodup) {r : Ro} (hr : r ∈ rs) : restAt rs r.k = r.vs := by
  unfold restAt
  cases e : rs.find? (fun q => decide (q.k = r.k)) with
  | none =>
    have := List.find?_eq_none.mp e r hr
    simp at this
  | some q =>
    have h1 := List.mem_of_find?_eq_some e
    have h2 : q.k = r.k := by simpa using List.find?_some e
    rw [ro_one nd h1 hr h2]
theorem rowsM_len (rs : List Ro) : (rowsM rs).length = rs.length := by unfold rowsM; rw [List.length_map, sortK_len]; unfold roN; rw [List.length_map]
theorem rowsM_mem {rs : List Ro} (nd : (roN rs).Nodup) {x : List V} (h : x ∈ rowsM rs) : ∃ r ∈ rs, x = kV r.k :: r.vs := by
  obtain ⟨k, hk, rfl⟩ := List.mem_map.mp h
  obtain ⟨r, hr, rfl⟩ := ro_mem (sortK_mem.mp hk)
  exact ⟨r, hr, by rw [restAt_eq nd hr]⟩
/-- a list of tuples stands at L -/
def RowsAt (H : Hp) (L : Addr) (rws : List (List V)) : Prop := ∃ as : List Addr, H L = some (.lst (as.map V.ref)) ∧ as.length = rws.length ∧ ∀ (i : Nat) (a : Addr) (r : List V), as[i]? = some a → rws[i]? = some r → H a = some (.tup r)
theorem RowsAt.mono {H H' : Hp} {L : Addr} {rws : List (List V)} (h : RowsAt H L rws) (kt : KeepT H H') (e : ∀ o, H L = some o → H' L = some o) : RowsAt H' L rws := by
  obtain ⟨as, h1, h2, h3⟩ := h
  exact ⟨as, e _ h1, h2, fun i a r ha hr => kt _ _ (h3 i a r ha hr)⟩
theorem RowsAt.same {H H' : Hp} {L : Addr} {rws : List (List V)} (h : RowsAt H L rws) (e : Same H H') : RowsAt H' L rws := h.mono (KeepT.of e) fun o => e _ _
theorem RowsAt.get {H : Hp} {L : Addr} {rws : List (List V)} (h : RowsAt H L rws) : ∃ xs, H L = some (.lst xs) ∧ xs.length = rws.length ∧ ∀ (i : Nat) (x : V), xs[i]? = some x → ∃ (a : Addr) (r : List V), x = .ref a ∧ rws[i]? = some r ∧ H a = some (.tup r) := by
  obtain ⟨as, h1, h2, h3⟩ := h
  refine ⟨_, h1, by rw [List.length_map]; exact h2, fun i x hx => ?_⟩
  rw [List.getElem?_map] at hx
  cases e : as[i]? with
  | none => rw [e] at hx; cases hx
  | some a =>
    rw [e] at hx
    cases hx
    have hi := (List.getElem?_eq_some_iff.mp e).1
    have er : rws[i]? = some rws[i] := List.getElem?_eq_getElem (by omega)
    exact ⟨a, rws[i], rfl, er, h3 i a _ e er⟩
/-- the state of a table, by its name -/
structure TS where
  n : Str
  d : Addr
  rs : List Ro
def stK (st : List TS) : List (Key × V) := st.map fun p => ((Sum.inr p.n : Key), V.ref p.d)
def stN (st : List TS) : List Str := st.map fun p => p.n
theorem st_keys (st : List TS) : (stK st).map (·.1) = (stN st).map Sum.inr := by unfold stK stN; rw [List.map_map, List.map_map]; rfl
structure StAt (H : Hp) (T : Addr) (st : List TS) : Prop where
  sk : H T = some (.dK (stK st))
  ds : ∀ p ∈ st, TAt H p.d p.rs
  nm : (stN st).Nodup
theorem StAt.mono {H H' : Hp} {T : Addr} {st : List TS} (h : StAt H T st) (e : Same H H') : StAt H' T st := ⟨e _ _ h.sk, fun p hp => (h.ds p hp).mono (KeepT.of e) fun o => e _ _, h.nm⟩
theorem st_nd {st : List TS} (h : (stN st).Nodup) : ((stK st).map (·.1)).Nodup := by
  rw [st_keys]
  exact List.Pairwise.map _ (fun a b e z => e (Sum.inr.inj z)) h
theorem st_get {st : List TS} (h : (stN st).Nodup) {p : TS} (hp : p ∈ st) : valV (stK st) (Sum.inr p.n : Key) = some (.ref p.d) := by
  obtain ⟨i, hi, e⟩ := List.getElem_of_mem hp
  refine valV_at (i := i) (st_nd h) ?_
  unfold stK
  rw [List.getElem?_map, List.getElem?_eq_getElem hi, e]
  rfl
theorem StAt.get {H : Hp} {T : Addr} {st : List TS} (h : StAt H T st) {p : TS} (hp : p ∈ st) : DGet H T (.str p.n) (some (.ref p.d)) := by
  have g := DGet.k (k := (Sum.inr p.n : Key)) h.sk
  rw [st_get h.nm hp] at g
  exact g
theorem st_in {st : List TS} {n : Str} (h : n ∈ stN st) : ∃ p ∈ st, p.n = n := by
  obtain ⟨p, h1, h2⟩ := List.mem_map.mp h
  exact ⟨p, h1, h2⟩
theorem st_one {st : List TS} (h : (stN st).Nodup) {p q : TS} (hp : p ∈ st) (hq : q ∈ st) (e : p.n = q.n) : p = q := by
  obtain ⟨i, hi, ei⟩ := List.getElem_of_mem hp
  obtain ⟨j, hj, ej⟩ := List.getElem_of_mem hq
  have a1 : (stN st)[i]? = some p.n := by unfold stN; rw [List.getElem?_map, List.getElem?_eq_getElem hi, ei]; rfl
  have a2 : (stN st)[j]? = some p.n := by unfold stN; rw [List.getElem?_map, List.getElem?_eq_getElem hj, ej]; exact congrArg some e.symm
  have := nd_ix h a1 a2
  subst this
  rw [← ei, ← ej]
/-! ### a state as data -/
def rowG (vs : List V) : G := .t (vs.map G.s)
def tabStG (rs : List Ro) : G := .d (rs.map fun r => (r.k, rowG r.vs))
def stG (st : List TS) : G := .d (st.map fun p => ((Sum.inr p.n : Key), tabStG p.rs))
theorem scals_L {H : Hp} : ∀ {xs : List V}, (∀ v ∈ xs, isScal v = true) → GpL H xs (xs.map G.s) []
  | [], _ => .nil
  | x :: r, h => GpL.cons (D := []) (E := []) (.s (h x List.mem_cons_self)) (scals_L fun v hv => h v (List.mem_cons_of_mem _ hv))
theorem rows_gp {H : Hp} : ∀ {rs : List Ro}, (∀ r ∈ rs, H r.a = some (.tup r.vs)) → (∀ r ∈ rs, r.vs.length ≤ 100 ∧ ∀ v ∈ r.vs, isScal v = true) → GpK H (roK rs) (rs.map fun r => (r.k, rowG r.vs)) []
  | [], _, _ => .nil
  | r :: rs, h, k => by
    have := rows_gp (fun q hq => h q (List.mem_cons_of_mem _ hq)) (fun q hq => k q (List.mem_cons_of_mem _ hq))
    have k1 := k r List.mem_cons_self
    exact GpK.cons (D := []) (E := []) (.t (h r List.mem_cons_self) (by omega) (scals_L k1.2)) this
theorem RestOf.scal {cols : List Col} {vs : List V} (h : RestOf cols vs) : ∀ v ∈ vs, isScal v = true := fun v hv => by
  obtain ⟨i, hi, e⟩ := List.getElem_of_mem hv
  have := h.1
  exact (h.2 i cols[i + 1] v (List.getElem?_eq_getElem (by omega)) (by rw [List.getElem?_eq_getElem hi, e])).scal
/-- the rows of a table: few, and each fits -/
structure TabFit (cols : List Col) (rs : List Ro) : Prop where
  l : rs.length ≤ 200
  f : ∀ r ∈ rs, RowFit cols r
theorem tabst_gp {H : Hp} {d : Addr} {rs : List Ro} {cols : List Col} (h : TAt H d rs) (f : TabFit cols rs) (hc : cols.length ≤ 50) : Gp H (.ref d) (tabStG rs) [d] := by
  have := f.l
  refine .d h.dk (by unfold roK; rw [List.length_map]; omega) (by rw [roK_keys]; exact h.nd) (rows_gp h.rt fun r hr => ?_) (by intro z; cases z)
  have k := (f.f r hr).r
  have := k.1
  exact ⟨by omega, k.scal⟩
theorem tabst_dep (rs : List Ro) : (tabStG rs).dep ≤ 2 := by
  have : depK (rs.map fun r => (r.k, rowG r.vs)) ≤ 1 := depK_le fun p hp => by
    obtain ⟨r, _, rfl⟩ := List.mem_map.mp hp
    have : depL (r.vs.map G.s) ≤ 0 := depL_le fun g hg => by
      obtain ⟨v, _, rfl⟩ := List.mem_map.mp hg
      exact Nat.le_refl 0
    simp only [rowG, G.dep]; omega
  simp only [tabStG, G.dep]; omega
theorem st_dep (st : List TS) : (stG st).dep ≤ 3 := by
  have : depK (st.map fun p => ((Sum.inr p.n : Key), tabStG p.rs)) ≤ 2 := depK_le fun p hp => by
    obtain ⟨t, _, rfl⟩ := List.mem_map.mp hp
    exact tabst_dep _
  simp only [stG, G.dep]; omega
theorem sts_gp {H : Hp} : ∀ {st : List TS}, (∀ p ∈ st, TAt H p.d p.rs) → (∀ p ∈ st, ∃ cols : List Col, cols.length ≤ 50 ∧ TabFit cols p.rs) → GpK H (stK st) (st.map fun p => ((Sum.inr p.n : Key), tabStG p.rs)) (st.map fun p => p.d)
  | [], _, _ => .nil
  | p :: r, h, k => by
    have q := sts_gp (fun q hq => h q (List.mem_cons_of_mem _ hq)) (fun q hq => k q (List.mem_cons_of_mem _ hq))
    obtain ⟨cols, h1, h2⟩ := k p List.mem_cons_self
    exact GpK.cons (D := [p.d]) (tabst_gp (h p List.mem_cons_self) h2 h1) q
theorem StAt.g {H : Hp} {T : Addr} {st : List TS} (A : StAt H T st) (k : ∀ p ∈ st, ∃ cols : List Col, cols.length ≤ 50 ∧ TabFit cols p.rs) (l : st.length ≤ 100) (ne : ∀ p ∈ st, p.d ≠ T) : Gp H (.ref T) (stG st) (T :: st.map fun p => p.d) := by
  refine .d A.sk (by unfold stK; rw [List.length_map]; omega) (st_nd A.nm) (sts_gp A.ds k) fun hm => ?_
  obtain ⟨p, hp, e⟩ := List.mem_map.mp hm
  exact ne p hp e
end Lt

set_option autoImplicit false
namespace Lt
open PySem L2 TL
open C8 (pss_cut)
theorem alike_scal {v w : V} (h : Alike v w) : scal v w = true := by rcases h with ⟨a, b, rfl, rfl⟩ | ⟨a, b, rfl, rfl⟩ <;> rfl
def spCompares : Sp := fun vs H Q _ => ∃ v op w, vs = [v, .str op, w] ∧ Alike v w ∧ Q (.bl (cmpM v op w)) H
def spClauseH (K : PySem.W.Frag) : Sp := fun vs H Q _ => ∃ (a n r : Addr) (cl : Cl) (names : List Str) (row : List V), vs = [.ref a, .ref n, .ref r] ∧ SqT K H a [.str cl.n, .str cl.op, cl.v] ∧ SqL K H n (names.map V.str) ∧ SqT K H r row ∧ row.length = names.length ∧
  isScal (at_ names row cl.n) = true ∧ ClFit names row cl ∧ Q (.bl (clauseM names row cl)) H
structure Ask (H : Hp) (c n r : Addr) (cond : Cond) (names : List Str) (row : List V) : Prop where
  cn : Tp H (.ref c) (condD cond)
  nm : H n = some (.lst (names.map V.str))
  rw : H r = some (.tup row)
  ln : row.length = names.length
  sc : ∀ v ∈ row, isScal v = true
  ft : ∀ a ∈ cond, ∀ cl ∈ a, ClFit names row cl
  sm : ∀ a ∈ cond, a.length ≤ 100
def spHolds : Sp := fun vs H Q _ => ∃ (c n r : Addr) (cond : Cond) (names : List Str) (row : List V), vs = [.ref c, .ref n, .ref r] ∧ Ask H c n r cond names row ∧ ∀ H', Same H H' → Q (.bl (holdsM names row cond)) H'
theorem Ask.mono {H H' : Hp} {c n r : Addr} {cond : Cond} {names : List Str} {row : List V} (A : Ask H c n r cond names row) (s : Same H H') : Ask H' c n r cond names row :=
  ⟨A.cn.mono (KeepT.of s), s _ _ A.nm, s _ _ A.rw, A.ln, A.sc, A.ft, A.sm⟩
theorem at_scal {names : List Str} {row : List V} {n : Str} (h : ∀ v ∈ row, isScal v = true) : isScal (at_ names row n) = true := by
  unfold at_
  rw [List.getD_eq_getElem?_getD]
  cases e : row[names.idxOf n]? with
  | none => rfl
  | some v => exact h v (List.mem_of_getElem? e)
theorem all_take {α : Type} {f : α → Bool} {xs : List α} {i : Nat} {x : α} (e : xs[i]? = some x) : (xs.take (i + 1)).all f = ((xs.take i).all f && f x) := by
  rw [List.take_add_one, e, List.all_append]; simp
theorem any_take {α : Type} {f : α → Bool} {xs : List α} {i : Nat} {x : α} (e : xs[i]? = some x) : (xs.take (i + 1)).any f = ((xs.take i).any f || f x) := by
  rw [List.take_add_one, e, List.any_append]; simp
def spNear : Sp := fun vs H Q _ => ∃ (t tc : Addr) (cs : List Int) (c n r : Addr) (cond : Cond) (names : List Str) (row : List V), vs = [.ref t, .ref c, .ref n, .ref r] ∧ TapeAt H t tc cs ∧ Ask H c n r cond names row ∧ cond.length ≤ 100 ∧
  ∀ p cond' H', Tp H' (.ref p) (condD cond') → (∀ a ∈ cond', ∀ cl ∈ a, ClFit names row cl) → (∀ a ∈ cond', a.length ≤ 100) → TapeAt H' t tc cs → SameX t H H' → Q (.ref p) H'

/-! ## faults -/
def headV (r : List V) : V := r.headD .non
def badC (tab : Tab) (r : List V) : Bool := !(tab.ch.all (holdsM (colNs tab.cols) r))
def clash (ns : List Str) (x y : List V) (n : Str) : Bool := !decide (at_ ns y n = .non) && decide (at_ ns x n = at_ ns y n)
def badU (tab : Tab) (earlier : List (List V)) (r : List V) : Bool := tab.un.any fun n => earlier.any fun x => clash (colNs tab.cols) x r n
def badR (ks : Str → List Key) (tab : Tab) (r : List V) : Bool := tab.rf.any fun p => !decide (at_ (colNs tab.cols) r p.1 = .non) && !((ks p.2).any fun k => decide (kV k = at_ (colNs tab.cols) r p.1))
def keysF (rws : List (List V)) : List V := (rws.drop 60).map headV
def keysC (tab : Tab) (rws : List (List V)) : List V := (rws.filter (badC tab)).map headV
def keysU (tab : Tab) (rws : List (List V)) : List V := ((List.range rws.length).filter fun k => badU tab (rws.take k) (rws.getD k [])).map fun k => headV (rws.getD k [])
def keysR (ks : Str → List Key) (tab : Tab) (rws : List (List V)) : List V := (rws.filter (badR ks tab)).map headV
def faultT (ks : Str → List Key) (tab : Tab) (rws : List (List V)) : Option (Str × V) :=
  match keysF rws with
  | k :: _ => some ("full", k)
  | [] => match keysC tab rws with
    | k :: _ => some ("check", k)
    | [] => match keysU tab rws with
      | k :: _ => some ("unique", k)
      | [] => match keysR ks tab rws with
        | k :: _ => some ("reference", k)
        | [] => none
/-- rows that fit the columns -/
structure RowsFit (cols : List Col) (rws : List (List V)) : Prop where
  l : rws.length ≤ 200
  n : ∀ r ∈ rws, r.length = cols.length
  v : ∀ r ∈ rws, ∀ (i : Nat) (col : Col) (v : V), cols[i]? = some col → r[i]? = some v → ValOf col.k col.b v
theorem RowsFit.scal {cols : List Col} {rws : List (List V)} (h : RowsFit cols rws) {r : List V} (hr : r ∈ rws) : ∀ v ∈ r, isScal v = true := fun v hv => by
  obtain ⟨i, hi, e⟩ := List.getElem_of_mem hv
  have := h.n r hr
  exact (h.v r hr i cols[i] v (List.getElem?_eq_getElem (by omega)) (by rw [List.getElem?_eq_getElem hi, e])).scal
theorem rowsM_fit {cols : List Col} {rs : List Ro} (nd : (roN rs).Nodup) (f : TabFit cols rs) (hd : ∀ c, cols[0]? = some c → c.b = false) : RowsFit cols (rowsM rs) := by
  refine ⟨by rw [rowsM_len]; exact f.l, fun x hx => ?_, fun x hx i col v hc hv => ?_⟩
  · obtain ⟨r, hr, rfl⟩ := rowsM_mem nd hx
    have := (f.f r hr).r.1
    rw [List.length_cons]; omega
  · obtain ⟨r, hr, rfl⟩ := rowsM_mem nd hx
    match i, hc, hv with
    | 0, hc, hv =>
      have hv' : kV r.k = v := by simpa using hv
      rw [← hv', hd col hc]
      exact (f.f r hr).k col hc
    | i + 1, hc, hv => exact (f.f r hr).r.2 i col v hc (by simpa using hv)
theorem RowsFit.ne {cols : List Col} {rws : List (List V)} (h : RowsFit cols rws) (l0 : 1 ≤ cols.length) {r : List V} (hr : r ∈ rws) : ∃ v vs, r = v :: vs := by
  cases r with
  | nil => have := h.n _ hr; simp at this; omega
  | cons v vs => exact ⟨v, vs, rfl⟩
def spRows : Sp := fun vs H Q _ => ∃ (T : Addr) (n : Str) (d : Addr) (rs : List Ro), vs = [.ref T, .str n] ∧ DGet H T (.str n) (some (.ref d)) ∧ TAt H d rs ∧ OneKind (roN rs) ∧ (∀ r ∈ rs, r.vs.length ≤ 50) ∧ rs.length ≤ 200 ∧ ∀ L H', RowsAt H' L (rowsM rs) → Same H H' → H L = none → Q (.ref L) H'
def spSortedRows : Sp := fun vs H Q _ => ∃ (d : Addr) (rs : List Ro), vs = [.ref d] ∧ TAt H d rs ∧ OneKind (roN rs) ∧ (∀ r ∈ rs, r.vs.length ≤ 50) ∧ rs.length ≤ 200 ∧ ∀ L H', RowsAt H' L (rowsM rs) → Same H H' → H L = none → Q (.ref L) H'
end Lt

set_option autoImplicit false
namespace Lt
open PySem L2 TL
open C8 (pss_cut)
section
variable {α : Type} [DecidableEq α]
theorem valV_isSome : ∀ {kvs : List (α × V)} {k : α}, (valV kvs k).isSome = true ↔ k ∈ kvs.map (·.1)
  | [], k => by simp [valV]
  | (k0, v0) :: r, k => by
    rw [List.map_cons, List.mem_cons]
    by_cases h : k0 = k
    · rw [valV_pos h]; simp [h]
    · rw [valV_neg h, valV_isSome]
      exact ⟨.inr, fun z => z.resolve_left fun e => h e.symm⟩
theorem putK_mem {kvs : List (α × V)} {k k' : α} {v : V} : k' ∈ (putK kvs k v).map (·.1) ↔ k' = k ∨ k' ∈ kvs.map (·.1) := by
  unfold putK
  split
  · rename_i h
    obtain ⟨p, h1, h2⟩ := List.any_eq_true.mp h
    have hk : k ∈ kvs.map (·.1) := List.mem_map.mpr ⟨p, h1, of_decide_eq_true h2⟩
    have e : (kvs.map fun kv => if kv.1 = k then (kv.1, v) else kv).map (·.1) = kvs.map (·.1) := by
      rw [List.map_map]
      refine List.map_congr_left fun q _ => ?_
      show (if q.1 = k then (q.1, v) else q).1 = q.1
      split <;> rfl
    rw [e]
    exact ⟨.inr, fun z => z.elim (fun e => e ▸ hk) id⟩
  · rw [List.map_append, List.mem_append]
    simp only [List.map_cons, List.map_nil, List.mem_singleton]
    exact ⟨fun z => z.elim .inr .inl, fun z => z.elim .inr .inl⟩
end
def vKey : V → Key
  | .int i => .inl i
  | .str x => .inr x
  | _ => .inl 0
theorem kV_vKey {k : Str} {b : Bool} {v : V} (h : ValOf k b v) (n : v ≠ .non) : kV (vKey v) = v := by
  rcases h with ⟨_, rfl⟩ | ⟨_, i, rfl, _⟩ | ⟨_, z, rfl, _⟩
  · exact absurd rfl n
  · rfl
  · rfl
/-- what the uniques say of a row: its pairs of place and value -/
def givenM (tab : Tab) (r : List V) : List (List Key) := (tab.un.filter fun n => !decide (at_ (colNs tab.cols) r n = .non)).map fun n => [Sum.inl (((colNs tab.cols).idxOf n : Nat) : Int), vKey (at_ (colNs tab.cols) r n)]
theorem given_mem {tab : Tab} {r : List V} {M : List Key} : M ∈ givenM tab r ↔ ∃ n ∈ tab.un, at_ (colNs tab.cols) r n ≠ .non ∧ M = [Sum.inl (((colNs tab.cols).idxOf n : Nat) : Int), vKey (at_ (colNs tab.cols) r n)] := by
  unfold givenM
  rw [List.mem_map]
  constructor
  · rintro ⟨n, h1, rfl⟩
    obtain ⟨h2, h3⟩ := List.mem_filter.mp h1
    exact ⟨n, h2, by simpa using h3, rfl⟩
  · rintro ⟨n, h1, h2, rfl⟩
    exact ⟨n, List.mem_filter.mpr ⟨h1, by simpa using h2⟩, rfl⟩
theorem at_val {cols : List Col} {rws : List (List V)} (F : RowsFit cols rws) {r : List V} (hr : r ∈ rws) {n : Str} (hn : n ∈ colNs cols) : ∃ k b, ValOf k b (at_ (colNs cols) r n) := by
  obtain ⟨j, e1, e2, _, _⟩ := idx_str hn
  have hj : j < cols.length := by unfold colNs at e2; rwa [List.length_map] at e2
  have hl := F.n r hr
  have er : r[j]? = some r[j] := List.getElem?_eq_getElem (by omega)
  have ea : at_ (colNs cols) r n = r[j] := by unfold at_; rw [← e1]; exact getD_some er
  rw [ea]
  exact ⟨_, _, F.v r hr j cols[j] _ (List.getElem?_eq_getElem hj) er⟩
theorem idx_inj {ns : List Str} {n m : Str} (hn : n ∈ ns) (hm : m ∈ ns) (e : ns.idxOf n = ns.idxOf m) : n = m := by
  obtain ⟨j, e1, e2, e3, _⟩ := idx_str hn
  obtain ⟨k, f1, f2, f3, _⟩ := idx_str hm
  have : j = k := by omega
  subst this
  rw [e3] at f3
  exact Option.some.inj f3
/-- a pair that an earlier row has -/
theorem badU_iff {fr : List (Str × List Col)} {tab : Tab} (ok : TabOk fr tab) {rws : List (List V)} (F : RowsFit tab.cols rws) {i : Nat} {r : List V} (hr : rws[i]? = some r) :
    ((∃ M ∈ givenM tab r, ∃ x ∈ rws.take i, M ∈ givenM tab x) ↔ badU tab (rws.take i) r = true) := by
  have hm := List.mem_of_getElem? hr
  have un : ∀ n ∈ tab.un, n ∈ colNs tab.cols := fun n hn => by
    have := ok.uc n hn
    unfold colNs at this ⊢
    rw [List.map_drop] at this
    exact List.mem_of_mem_drop this
  constructor
  · rintro ⟨M, h1, x, hx, h2⟩
    obtain ⟨n, n1, n2, rfl⟩ := given_mem.mp h1
    obtain ⟨m, m1, m2, e⟩ := given_mem.mp h2
    have hxm := List.mem_of_mem_take hx
    have e1 : (((colNs tab.cols).idxOf n : Nat) : Int) = (((colNs tab.cols).idxOf m : Nat) : Int) := Sum.inl.inj (List.cons.inj e).1
    have e2 : vKey (at_ (colNs tab.cols) r n) = vKey (at_ (colNs tab.cols) x m) := (List.cons.inj (List.cons.inj e).2).1
    have enm : n = m := idx_inj (un n n1) (un m m1) (by omega)
    subst enm
    obtain ⟨_, _, v1⟩ := at_val F hm (un n n1)
    obtain ⟨_, _, v2⟩ := at_val F hxm (un n n1)
    unfold badU
    refine List.any_eq_true.mpr ⟨n, n1, List.any_eq_true.mpr ⟨x, hx, ?_⟩⟩
    unfold clash
    rw [decide_eq_false n2, decide_eq_true (show at_ (colNs tab.cols) x n = at_ (colNs tab.cols) r n by rw [← kV_vKey v2 m2, ← e2, kV_vKey v1 n2])]
    rfl
  · intro h
    unfold badU at h
    obtain ⟨n, n1, h⟩ := List.any_eq_true.mp h
    obtain ⟨x, hx, h⟩ := List.any_eq_true.mp h
    unfold clash at h
    simp only [Bool.and_eq_true, Bool.not_eq_true', decide_eq_false_iff_not, decide_eq_true_eq] at h
    refine ⟨_, given_mem.mpr ⟨n, n1, h.1, rfl⟩, x, hx, given_mem.mpr ⟨n, n1, by rw [h.2]; exact h.1, by rw [h.2]⟩⟩
theorem given_len (tab : Tab) (r : List V) : (givenM tab r).length ≤ tab.un.length := by unfold givenM; rw [List.length_map]; exact List.length_filter_le _ _
/-- data of scalars for a comparison of lists -/
theorem vals_dp {K : PySem.W.Frag} {H : Hp} {vs : List V} : (∀ v ∈ vs, ∃ k b, ValOf k b v) → ∃ ds : List PyData, DpAll K H vs ds ∧ ds.length = vs.length ∧ PyData.canLayAll0 ds = true ∧ PyData.depthAll ds ≤ 1 := by
  induction vs with
  | nil => intro _; exact ⟨[], .nil, rfl, by simp [PyData.canLayAll0], by simp [PyData.depthAll]⟩
  | cons v r ih =>
    intro h
    obtain ⟨ds, h1, h2, h3, h4⟩ := ih fun x hx => h x (List.mem_cons_of_mem _ hx)
    obtain ⟨k, b, hv⟩ := h v List.mem_cons_self
    rcases hv with ⟨_, rfl⟩ | ⟨_, i, rfl, _⟩ | ⟨_, z, rfl, _, hz⟩
    · exact ⟨.none :: ds, .cons .non h1, by simp [h2], by simp [PyData.canLayAll0, PyData.canLay0, h3], by simp only [PyData.depthAll, PyData.depth]; omega⟩
    · exact ⟨.int i :: ds, .cons (.int i) h1, by simp [h2], by simp [PyData.canLayAll0, PyData.canLay0, h3], by simp only [PyData.depthAll, PyData.depth]; omega⟩
    · exact ⟨.str z :: ds, .cons (.str z) h1, by simp [h2], by simp [PyData.canLayAll0, PyData.canLay0, h3, strOk_of hz], by simp only [PyData.depthAll, PyData.depth]; omega⟩
/-- keys != [] -/
theorem ne_empty {K : PySem.W.Frag} {H : Hp} {Q : VK} {a e : Addr} {vs : List V} (ha : H a = some (.lst vs)) (he : H e = some (.lst [])) (h : ∀ v ∈ vs, ∃ k b, ValOf k b v) (q : Q (.bl (!vs.isEmpty)) H) : rNeD K (.ref a) (.ref e) H Q := by
  obtain ⟨ds, h1, h2, h3, h4⟩ := vals_dp (K := K) (H := H) h
  refine ⟨.list ds, .list [], .lst (SqL.of ha) h1, .lst (SqL.of he) .nil, ?_, rfl, ?_⟩
  · simp only [SeqAt.shaped, PyData.canLay0, h3, Bool.true_and, PyData.depth]
    exact decide_eq_true (by omega)
  · have e1 : PyData.eqv (.list ds) (.list []) = vs.isEmpty := by
      cases ds with
      | nil => cases vs with
        | nil => rfl
        | cons v r => cases h2
      | cons d r => cases vs with
        | nil => cases h2
        | cons v s => rfl
    rw [e1]; exact q
/-- pairs made of a row, one by one -/
def GivenAt (H : Hp) (gs : List V) (Ms : List (List Key)) : Prop := gs.length = Ms.length ∧ ∀ (j : Nat) (v : V) (M : List Key), gs[j]? = some v → Ms[j]? = some M → ∃ p, v = .ref p ∧ H p = some (.tup (M.map kV))
theorem GivenAt.mono {H H' : Hp} {gs : List V} {Ms : List (List Key)} (h : GivenAt H gs Ms) (k : KeepT H H') : GivenAt H' gs Ms := ⟨h.1, fun j v M h1 h2 => by
  obtain ⟨p, e, g⟩ := h.2 j v M h1 h2
  exact ⟨p, e, k _ _ g⟩⟩
theorem GivenAt.snoc {H : Hp} {gs : List V} {Ms : List (List Key)} {p : Addr} {M : List Key} (h : GivenAt H gs Ms) (g : H p = some (.tup (M.map kV))) : GivenAt H (gs ++ [.ref p]) (Ms ++ [M]) := by
  refine ⟨by rw [List.length_append, List.length_append, h.1]; rfl, fun j v M' h1 h2 => ?_⟩
  by_cases hj : j < gs.length
  · rw [List.getElem?_append_left hj] at h1
    rw [List.getElem?_append_left (by rw [← h.1]; exact hj)] at h2
    exact h.2 j v M' h1 h2
  · have e : j = gs.length := by
      have := (List.getElem?_eq_some_iff.mp h1).1
      rw [List.length_append, List.length_singleton] at this
      omega
    subst e
    rw [List.getElem?_append_right (Nat.le_refl _), Nat.sub_self] at h1
    rw [List.getElem?_append_right (by rw [h.1]; exact Nat.le_refl _), h.1, Nat.sub_self] at h2
    cases h1
    cases h2
    exact ⟨p, rfl, g⟩
theorem GivenAt.get {H : Hp} {gs : List V} {Ms : List (List Key)} (h : GivenAt H gs Ms) {j : Nat} {v : V} (e : gs[j]? = some v) : ∃ M p, Ms[j]? = some M ∧ v = .ref p ∧ H p = some (.tup (M.map kV)) := by
  have hj := (List.getElem?_eq_some_iff.mp e).1
  have hjm : j < Ms.length := by rw [← h.1]; exact hj
  have em : Ms[j]? = some Ms[j] := List.getElem?_eq_getElem hjm
  obtain ⟨p, e1, e2⟩ := h.2 j v _ e em
  exact ⟨_, p, em, e1, e2⟩
/-- the pairs of the first n uniques -/
def givenT (tab : Tab) (r : List V) (n : Nat) : List (List Key) := ((tab.un.take n).filter fun n => !decide (at_ (colNs tab.cols) r n = .non)).map fun n => [Sum.inl (((colNs tab.cols).idxOf n : Nat) : Int), vKey (at_ (colNs tab.cols) r n)]
theorem givenT_all (tab : Tab) (r : List V) {n : Nat} (h : tab.un.length ≤ n) : givenT tab r n = givenM tab r := by unfold givenT givenM; rw [List.take_of_length_le h]
theorem givenT_len (tab : Tab) (r : List V) (n : Nat) : (givenT tab r n).length ≤ tab.un.length := by
  unfold givenT; rw [List.length_map]
  have a := List.length_filter_le (fun n => !decide (at_ (colNs tab.cols) r n = .non)) (tab.un.take n)
  rw [List.length_take] at a
  omega
theorem givenT_step {tab : Tab} {r : List V} {i : Nat} {n : Str} (h : tab.un[i]? = some n) : givenT tab r (i + 1) = if at_ (colNs tab.cols) r n = .non then givenT tab r i else givenT tab r i ++ [[Sum.inl (((colNs tab.cols).idxOf n : Nat) : Int), vKey (at_ (colNs tab.cols) r n)]] := by
  unfold givenT
  rw [List.take_add_one, h, List.filter_append, List.map_append]
  by_cases e : at_ (colNs tab.cols) r n = .non
  · rw [if_pos e]; simp [e]
  · rw [if_neg e]; simp [e]
theorem range_step {n i : Nat} (P : Nat → Bool) (f : Nat → V) : ((List.range (i + 1)).filter P).map f = if P i = true then ((List.range i).filter P).map f ++ [f i] else ((List.range i).filter P).map f := by
  rw [List.range_succ, List.filter_append, List.map_append]
  cases h : P i <;> simp [h]
def stKs (st : List TS) (n : Str) : List Key := match st.find? (fun p => decide (p.n = n)) with | some p => roN p.rs | none => []
theorem st_find {st : List TS} (nm : (stN st).Nodup) {p : TS} (hp : p ∈ st) : st.find? (fun q => decide (q.n = p.n)) = some p := by
  cases e : st.find? (fun q => decide (q.n = p.n)) with
  | none => have := List.find?_eq_none.mp e p hp; simp at this
  | some q =>
    have h1 := List.mem_of_find?_eq_some e
    have h2 : q.n = p.n := by simpa using List.find?_some e
    rw [st_one nm h1 hp h2]
theorem sch_find {s : Sch} (nm : (schN s).Nodup) {p : Ads × Tab} (hp : p ∈ s) : s.find? (fun q => decide (q.2.n = p.2.n)) = some p := by
  cases e : s.find? (fun q => decide (q.2.n = p.2.n)) with
  | none => have := List.find?_eq_none.mp e p hp; simp at this
  | some q =>
    have h1 := List.mem_of_find?_eq_some e
    have h2 : q.2.n = p.2.n := by simpa using List.find?_some e
    rw [sch_one nm h1 hp h2]
theorem stKs_eq {st : List TS} (nm : (stN st).Nodup) {p : TS} (hp : p ∈ st) : stKs st p.n = roN p.rs := by unfold stKs; rw [st_find nm hp]
/-- is a value a key of the table -/
theorem key_in {rs : List Ro} {k : Str} {b : Bool} {v : V} (h : ValOf k b v) (n : v ≠ .non) : (valV (roK rs) (vKey v)).isSome = ((roN rs).any fun q => decide (kV q = v)) := by
  rw [Bool.eq_iff_iff, valV_isSome, roK_keys, List.any_eq_true]
  constructor
  · intro hm
    exact ⟨_, hm, decide_eq_true (kV_vKey h n)⟩
  · rintro ⟨q, hq, e⟩
    have e := of_decide_eq_true e
    have : vKey v = q := by rw [← e]; cases q <;> rfl
    rw [this]; exact hq
/-- a schema and a state of it -/
structure DB (H : Hp) (S : Addr) (s : Sch) (T : Addr) (st : List TS) : Prop where
  sk : H S = some (.dK (schK s))
  ds : ∀ p ∈ s, DescAt H p.1 p.2
  nm : (schN s).Nodup
  ok : ∀ p ∈ s, TabOk (frOf s) p.2
  l6 : s.length ≤ 6
  sa : StAt H T st
  fit : ∀ p ∈ s, ∃ q ∈ st, q.n = p.2.n ∧ TabFit p.2.cols q.rs
theorem DB.mono {H H' : Hp} {S : Addr} {s : Sch} {T : Addr} {st : List TS} (h : DB H S s T st) (e : Same H H') : DB H' S s T st := ⟨e _ _ h.sk, fun p hp => (h.ds p hp).mono e, h.nm, h.ok, h.l6, h.sa.mono e, h.fit⟩
theorem DB.ref {H : Hp} {S : Addr} {s : Sch} {T : Addr} {st : List TS} (h : DB H S s T st) {p : Ads × Tab} (hp : p ∈ s) : ∀ r ∈ p.2.rf, ∃ q ∈ st, q.n = r.2 := fun r hr => by
  obtain ⟨col, _, _, _, f, hf, ef, _⟩ := (h.ok p hp).rc r hr
  obtain ⟨p', hp', rfl⟩ := List.mem_map.mp hf
  obtain ⟨q, hq, e, _⟩ := h.fit p' hp'
  exact ⟨q, hq, e.trans ef⟩
theorem DB.key {H : Hp} {S : Addr} {s : Sch} {T : Addr} {st : List TS} (h : DB H S s T st) {p : Ads × Tab} (hp : p ∈ s) {rs : List Ro} (f : TabFit p.2.cols rs) : OneKind (roN rs) :=
  one_kind (List.getElem?_eq_getElem (h.ok p hp).l0) f.f
theorem DB.rest {cols : List Col} {rs : List Ro} (l5 : cols.length ≤ 5) (f : TabFit cols rs) : ∀ r ∈ rs, r.vs.length ≤ 50 := fun r hr => by
  have := (f.f r hr).r.1
  omega
def faultN (s : Sch) (st : List TS) (n : Str) : Option (Str × Str × V) :=
  match s.find? (fun p => decide (p.2.n = n)), st.find? (fun q => decide (q.n = n)) with
  | some p, some q => (faultT (stKs st) p.2 (rowsM q.rs)).map fun x => (x.1, n, x.2)
  | _, _ => none
def faultK (s : Sch) (st : List TS) : Key → Option (Str × Str × V)
  | .inr n => faultN s st n
  | .inl _ => none
def faultM (s : Sch) (st : List TS) : Option (Str × Str × V) := (sortK ((schN s).map Sum.inr)).findSome? (faultK s st)
def FaultAt (H : Hp) (v : V) : Option (Str × Str × V) → Prop
  | none => v = .non
  | some (c, n, k) => ∃ p, v = .ref p ∧ H p = some (.tup [.str c, .str n, k]) ∧ isScal k = true
theorem faultN_eq {s : Sch} {st : List TS} (nm : (schN s).Nodup) (nt : (stN st).Nodup) {p : Ads × Tab} {q : TS} (hp : p ∈ s) (hq : q ∈ st) (e : q.n = p.2.n) : faultN s st p.2.n = (faultT (stKs st) p.2 (rowsM q.rs)).map fun x => (x.1, p.2.n, x.2) := by
  unfold faultN
  rw [sch_find nm hp, ← e, st_find nt hq]
/-- leads_nowhere -/
def spLeadsNo : Sp := fun vs H Q _ => ∃ (S : Addr) (s : Sch) (T : Addr) (st : List TS) (p : Ads × Tab) (ra N RF : Addr) (r : List V) (rws : List (List V)), vs = [.ref ra, .ref N, .ref RF, .ref T] ∧ DB H S s T st ∧ p ∈ s ∧ H ra = some (.tup r) ∧ r ∈ rws ∧ RowsFit p.2.cols rws ∧
  H N = some (.lst ((colNs p.2.cols).map V.str)) ∧ RF = p.1.r ∧ Q (.bl (badR (stKs st) p.2 r)) H
def spLost : Sp := fun vs H Q _ => ∃ (S : Addr) (s : Sch) (T : Addr) (st : List TS) (p : Ads × Tab) (L : Addr) (rws : List (List V)), vs = [.ref p.1.d, .ref L, .ref T] ∧ DB H S s T st ∧ p ∈ s ∧ RowsAt H L rws ∧ RowsFit p.2.cols rws ∧ ∀ N H', H' N = some (.lst (keysR (stKs st) p.2 rws)) → Same H H' → Q (.ref N) H'
def spTableFault : Sp := fun vs H Q _ => ∃ (S : Addr) (s : Sch) (T : Addr) (st : List TS) (p : Ads × Tab), vs = [.ref S, .ref T, .str p.2.n] ∧ DB H S s T st ∧ p ∈ s ∧ ∀ v H', FaultAt H' v (faultN s st p.2.n) → Same H H' → Q v H'
def spFault : Sp := fun vs H Q _ => ∃ (S : Addr) (s : Sch) (T : Addr) (st : List TS), vs = [.ref S, .ref T] ∧ DB H S s T st ∧ ∀ v H', FaultAt H' v (faultM s st) → Same H H' → Q v H'
theorem keys_scal {cols : List Col} {rws : List (List V)} (F : RowsFit cols rws) (l0 : 1 ≤ cols.length) {r : List V} (hr : r ∈ rws) : ∃ k b, ValOf k b (headV r) := by
  obtain ⟨v, vs, rfl⟩ := F.ne l0 hr
  exact ⟨_, _, F.v _ hr 0 cols[0] v (List.getElem?_eq_getElem l0) rfl⟩
theorem first_filter {α : Type} {P : α → Bool} : ∀ {xs : List α} {i : Nat} {x : α}, xs[i]? = some x → P x = true → (∀ y ∈ xs.take i, P y = false) → ∃ rest, xs.filter P = x :: rest
  | [], i, x, h, _, _ => by simp at h
  | y :: r, 0, x, h, hp, _ => by
    simp at h
    subst h
    exact ⟨r.filter P, by rw [List.filter_cons, if_pos hp]⟩
  | y :: r, i + 1, x, h, hp, hn => by
    have hy : P y = false := hn y (by rw [List.take_succ_cons]; exact List.mem_cons_self)
    obtain ⟨rest, e⟩ := first_filter (xs := r) (i := i) (by simpa using h) hp fun z hz => hn z (by rw [List.take_succ_cons]; exact List.mem_cons_of_mem _ hz)
    exact ⟨rest, by rw [List.filter_cons, if_neg (by rw [hy]; decide), e]⟩
theorem none_filter {α : Type} {P : α → Bool} {xs : List α} (h : ∀ y ∈ xs, P y = false) : xs.filter P = [] := List.filter_eq_nil_iff.mpr fun y hy => by rw [h y hy]; decide
theorem take_step {α : Type} {P : α → Bool} {xs : List α} {i : Nat} {x : α} (h : xs[i]? = some x) (a : ∀ y ∈ xs.take i, P y = false) (b : P x = false) : ∀ y ∈ xs.take (i + 1), P y = false := fun y hy => by
  rw [List.take_add_one, h] at hy
  rcases List.mem_append.mp hy with hy | hy
  · exact a y hy
  · have : y = x := by simpa using hy
    rw [this]; exact b
theorem findSome_step {α β : Type} {f : α → Option β} {xs : List α} {i : Nat} {x : α} (h : xs[i]? = some x) (a : (xs.take i).findSome? f = none) (b : f x = none) : (xs.take (i + 1)).findSome? f = none := by
  rw [List.take_add_one, h, List.findSome?_append, a]
  simp [b]
theorem findSome_hit {α β : Type} {f : α → Option β} {xs : List α} {i : Nat} {x : α} {y : β} (h : xs[i]? = some x) (a : (xs.take i).findSome? f = none) (b : f x = some y) : xs.findSome? f = some y := by
  have e : xs = xs.take (i + 1) ++ xs.drop (i + 1) := (List.take_append_drop (i + 1) xs).symm
  rw [e, List.findSome?_append, List.take_add_one, h, List.findSome?_append, a]
  simp [b]
def spLawFault : Sp := spFault
def spBreaksC : Sp := fun vs H Q _ => ∃ (a : Ads) (tab : Tab) (ra : Addr) (r : List V) (rws : List (List V)) (fr : List (Str × List Col)), vs = [.ref a.d, .ref ra] ∧ DescAt H a tab ∧ TabOk fr tab ∧ H ra = some (.tup r) ∧ r ∈ rws ∧ RowsFit tab.cols rws ∧ ∀ H', Same H H' → Q (.bl (badC tab r)) H'
def spBreaksU : Sp := fun vs H Q _ => ∃ (a : Ads) (tab : Tab) (ra E : Addr) (r : List V) (ews rws : List (List V)) (fr : List (Str × List Col)), vs = [.ref a.d, .ref E, .ref ra] ∧ DescAt H a tab ∧ TabOk fr tab ∧ H ra = some (.tup r) ∧ r ∈ rws ∧ (∀ x ∈ ews, x ∈ rws) ∧ RowsFit tab.cols rws ∧ RowsAt H E ews ∧ ∀ H', Same H H' → Q (.bl (badU tab ews r)) H'
def spBreaksR : Sp := fun vs H Q _ => ∃ (S : Addr) (s : Sch) (T : Addr) (st : List TS) (p : Ads × Tab) (ra : Addr) (r : List V) (rws : List (List V)), vs = [.ref p.1.d, .ref T, .ref ra] ∧ DB H S s T st ∧ p ∈ s ∧ H ra = some (.tup r) ∧ r ∈ rws ∧ RowsFit p.2.cols rws ∧ ∀ H', Same H H' → Q (.bl (badR (stKs st) p.2 r)) H'
/-- the four codes, each with the keys of the rows that it is true for -/
def codesM (ks : Str → List Key) (tab : Tab) (rws : List (List V)) : List (Str × List V) := [("full", keysF rws), ("check", keysC tab rws), ("unique", keysU tab rws), ("reference", keysR ks tab rws)]
def hitM (c : Str × List V) : Option (Str × V) := match c.2 with | k :: _ => some (c.1, k) | [] => none
theorem faultT_codes (ks : Str → List Key) (tab : Tab) (rws : List (List V)) : faultT ks tab rws = (codesM ks tab rws).findSome? hitM := by
  unfold faultT codesM hitM
  simp only [List.findSome?_cons, List.findSome?_nil]
  cases keysF rws with
  | cons k r => rfl
  | nil =>
    cases keysC tab rws with
    | cons k r => rfl
    | nil =>
      cases keysU tab rws with
      | cons k r => rfl
      | nil => cases keysR ks tab rws <;> rfl
theorem codes_val {ks : Str → List Key} {cols : List Col} {tab : Tab} {rws : List (List V)} (F : RowsFit cols rws) (l0 : 1 ≤ cols.length) : ∀ c ∈ codesM ks tab rws, ∀ v ∈ c.2, ∃ k b, ValOf k b v := by
  intro c hc v hv
  unfold codesM at hc
  simp only [List.mem_cons, List.not_mem_nil, or_false] at hc
  rcases hc with rfl | rfl | rfl | rfl
  · obtain ⟨r, h1, rfl⟩ := List.mem_map.mp hv
    exact keys_scal F l0 (List.mem_of_mem_drop h1)
  · obtain ⟨r, h1, rfl⟩ := List.mem_map.mp hv
    exact keys_scal F l0 (List.mem_filter.mp h1).1
  · obtain ⟨r, h1, rfl⟩ := List.mem_map.mp hv
    have := List.mem_range.mp (List.mem_filter.mp h1).1
    have e : rws.getD r [] = rws[r] := by rw [List.getD_eq_getElem?_getD, List.getElem?_eq_getElem this]; rfl
    show ∃ k b, ValOf k b (headV (rws.getD r []))
    rw [e]
    exact keys_scal F l0 (List.getElem_mem this)
  · obtain ⟨r, h1, rfl⟩ := List.mem_map.mp hv
    exact keys_scal F l0 (List.mem_filter.mp h1).1
theorem at_vals {cols : List Col} {rws : List (List V)} (F : RowsFit cols rws) {n : Str} (hn : n ∈ colNs cols) : ∃ k b, ∀ r ∈ rws, ValOf k b (at_ (colNs cols) r n) := by
  obtain ⟨j, e1, e2, _, _⟩ := idx_str hn
  have hj : j < cols.length := by unfold colNs at e2; rwa [List.length_map] at e2
  refine ⟨cols[j].k, cols[j].b, fun r hr => ?_⟩
  have hl := F.n r hr
  have er : r[j]? = some r[j] := List.getElem?_eq_getElem (by omega)
  have ea : at_ (colNs cols) r n = r[j] := by unfold at_; rw [← e1]; exact getD_some er
  rw [ea]
  exact F.v r hr j cols[j] _ (List.getElem?_eq_getElem hj) er
theorem val_scal {k : Str} {b : Bool} {v w : V} (h : ValOf k b v) (g : ValOf k b w) : scal v w = true := by
  rcases h with ⟨_, rfl⟩ | ⟨k1, i, rfl, _⟩ | ⟨k1, z, rfl, _⟩ <;> rcases g with ⟨_, rfl⟩ | ⟨k2, j, rfl, _⟩ | ⟨k2, y, rfl, _⟩ <;> first | rfl | exact absurd k1 k2 | exact absurd k2 k1
/-! ## states drawn -/
def spRowsDraw : Sp := fun vs H Q _ => ∃ (t c L : Addr) (cs : List Int) (cols : List Col) (most : Int), vs = [.ref t, .ref L, .int most] ∧ TapeAt H t c cs ∧ ColsAt H L cols ∧ 0 < cols.length ∧ cols.length ≤ 100 ∧ 0 ≤ most ∧ most ≤ 20 ∧
  ∀ d rs H', TAt H' d rs → (∀ r ∈ rs, RowFit cols r) → (rs.length : Int) ≤ most → H d = none → TapeAt H' t c cs → SameX t H H' → Q (.ref d) H'
/-- tables with rows, for each table of the schema one -/
structure StFit (s : Sch) (st : List TS) (most : Nat) : Prop where
  f : ∀ p ∈ s, ∃ q ∈ st, q.n = p.2.n ∧ (∀ r ∈ q.rs, RowFit p.2.cols r)
  l : ∀ q ∈ st, q.rs.length ≤ most
  n : ∀ q ∈ st, q.n ∈ schN s
  e : st.length = s.length
def stD (T : Addr) (st : List TS) : List Addr := T :: st.map fun q => q.d
def spState : Sp := fun vs H Q _ => ∃ (t c S : Addr) (cs : List Int) (s : Sch) (most : Int), vs = [.ref t, .ref S, .int most] ∧ TapeAt H t c cs ∧ SchAt H S s t c ∧ (∀ p ∈ s, TabOk (frOf s) p.2) ∧ s.length ≤ 6 ∧ 0 ≤ most ∧ most ≤ 20 ∧
  ∀ T st H', StAt H' T st → StFit s st most.toNat → (stD T st).Nodup → (∀ a ∈ stD T st, H a = none) → TapeAt H' t c cs → SameX t H H' → Q (.ref T) H'
theorem ValOf.key {k : Str} {v : V} (h : ValOf k false v) : kV (vKey v) = v := kV_vKey h (by
  rcases h with ⟨e, _⟩ | ⟨_, i, rfl, _⟩ | ⟨_, z, rfl, _⟩
  · cases e
  · intro z; cases z
  · intro z; cases z)
theorem RowFit.mk' {cols : List Col} {c : Col} {v : V} {vs : List V} {a : Addr} (hc : cols[0]? = some c) (h : ValOf c.k false v) (r : RestOf cols vs) : RowFit cols ⟨vKey v, a, vs⟩ := ⟨fun c' hc' => by
  rw [hc] at hc'
  cases hc'
  show ValOf c.k false (kV (vKey v))
  rw [h.key]
  exact h, r⟩
theorem st_new {st : List TS} {x : TS} (h : x.n ∉ stN st) : putK (stK st) (Sum.inr x.n : Key) (.ref x.d) = stK (st ++ [x]) := by
  rw [putK_fresh]
  · unfold stK; rw [List.map_append]; rfl
  · rw [st_keys]
    intro z
    obtain ⟨y, h1, h2⟩ := List.mem_map.mp z
    cases h2
    exact h h1
/-- _law_fill -/
def spFill : Sp := fun vs H Q _ => ∃ (t c S T : Addr) (cs : List Int) (s : Sch) (st : List TS), vs = [.ref t, .ref S, .ref T] ∧ TapeAt H t c cs ∧ SchAt H S s t c ∧ (∀ p ∈ s, TabOk (frOf s) p.2) ∧ 1 ≤ s.length ∧ s.length ≤ 6 ∧ StAt H T st ∧ StFit s st 6 ∧ (t :: stD T st).Nodup ∧
  ∀ st' H', StAt H' T st' → StFit s st' 80 → stD T st' = stD T st → TapeAt H' t c cs → SameE (t :: stD T st) H H' → Q .non H'
theorem ks_len {x : Str} (h : x.length ≤ 10) (h2 : ∀ c ∈ tl x, c = 45 ∨ (48 ≤ c ∧ c ≤ 57)) : ((("k" : Str) ++ x)).length ≤ 30 ∧ ∀ c ∈ tl (("k" : Str) ++ x), chOk c := by
  have e : tl ("k" : Str) = [107] := by decide +kernel
  refine ⟨?_, fun c hc => ?_⟩
  · rw [len_app, len_tl, e]; show 1 + _ ≤ 30; omega
  · rw [tl_append, e] at hc
    rcases List.mem_cons.mp hc with rfl | hc
    · decide
    · exact digit_ok (h2 c hc)
theorem natSm {x : Int} (h : 0 ≤ x) (h2 : x ≤ 1000) : x.natAbs < 2 ^ 9000 := by
  have h1 : x.natAbs ≤ 1000 := by omega
  exact Nat.lt_of_le_of_lt h1 (by decide +kernel)
theorem SchAt.other {H : Hp} {S M t c : Addr} {s : Sch} {kvs : List (Key × V)} {o : HO} (A : SchAt H S s t c) (hM : H M = some (.dK kvs)) (n1 : S ≠ M) (n2 : ∀ p ∈ s, p.1.d ≠ M) : SchAt (upd H M o) S s t c :=
  ⟨by rw [upd_ne n1]; exact A.sk, fun p hp => (A.ds p hp).lock hM (n2 p hp), A.nm, A.dn, A.ln⟩
/-- a row put into the table n -/
def putSt (st : List TS) (n : Str) (r : Ro) : List TS := st.map fun q => if q.n = n then ⟨q.n, q.d, putRo q.rs r⟩ else q
theorem putSt_map {α : Type} (f : TS → α) (st : List TS) (n : Str) (r : Ro) (h : ∀ q : TS, f ⟨q.n, q.d, putRo q.rs r⟩ = f q) : (putSt st n r).map f = st.map f := by
  unfold putSt
  rw [List.map_map]
  refine List.map_congr_left fun q _ => ?_
  show f (if q.n = n then ⟨q.n, q.d, putRo q.rs r⟩ else q) = f q
  split
  · exact h q
  · rfl
theorem putSt_K (st : List TS) (n : Str) (r : Ro) : stK (putSt st n r) = stK st := putSt_map (fun p => ((Sum.inr p.n : Key), V.ref p.d)) st n r fun _ => rfl
theorem putSt_N (st : List TS) (n : Str) (r : Ro) : stN (putSt st n r) = stN st := putSt_map (fun p => p.n) st n r fun _ => rfl
theorem putSt_D (T : Addr) (st : List TS) (n : Str) (r : Ro) : stD T (putSt st n r) = stD T st := by unfold stD; rw [putSt_map (fun p => p.d) st n r fun _ => rfl]
theorem putSt_mem {st : List TS} {n : Str} {r : Ro} {x : TS} (h : x ∈ putSt st n r) : ∃ q ∈ st, x.n = q.n ∧ x.d = q.d ∧ ((q.n = n ∧ x.rs = putRo q.rs r) ∨ (q.n ≠ n ∧ x = q)) := by
  obtain ⟨q, h1, rfl⟩ := List.mem_map.mp h
  refine ⟨q, h1, ?_⟩
  by_cases e : q.n = n
  · rw [if_pos e]; exact ⟨rfl, rfl, .inl ⟨e, rfl⟩⟩
  · rw [if_neg e]; exact ⟨rfl, rfl, .inr ⟨e, rfl⟩⟩
theorem putSt_at {st : List TS} {n : Str} {r : Ro} {q : TS} (h : q ∈ st) : (if q.n = n then (⟨q.n, q.d, putRo q.rs r⟩ : TS) else q) ∈ putSt st n r := List.mem_map.mpr ⟨q, h, rfl⟩
theorem st_d_one {T : Addr} {st : List TS} (nd : (stD T st).Nodup) {p q : TS} (hp : p ∈ st) (hq : q ∈ st) (e : p.d = q.d) : p = q := by
  have nd := (List.nodup_cons.mp nd).2
  obtain ⟨i, hi, ei⟩ := List.getElem_of_mem hp
  obtain ⟨j, hj, ej⟩ := List.getElem_of_mem hq
  have a1 : (st.map fun q => q.d)[i]? = some p.d := by rw [List.getElem?_map, List.getElem?_eq_getElem hi, ei]; rfl
  have a2 : (st.map fun q => q.d)[j]? = some p.d := by rw [List.getElem?_map, List.getElem?_eq_getElem hj, ej]; exact congrArg some e.symm
  have := nd_ix nd a1 a2
  subst this
  rw [← ei, ← ej]
theorem StAt.put {H : Hp} {T : Addr} {st : List TS} {q : TS} {r : Ro} (B : StAt H T st) (nd : (stD T st).Nodup) (hq : q ∈ st) (hr : H r.a = some (.tup r.vs)) : StAt (upd H q.d (.dK (roK (putRo q.rs r)))) T (putSt st q.n r) := by
  have dk := (B.ds q hq).dk
  have ku : KeepT H (upd H q.d (.dK (roK (putRo q.rs r)))) := KeepT.lock dk
  have nT : T ≠ q.d := fun e => (List.nodup_cons.mp nd).1 (List.mem_map.mpr ⟨q, hq, e.symm⟩)
  refine ⟨by rw [upd_ne nT, putSt_K]; exact B.sk, fun x hx => ?_, by rw [putSt_N]; exact B.nm⟩
  obtain ⟨z, hz, en, ed, h⟩ := putSt_mem hx
  have A := B.ds z hz
  rcases h with ⟨e, ers⟩ | ⟨e, rfl⟩
  · have : z = q := st_one B.nm hz hq e
    subst this
    rw [ed, ers]
    refine ⟨upd_same, fun y hy => ?_, putRo_nd A.nd r⟩
    rcases putRo_mem hy with ⟨_, ea, ev⟩ | hy
    · rw [ea, ev]; exact ku _ _ hr
    · exact ku _ _ (A.rt y hy)
  · have nd' : x.d ≠ q.d := fun e' => e (by rw [st_d_one nd hz hq e'])
    exact A.mono ku fun o h => by rw [upd_ne nd']; exact h
end Lt

set_option autoImplicit false
namespace Lt
open PySem PySem.Spec PyProof.Rows L2 TL
open C8 (pss_cut)
/-! ## errors of the program -/
/-- C(e, ..), C an own exception class with an own __init__: its context is None -/
theorem pmk_ownN {X : Cx} {CX : CXT} {x : Str} {e : Expr} {es : List Expr} {ta : TA} {p pos : Pos} {C fI : Addr} {k : Nat} {fd : FuncData} {ps : List Str} {sp : Sp} (T : OexC X.K C)
    (iC : PySem.W.findIn X.K (.ref C) "__init__" = some (some (.ref fI))) (tI : PySem.W.typeIn X.K (.ref fI) = some (.type "function"))
    (G : FnOk X.prog X.w X.K X.mg X.base CX k fI fd ps sp) (hr : Room (k + 1) X.A) (hb : Binds X.K fd ps []) (hx : Passes CX X (fun _ _ _ => False)) (hg : Gl X x) (hm : X.mg x = some (.ref C)) (ha : PA X (e :: es) ta)
    (hdb : (x == ("__debug__" : Str)) = false := by decide) (he : starEach (e :: es) X.env = (false, eval e X.env) :: starEach es X.env := by rfl) (hpl : (backTo pos (starEach es X.env)).any (·.1) = false := by rfl) :
    L2N.PMk X (.Call (.Name x p) (e :: es) [] pos) (tMkO C sp [] ta) := fun pins s σ H Q I h => by
  obtain ⟨_, _, _, _, bm, _, _, _, _, _, _, _, _, _, _, hcl, hbm⟩ := T.cls
  refine wpAny_Call_Name_kw (ld_glob I hg hm (PySem.W.callWith_K (h₀ := X.base) I.ok.mod.kin T.kC (thn (ha.run pos pins s σ H _ I h) fun us s1 w => ?_) he hpl) hdb)
  obtain ⟨vs, H1, J, rv, lv, q⟩ := w
  refine ⟨J.kIn, ?_⟩
  show wpAny _ _ (call (.ref C) us) _ _ _
  obtain ⟨hp, gs, dr, tok, os⟩ := s1
  generalize hA : hp.objs.size + 1 = A
  have le : hp.objs.size ≤ A := by omega
  have q := q A (J.hok.fresh le)
  rw [List.append_nil] at q
  have keep : ∀ b o, hp.get? b = some o → ((hp.push (PySem.W.kdv_tup us)).push (PySem.HandSPX.excO C hp.objs.size)).get? b = some o := fun _ _ g => Heap.get?_push_of_some _ (Heap.get?_push_of_some _ g)
  have there : ((hp.push (PySem.W.kdv_tup us)).push (PySem.HandSPX.excO C hp.objs.size)).get? A = some (PySem.HandSPX.excO C hp.objs.size) := by rw [← hA]; heap_get
  have J2 : Inv X pins σ (upd H1 A (exo A C none)) ⟨(hp.push (PySem.W.kdv_tup us)).push (PySem.HandSPX.excO C hp.objs.size), gs, dr, tok, os⟩ := J.laid (t' := tok) keep le (exo_ok there)
  have rv2 : Vals (V.ref A :: vs) (Value.ref A :: us) := .cons rfl rv
  have len : (Value.ref A :: us ++ []).length = ps.length := by rw [List.append_nil, ← rv2.length, G.len _ _ _ _ q]
  have bi := hb _ (Value.ref A :: us) J2.kIn len
  rw [List.append_nil] at bi
  have lus : us.length ≤ sizeLine := by rw [← Paired.length rv, sizeLine_eq]; omega
  subst hA
  refine wpAny_call (PySem.HandSPX.call_own F.excBase_ValueError (fun Y => PySem.HandSPX.refsVE_contains Y bm hbm) (J.kIn _ _ hcl) (PySem.W.looks_findIn J.kIn iC) (fun self => PySem.W.bind_fn J.kIn self tI) lus
    (codeAny_mono (G.run _ X.stack _ _ ⟨Value.ref (hp.objs.size + 1) :: us, []⟩ (Value.ref (hp.objs.size + 1) :: us) _ _ (fun _ _ _ => False) (hr.make C us []) (J2.env0.make C us []) bi rv2 q) fun r s' w => ?_))
  cases r with
  | error er => exact hx pins σ _ _ er s' J2 w
  | ok fl =>
    cases fl with
    | ret u =>
      obtain ⟨v, H2, eo, bare, un, hok, ru, rfl, d, fs, ea, ed, hd, q2⟩ := w
      obtain ⟨h2, g2, d2, t2, os'⟩ := s'
      obtain ⟨t0, G0, K0, kG, ge, hoe, na⟩ := mk_end0 (d2 := d2) (t2 := t2) J le keep un hok eo bare ea ed hd
      exact ⟨ru, _, _, _, ⟨G0, g2, d2, t2, os'⟩, _, .ref C, some d, rfl, K0, kG, ge, hoe, ⟨rfl, rfl, fun vs e => by cases e; rfl⟩, rfl, rfl, na, rfl, bare, raises_own T.exC T.tyC, q2⟩
    | next => exact w.elim
    | brk => exact w.elim
    | cont => exact w.elim
/-- what can't be reached -/
theorem ps_no {X : Cx} {st : Stmt} : PS X st (fun _ _ _ => False) := ⟨fun _ _ _ _ _ _ h => h.elim⟩
theorem pss_no {X : Cx} {sts : List Stmt} : PSs X sts (fun _ _ _ => False) := ⟨fun _ _ _ _ _ _ h => h.elim⟩
theorem pe_no {X : Cx} {e : Expr} : PE X e (fun _ _ _ => False) := ⟨fun _ _ _ _ _ _ h => h.elim⟩
/-- what the text says of an error class of two fields -/
structure ErrC (K : PySem.W.Frag) (mg : Str → Option Value) (x f1 f2 : Str) (C fI : Addr) : Prop where
  gC : mg x = some (.ref C)
  T : OexC K C
  iC : PySem.W.findIn K (.ref C) "__init__" = some (some (.ref fI))
  tI : PySem.W.typeIn K (.ref fI) = some (.type "function")
  n1 : PySem.W.findIn K (.ref C) f1 = some none
  n2 : PySem.W.findIn K (.ref C) f2 = some none
  xf : XfC K C
  te : PySem.W.exmOne K (.ref C) (.ref C) = some true
/-- __init__(self, a, b): self.f1 = a; self.f2 = b -/
def spInit2 (K : PySem.W.Frag) (C : Addr) (f1 f2 : Str) : Sp := fun vs H Q _ => ∃ (a : Addr) (u v : V), vs = [.ref a, u, v] ∧ OexC K C ∧ PySem.W.findIn K (.ref C) f1 = some none ∧ PySem.W.findIn K (.ref C) f2 = some none ∧ H a = some (exo a C none) ∧
  ∀ d, H d = none → d ≠ a → Q .non (upd (upd (upd H d (exd d [(f1, u)])) a (exo a C (some d))) d (exd d [(f2, v), (f1, u)]))
/-- C(u, v) raised: its fields stand in a dict of its own -/
theorem raise2 {K : PySem.W.Frag} {mg : Str → Option Value} {x f1 f2 : Str} {C fI : Addr} (c : ErrC K mg x f1 f2 C fI) {H : Hp} {Q : XK} {u v : V} (q : ∀ d, H d = none → Q (.ref C) (some d) (upd H d (.xd [(f2, v), (f1, u)]))) :
    ∀ a, H a = none → spInit2 K C f1 f2 (.ref a :: ([u, v] ++ [])) (upd H a (exo a C none)) (fun w H2 => w = .non ∧ ∃ (d : Addr) (fs : List (Str × V)), H2 a = some (exo a C (some d)) ∧ H2 d = some (exd d fs) ∧ H d = none ∧ Q (.ref C) (some d) (upd (del H2 a) d (.xd fs))) (fun _ _ _ => False) := fun a ha => by
  refine ⟨a, u, v, rfl, c.T, c.n1, c.n2, upd_same, fun d hd hda => ⟨rfl, d, _, ?_, upd_same, ?_, ?_⟩⟩
  · rw [upd_ne hda.symm]; exact upd_same
  · rw [upd_ne hda] at hd; exact hd
  · have hd' : H d = none := by rw [upd_ne hda] at hd; exact hd
    have e : upd (del (upd (upd (upd (upd H a (exo a C none)) d (exd d [(f1, u)])) a (exo a C (some d))) d (exd d [(f2, v), (f1, u)])) a) d (.xd [(f2, v), (f1, u)]) = upd H d (.xd [(f2, v), (f1, u)]) := by
      funext b
      by_cases h1 : b = d
      · subst h1; rw [upd_same, upd_same]
      · rw [upd_ne h1, upd_ne h1]
        by_cases h2 : b = a
        · subst h2; rw [del_same, ha]
        · rw [del_ne h2, upd_ne h1, upd_ne h2, upd_ne h1, upd_ne h2]
    rw [e]
    exact q d hd'
def clsSt : Stmt → Nat → Stmt
  | .ClassDef (body := b) .., j => b.getD j (.Pass ⟨0, 0, 0, 0⟩)
  | _, _ => .Pass ⟨0, 0, 0, 0⟩
structure ErrK (P : Program) (w : World) (K : PySem.W.Frag) (mg : Str → Option Value) (base : Heap) (x f1 f2 : Str) (C fI : Addr) (fdI : FuncData) : Prop where
  c : ErrC K mg x f1 f2 C fI
  G : FnOk P w K mg base CX0 1 fI fdI ["self", f1, f2] (spInit2 K C f1 f2)
  b : Binds K fdI ["self", f1, f2] []
section
variable {P : Program} {w : World} {K : PySem.W.Frag} {mg : Str → Option Value} {base : Heap}
/-- a def that may raise -/
theorem okN {x qual : Str} {st : Stmt} {f : Addr} {fd : FuncData} {N ps : List Str} {k : Nat} {sp : Sp} (F : Fun K x qual st f fd) (S : FnScope N ps (defScope st)) (len : ∀ vs H Q E, sp vs H Q E → vs.length = ps.length)
    (hbody : ∀ (cdv : Value) (A : Around) (outer : List Env) (s : Shared) (H : Hp) (vs : List V) (Q : VK) (E : XK), Room k (A.deeper (envOfC qual (defScope st) s.heap.objs.size f cdv)) → sp vs H Q E →
      ∃ t, PSs (cxOf (L2N.CX P w) P w K mg base N qual (defScope st) f cdv A outer s H E) (defBody st) t ∧ t { nx := fun _ H' => Q .non H', rt := Q } (start N vs) H) : FnOk P w K mg base (L2N.CX P w) (k + 1) f fd ps sp := by
  obtain ⟨oc, od, kV, doc, pm, an, cdv, ct, osl, rfl, lk, hcd⟩ := F.ex
  exact fn_of lk hcd S len fun A outer s H vs Q E hr h => hbody cdv A outer s H vs Q E hr h
/-- a def called where an exception is handled -/
theorem okH {x qual : Str} {st : Stmt} {f : Addr} {fd : FuncData} {N ps : List Str} {k : Nat} {sp : Sp} (F : Fun K x qual st f fd) (S : FnScope N ps (defScope st)) (len : ∀ vs H Q E, sp vs H Q E → vs.length = ps.length)
    (hbody : ∀ (cdv : Value) (A : Around) (outer : List Env) (s : Shared) (H : Hp) (vs : List V) (Q : VK) (E : XK) (p : Addr × Obj), L2H.Hot1 A p → L2H.RoomH k (A.deeper (envOfC qual (defScope st) s.heap.objs.size f cdv)) → sp vs H Q E →
      ∃ t, PSs (L2H.cxH CX0 P w K mg base N qual (defScope st) f cdv A outer s H E p) (defBody st) t ∧ t { nx := fun _ H' => Q .non H', rt := Q } (start N vs) H) : L2H.FnH P w K mg base CX0 (k + 1) f fd ps sp := by
  obtain ⟨oc, od, kV, doc, pm, an, cdv, ct, osl, rfl, lk, hcd⟩ := F.ex
  exact L2H.fn_ofH lk hcd S len fun A outer s H vs Q E p hot hr h => hbody cdv A outer s H vs Q E p hot hr h
/-- a walked def that may raise -/
structure CalX (P : Program) (w : World) (K : PySem.W.Frag) (mg : Str → Option Value) (base : Heap) (n : Nat) (x : Str) (ps : List Str) (sp : Sp) (g : Addr) (gd : FuncData) : Prop where
  G : FnOk P w K mg base (L2N.CX P w) n g gd ps sp
  m : mg x = some (.ref g)
  kp : PySem.W.keepIn K (.ref g) = true
  b : Binds K gd ps []
theorem Kn.calX {n : Nat} {x : Str} {st : Stmt} {ps : List Str} {sp : Sp} {g : Addr} {gd : FuncData} (k : Kn K mg x st ps g gd) (G : FnOk P w K mg base (L2N.CX P w) n g gd ps sp) : CalX P w K mg base n x ps sp g gd := ⟨G, k.m, k.F.kp, k.b⟩
structure CalH (P : Program) (w : World) (K : PySem.W.Frag) (mg : Str → Option Value) (base : Heap) (n : Nat) (x : Str) (ps : List Str) (sp : Sp) (g : Addr) (gd : FuncData) : Prop where
  G : L2H.FnH P w K mg base CX0 n g gd ps sp
  m : mg x = some (.ref g)
  kp : PySem.W.keepIn K (.ref g) = true
  b : Binds K gd ps []
theorem Kn.calH {n : Nat} {x : Str} {st : Stmt} {ps : List Str} {sp : Sp} {g : Addr} {gd : FuncData} (k : Kn K mg x st ps g gd) (G : L2H.FnH P w K mg base CX0 n g gd ps sp) : CalH P w K mg base n x ps sp g gd := ⟨G, k.m, k.F.kp, k.b⟩
end
theorem takes0N {X : Cx} : L2N.Takes X (fun _ _ _ _ => False) := fun _ _ ⟨_, _, _, _, _, _, _, _, _, _, _, _, _, _, _, _, w⟩ => w.elim
theorem hotc {X : Cx} {a : Addr} {oe : Obj} {cls : Value} {d : Option Addr} {pn : List (Addr × Obj)} (hz : L2N.Zn cls d oe) (hf : ∃ vs, oe.data = .fields vs) : L2H.HotC (X.suite a ((a, oe) :: pn)) := by
  obtain ⟨vs, e⟩ := hf
  exact ⟨(a, oe), ⟨rfl, vs, e, hz.2.2 vs e⟩, List.mem_cons_self⟩
theorem hotp {CX : CXT} {P : Program} {w : World} {K : PySem.W.Frag} {mg : Str → Option Value} {base : Heap} {N : List Str} {qual : Str} {scope : Scope} {f : Addr} {cd : Value} {A : Around} {outer : List Env} {s : Shared} {H : Hp} {E : XK} {p : Addr × Obj} (h : L2H.Hot1 A p) :
    L2H.HotC (L2H.cxH CX P w K mg base N qual scope f cd A outer s H E p) := ⟨p, h, List.mem_cons_self⟩
theorem passN {X : Cx} {E : XK} : ∀ σ : L2.St, PassesAt CX0 X σ E := fun _ _ _ _ _ _ _ h => h.elim
theorem err_mk {K : PySem.W.Frag} {mg : Str → Option Value} {x f1 f2 : Str} {C fI N : Addr} {nm q : Str} {bs sub bm : List Value} {sn : List Str} {ab : Bool} {col : Option Bool} {dd : Option Addr} {m0 m1 m2 m3 m5 : Option Value}
    (gC : mg x = some (.ref C)) (xL : K.lookup C = some (excClassObj nm q C N bs bm true sn sub ab col dd m0 m1 m2 m3 m5 "ValueError.__new__")) (hb : PySem.HandSPX.refsVE bm = true)
    (sa : PySem.W.findIn K (.ref C) "__setattr__" = some (some (.builtin "object.__setattr__"))) (ga : PySem.W.findIn K (.ref C) "__getattribute__" = some (some (.builtin "BaseException.__getattribute__"))) (gg : PySem.W.findIn K (.ref C) "__getattr__" = some none)
    (n1 : PySem.W.findIn K (.ref C) f1 = some none) (n2 : PySem.W.findIn K (.ref C) f2 = some none) (iC : PySem.W.findIn K (.ref C) "__init__" = some (some (.ref fI))) (tI : PySem.W.typeIn K (.ref fI) = some (.type "function"))
    (kC : PySem.W.keepIn K (.ref C) = true) (eC : PySem.W.subIn K (.ref C) (.type "BaseException") = some true) (tC : PySem.W.typeIn K (.ref C) = some (.type "type")) (hC : PySem.W.hasDictIn K C = true) (sC : PySem.W.subIn K (.ref C) (.ref C) = some true) : ErrC K mg x f1 f2 C fI :=
  ⟨gC, ⟨⟨nm, q, N, bs, bm, sn, sub, ab, col, dd, m0, m1, m2, m3, m5, xL, hb⟩, sa, eC, tC, kC⟩, iC, tI, n1, n2, ⟨ga, gg, eC, hC⟩, PySem.W.exm_ref eC hC tC sC⟩
end Lt

set_option autoImplicit false
namespace Lt
open PySem L2 TL
open C8 (pss_cut)
/-! ## data compared: tuples of tuples -/
mutual
def pyOf : D → PyData
  | .s .non => .none
  | .s (.bl b) => .bool b
  | .s (.int i) => .int i
  | .s (.str x) => .str x
  | .s _ => .none
  | .t ds => .tuple (pyOfL ds)
def pyOfL : List D → List PyData
  | [] => []
  | d :: ds => pyOf d :: pyOfL ds
end
def sCl : V → Bool
  | .str x => PyData.strOk x
  | _ => true
def sNb : V → Bool
  | .non => true
  | .int _ => true
  | .str _ => true
  | _ => false
mutual
def D.cl : D → Bool
  | .s v => sCl v
  | .t ds => clL ds
def clL : List D → Bool
  | [] => true
  | d :: ds => d.cl && clL ds
end
mutual
theorem Tp.py {K : PySem.W.Frag} {H : Hp} : ∀ {d : D} {v : V}, Tp H v d → Dp K H v (pyOf d)
  | .s v, _, h => by
    cases h with
    | s hs =>
      cases v with
      | non => exact .non
      | bl b => exact .bl b
      | int i => exact .int i
      | str x => exact .str x
      | byt _ => cases hs
      | flt _ => cases hs
      | ref _ => cases hs
      | ty _ => cases hs
  | .t ds, _, h => by cases h with | t h r => exact .tup (SqT.of h) (TpL.py r)
theorem TpL.py {K : PySem.W.Frag} {H : Hp} : ∀ {ds : List D} {vs : List V}, TpL H vs ds → DpAll K H vs (pyOfL ds)
  | [], _, h => by cases h; exact .nil
  | d :: ds, _, h => by cases h with | cons h r => exact .cons (Tp.py h) (TpL.py r)
end
mutual
theorem lay_of : ∀ (d : D), d.cl = true → PyData.canLay0 (pyOf d) = true
  | .s v, h => by
    simp only [D.cl] at h
    cases v <;> first | rfl | exact h
  | .t ds, h => by simp only [pyOf, PyData.canLay0]; exact layL_of ds h
theorem layL_of : ∀ (ds : List D), clL ds = true → PyData.canLayAll0 (pyOfL ds) = true
  | [], _ => rfl
  | d :: ds, h => by
    simp only [clL, Bool.and_eq_true] at h
    simp only [pyOfL, PyData.canLayAll0, Bool.and_eq_true]
    exact ⟨lay_of d h.1, layL_of ds h.2⟩
end
mutual
theorem depth_of : ∀ (d : D), PyData.depth (pyOf d) ≤ d.dp + 1
  | .s v => by cases v <;> simp [pyOf, PyData.depth, D.dp]
  | .t ds => by
    have := depthL_of ds
    simp only [pyOf, PyData.depth, D.dp]; omega
theorem depthL_of : ∀ (ds : List D), PyData.depthAll (pyOfL ds) ≤ dpL ds + 1
  | [] => by simp [pyOfL, PyData.depthAll]
  | d :: ds => by
    have a := depth_of d
    have b := depthL_of ds
    simp only [pyOfL, PyData.depthAll, dpL]; omega
end
theorem shaped_of {d : D} (h : d.cl = true) (k : d.dp ≤ 20) : SeqAt.shaped (pyOf d) = true := by
  have := depth_of d
  unfold SeqAt.shaped
  rw [lay_of d h, Bool.true_and]
  exact decide_eq_true (by omega)
theorem shapedL_of {ds : List D} (h : clL ds = true) (k : dpL ds ≤ 20) : SeqAt.shaped (.list (pyOfL ds)) = true := by
  have := depthL_of ds
  unfold SeqAt.shaped
  simp only [PyData.canLay0, PyData.depth]
  rw [layL_of ds h, Bool.true_and]
  exact decide_eq_true (by omega)
theorem pyOfL_map : ∀ ds : List D, pyOfL ds = ds.map pyOf
  | [] => rfl
  | d :: ds => by simp only [pyOfL, List.map_cons]; rw [pyOfL_map ds]
/-! ### a condition told by its text -/
def CondOk (c : Cond) : Prop := ∀ a ∈ c, ∀ cl ∈ a, PyData.strOk cl.n = true ∧ PyData.strOk cl.op = true ∧ ClG cl
theorem clL_all {ds : List D} : clL ds = true ↔ ∀ d ∈ ds, d.cl = true := by
  induction ds with
  | nil => exact ⟨fun _ d hd => (by cases hd), fun _ => rfl⟩
  | cons d ds ih =>
    have e : clL (d :: ds) = (d.cl && clL ds) := by simp only [clL]
    rw [e, Bool.and_eq_true, List.forall_mem_cons, ih]
theorem cl_val {v : V} (h : v = .non ∨ (∃ i : Int, v = .int i) ∨ ∃ z : Str, v = .str z ∧ PyData.strOk z = true) : sCl v = true := by
  rcases h with e | ⟨i, e⟩ | ⟨z, e, hz⟩ <;> subst e <;> first | rfl | exact hz
theorem ClG.three {cl : Cl} (h : ClG cl) : cl.v = .non ∨ (∃ i : Int, cl.v = .int i) ∨ ∃ z : Str, cl.v = .str z ∧ PyData.strOk z = true := by
  rcases h with e | ⟨i, e, _⟩ | ⟨z, e, _, hz⟩
  · exact .inl e
  · exact .inr (.inl ⟨i, e⟩)
  · exact .inr (.inr ⟨z, e, strOk_of hz⟩)
theorem cond_cl {c : Cond} (h : CondOk c) : (condD c).cl = true := by
  simp only [condD, D.cl]
  refine clL_all.mpr fun d hd => ?_
  obtain ⟨a, ha, rfl⟩ := List.mem_map.mp hd
  simp only [altD, D.cl]
  refine clL_all.mpr fun d hd => ?_
  obtain ⟨cl, hcl, rfl⟩ := List.mem_map.mp hd
  obtain ⟨h1, h2, h3⟩ := h a ha cl hcl
  simp only [clD, D.cl]
  simp only [clL, D.cl, sCl, h1, h2, Bool.true_and, Bool.and_true]
  exact cl_val h3.three
/-! ### equal data -/
mutual
/-- no truth values, no things that have no data -/
def D.nb : D → Bool
  | .s v => sNb v
  | .t ds => nbL ds
def nbL : List D → Bool
  | [] => true
  | d :: ds => d.nb && nbL ds
end
theorem nb_val {v : V} (h : v = .non ∨ (∃ i : Int, v = .int i) ∨ ∃ z : Str, v = .str z ∧ PyData.strOk z = true) : sNb v = true := by
  rcases h with e | ⟨i, e⟩ | ⟨z, e, hz⟩ <;> subst e <;> rfl
theorem nbL_all {ds : List D} : nbL ds = true ↔ ∀ d ∈ ds, d.nb = true := by
  induction ds with
  | nil => exact ⟨fun _ d hd => (by cases hd), fun _ => rfl⟩
  | cons d ds ih =>
    have e : nbL (d :: ds) = (d.nb && nbL ds) := by simp only [nbL]
    rw [e, Bool.and_eq_true, List.forall_mem_cons, ih]
mutual
theorem eqv_inj : ∀ (d e : D), d.nb = true → e.nb = true → PyData.eqv (pyOf d) (pyOf e) = true → d = e
  | .s .non, .s .non, _, _, _ => rfl
  | .s .non, .s (.int _), _, _, h => by simp [pyOf, PyData.eqv] at h
  | .s .non, .s (.str _), _, _, h => by simp [pyOf, PyData.eqv] at h
  | .s (.int _), .s .non, _, _, h => by simp [pyOf, PyData.eqv] at h
  | .s (.int i), .s (.int j), _, _, h => by simp [pyOf, PyData.eqv] at h; rw [h]
  | .s (.int _), .s (.str _), _, _, h => by simp [pyOf, PyData.eqv] at h
  | .s (.str _), .s .non, _, _, h => by simp [pyOf, PyData.eqv] at h
  | .s (.str _), .s (.int _), _, _, h => by simp [pyOf, PyData.eqv] at h
  | .s (.str i), .s (.str j), _, _, h => by simp [pyOf, PyData.eqv] at h; rw [h]
  | .s .non, .t _, _, _, h => by simp [pyOf, PyData.eqv] at h
  | .s (.int _), .t _, _, _, h => by simp [pyOf, PyData.eqv] at h
  | .s (.str _), .t _, _, _, h => by simp [pyOf, PyData.eqv] at h
  | .t _, .s .non, _, _, h => by simp [pyOf, PyData.eqv] at h
  | .t _, .s (.int _), _, _, h => by simp [pyOf, PyData.eqv] at h
  | .t _, .s (.str _), _, _, h => by simp [pyOf, PyData.eqv] at h
  | .t ds, .t es, h1, h2, h => by
    simp only [pyOf, PyData.eqv] at h
    rw [eqvL_inj ds es h1 h2 h]
  | .s (.bl _), _, h, _, _ => by simp [D.nb, sNb] at h
  | .s (.byt _), _, h, _, _ => by simp [D.nb, sNb] at h
  | .s (.flt _), _, h, _, _ => by simp [D.nb, sNb] at h
  | .s (.ref _), _, h, _, _ => by simp [D.nb, sNb] at h
  | .s (.ty _), _, h, _, _ => by simp [D.nb, sNb] at h
  | _, .s (.bl _), _, h, _ => by simp [D.nb, sNb] at h
  | _, .s (.byt _), _, h, _ => by simp [D.nb, sNb] at h
  | _, .s (.flt _), _, h, _ => by simp [D.nb, sNb] at h
  | _, .s (.ref _), _, h, _ => by simp [D.nb, sNb] at h
  | _, .s (.ty _), _, h, _ => by simp [D.nb, sNb] at h
theorem eqvL_inj : ∀ (ds es : List D), nbL ds = true → nbL es = true → PyData.eqvAll (pyOfL ds) (pyOfL es) = true → ds = es
  | [], [], _, _, _ => rfl
  | [], _ :: _, _, _, h => by simp [pyOfL, PyData.eqvAll] at h
  | _ :: _, [], _, _, h => by simp [pyOfL, PyData.eqvAll] at h
  | d :: ds, e :: es, h1, h2, h => by
    simp only [nbL, Bool.and_eq_true] at h1 h2
    simp only [pyOfL, PyData.eqvAll, Bool.and_eq_true] at h
    rw [eqv_inj d e h1.1 h2.1 h.1, eqvL_inj ds es h1.2 h2.2 h.2]
end
mutual
theorem eqv_refl : ∀ (d : D), d.nb = true → PyData.eqv (pyOf d) (pyOf d) = true
  | .s .non, _ => rfl
  | .s (.int i), _ => by simp [pyOf, PyData.eqv]
  | .s (.str x), _ => by simp [pyOf, PyData.eqv]
  | .s (.bl _), h => by simp [D.nb, sNb] at h
  | .s (.byt _), h => by simp [D.nb, sNb] at h
  | .s (.flt _), h => by simp [D.nb, sNb] at h
  | .s (.ref _), h => by simp [D.nb, sNb] at h
  | .s (.ty _), h => by simp [D.nb, sNb] at h
  | .t ds, h => by simp only [pyOf, PyData.eqv]; exact eqvL_refl ds h
theorem eqvL_refl : ∀ (ds : List D), nbL ds = true → PyData.eqvAll (pyOfL ds) (pyOfL ds) = true
  | [], _ => rfl
  | d :: ds, h => by
    simp only [nbL, Bool.and_eq_true] at h
    simp only [pyOfL, PyData.eqvAll, Bool.and_eq_true]
    exact ⟨eqv_refl d h.1, eqvL_refl ds h.2⟩
end
theorem cond_nb {c : Cond} (h : CondOk c) : (condD c).nb = true := by
  simp only [condD, D.nb]
  refine nbL_all.mpr fun d hd => ?_
  obtain ⟨a, ha, rfl⟩ := List.mem_map.mp hd
  simp only [altD, D.nb]
  refine nbL_all.mpr fun d hd => ?_
  obtain ⟨cl, hcl, rfl⟩ := List.mem_map.mp hd
  simp only [clD, D.nb]
  simp only [nbL, D.nb, sNb, Bool.true_and, Bool.and_true]
  exact nb_val (h a ha cl hcl).2.2.three
theorem clD_inj {a b : Cl} (h : clD a = clD b) : a = b := by
  cases a; cases b
  simp only [clD, D.t.injEq, List.cons.injEq, D.s.injEq, V.str.injEq, and_true] at h
  obtain ⟨h1, h2, h3⟩ := h
  subst h1 h2 h3
  rfl
theorem mapD_inj {α : Type} {f : α → D} (hf : ∀ a b, f a = f b → a = b) : ∀ {xs ys : List α}, xs.map f = ys.map f → xs = ys
  | [], [], _ => rfl
  | [], _ :: _, h => by simp at h
  | _ :: _, [], h => by simp at h
  | x :: xs, y :: ys, h => by
    simp only [List.map_cons, List.cons.injEq] at h
    rw [hf x y h.1, mapD_inj hf h.2]
theorem condD_inj {a b : Cond} (h : condD a = condD b) : a = b := mapD_inj (fun x y e => mapD_inj (fun _ _ => clD_inj) (D.t.inj e)) (D.t.inj h)
theorem rfD_inj {a b : Str × Str} (h : rfD a = rfD b) : a = b := by
  cases a; cases b
  simp only [rfD, D.t.injEq, List.cons.injEq, D.s.injEq, V.str.injEq, and_true] at h
  obtain ⟨h1, h2⟩ := h
  subst h1 h2
  rfl
def memB {α : Type} [DecidableEq α] (xs : List α) (x : α) : Bool := xs.any fun y => decide (y = x)
theorem memB_iff {α : Type} [DecidableEq α] {xs : List α} {x : α} : memB xs x = true ↔ x ∈ xs := by
  unfold memB
  rw [List.any_eq_true]
  exact ⟨fun ⟨y, h1, h2⟩ => (of_decide_eq_true h2) ▸ h1, fun h => ⟨x, h, decide_eq_true rfl⟩⟩
def delFirst {α : Type} [DecidableEq α] (xs : List α) (x : α) : List α := match xs.findIdx? (fun y => decide (y = x)) with | some j => xs.eraseIdx j | none => xs
/-- is d among them -/
theorem any_eqv {α : Type} [DecidableEq α] {f : α → D} (hf : ∀ a b, f a = f b → a = b) {xs : List α} {x : α} (h : ∀ y ∈ xs, (f y).nb = true) (hx : (f x).nb = true) : ((pyOfL (xs.map f)).any fun z => PyData.eqv z (pyOf (f x))) = memB xs x := by
  rw [Bool.eq_iff_iff, List.any_eq_true, memB_iff, pyOfL_map, List.map_map]
  constructor
  · rintro ⟨z, hz, e⟩
    obtain ⟨y, hy, rfl⟩ := List.mem_map.mp hz
    rw [← hf y x (eqv_inj _ _ (h y hy) hx e)]
    exact hy
  · intro hm
    exact ⟨_, List.mem_map.mpr ⟨x, hm, rfl⟩, eqv_refl _ hx⟩
/-- the place of the first one that is the same -/
theorem place_eqv {α : Type} [DecidableEq α] {f : α → D} (hf : ∀ a b, f a = f b → a = b) {xs : List α} {x : α} (h : ∀ y ∈ xs, (f y).nb = true) (hx : memB xs x = true) : ∃ j, (pyOfL (xs.map f)).findIdx? (fun z => PyData.eqv z (pyOf (f x))) = some j ∧ xs.eraseIdx j = delFirst xs x := by
  have hm := memB_iff.mp hx
  have e : (pyOfL (xs.map f)).findIdx? (fun z => PyData.eqv z (pyOf (f x))) = xs.findIdx? (fun y => decide (y = x)) := by
    rw [pyOfL_map, List.map_map, List.findIdx?_map]
    have g : ∀ {ys : List α}, (∀ y ∈ ys, (f y).nb = true) → ys.findIdx? ((fun z => PyData.eqv z (pyOf (f x))) ∘ (pyOf ∘ f)) = ys.findIdx? (fun y => decide (y = x)) := by
      intro ys
      induction ys with
      | nil => intro _; rfl
      | cons y r ih =>
        intro he
        have ey : ((fun z => PyData.eqv z (pyOf (f x))) ∘ (pyOf ∘ f)) y = decide (y = x) := by
          show PyData.eqv (pyOf (f y)) (pyOf (f x)) = _
          rw [Bool.eq_iff_iff, decide_eq_true_iff]
          exact ⟨fun z => hf _ _ (eqv_inj _ _ (he y List.mem_cons_self) (h x hm) z), fun z => by rw [z]; exact eqv_refl _ (h x hm)⟩
        rw [List.findIdx?_cons, List.findIdx?_cons, ey, ih (fun z hz => he z (List.mem_cons_of_mem _ hz))]
    exact g h
  cases ej : xs.findIdx? (fun y => decide (y = x)) with
  | none =>
    have := List.findIdx?_eq_none_iff.mp ej x hm
    simp at this
  | some j => exact ⟨j, by rw [e, ej], by unfold delFirst; rw [ej]⟩
/-- l.remove(x), data that are not of dicts, x in l -/
def rRemD (K : PySem.W.Frag) : V → List V → Hp → VK → Prop := fun x xs H Q => ∃ (l : Addr) (y : V) (d : PyData) (ds : List PyData) (zs : List V) (j : Nat), x = .ref l ∧ xs = [y] ∧ H l = some (.lst zs) ∧ DpAll K H zs ds ∧ Dp K H y d ∧
  PyData.plainAll ds = true ∧ d.plain = true ∧ d.depth ≤ 60 ∧ ds.findIdx? (fun z => PyData.eqv z d) = some j ∧ Q .non (upd H l (.lst (zs.eraseIdx j)))
section
variable {X : Cx}
open PySem.Spec PyProof.Rows in
theorem mt_removeD (hu : X.A.units + 65 < cLine) : MtM X "list.remove" (rRemD X.K) := by
  rintro pins s σ H x xs v us Q I rx rxs ⟨l, y, d, ds, zs, j, rfl, rfl, hH, ha, hy, pl, pd, dd, hj, q⟩
  cases rx
  obtain ⟨uy, rfl, ry⟩ := rxs.one
  obtain ⟨z, its, n, rv, hl, e⟩ := I.lstM hH
  obtain ⟨bs, r1⟩ := Dp.reads I d y uy hy ry
  obtain ⟨as, r2⟩ := Dp.readsAll I ds _ its ha rv
  have il : s.heap.IsList l its.toArray := ⟨_, e, rfl, n, rfl⟩
  have room : X.A.units + 1 + min (PyData.depthAll ds) d.depth < cLine := by
    have := Nat.min_le_right (PyData.depthAll ds) d.depth
    omega
  refine PySem.SeqAt.remove_list_data il (as := as) (bs := bs) r2 r1 pl pd room hj (by rw [List.size_toArray, ← hl]; exact z) ?_
  refine ⟨.non, _, I.lset (its' := its.eraseIdx j) (t' := s.toks) hH e ?_ (rv.eraseIdx j) ?_, rfl, q⟩
  · rw [List.eraseIdxIfInBounds_toArray]
  · have := List.length_eraseIdx_le zs j
    omega
end
end Lt

set_option autoImplicit false
namespace Lt
open PySem L2 TL
open C8 (pss_cut)
instance decCl : DecidableEq Cl := fun a b => decidable_of_iff (a.n = b.n ∧ a.op = b.op ∧ a.v = b.v) ⟨fun ⟨h1, h2, h3⟩ => by
  cases a; cases b
  simp only at h1 h2 h3
  rw [h1, h2, h3], fun h => by rw [h]; exact ⟨rfl, rfl, rfl⟩⟩
/-! ## tables that are well formed -/
structure TabV (t : Tab) : Prop where
  nm : nameOk t.n
  co : ColsOk [] t.cols
  l0 : 1 ≤ t.cols.length
  l8 : t.cols.length ≤ 8
  c4 : t.ch.length ≤ 4
  cc : ∀ c ∈ t.ch, c.length ≤ 4 ∧ (∀ a ∈ c, a.length ≤ 4) ∧ CondOk c
  u4 : t.un.length ≤ 4
  un : ∀ x ∈ t.un, PyData.strOk x = true
  r4 : t.rf.length ≤ 4
  rf : ∀ p ∈ t.rf, PyData.strOk p.1 = true ∧ PyData.strOk p.2 = true
theorem TabV.sm {t : Tab} (h : TabV t) : TabSm t := by
  have h1 := h.l8
  have h2 := h.c4
  have h3 := h.u4
  have h4 := h.r4
  exact ⟨by omega, by omega, fun c hc => by
    obtain ⟨a, b, _⟩ := h.cc c hc
    exact ⟨by omega, fun x hx => by have := b x hx; omega⟩, by omega, by omega⟩
theorem colN_ok {cols : List Col} (h : ColsOk [] cols) {n : Str} (hn : n ∈ colNs cols) : PyData.strOk n = true := (h.fr n hn).2.str
theorem ClOk.text {cols : List Col} (co : ColsOk [] cols) {cl : Cl} (h : ClOk cols cl) : PyData.strOk cl.n = true ∧ PyData.strOk cl.op = true ∧ ClG cl := by
  obtain ⟨h1, col, h2, h3, h4⟩ := h
  refine ⟨?_, h1, ClOk.g ⟨h1, col, h2, h3, h4⟩⟩
  rw [h3]
  exact colN_ok co (List.mem_map.mpr ⟨col, h2, rfl⟩)
theorem TabOk.v {fr : List (Str × List Col)} {t : Tab} (h : TabOk fr t) (hf : ∀ f ∈ fr, PyData.strOk f.1 = true) : TabV t := by
  have h1 := h.l5
  have h2 := h.c4
  refine ⟨h.nm, h.co, h.l0, by omega, by omega, fun c hc => ?_, h.u4, fun x hx => ?_, h.r4, fun p hp => ?_⟩
  · obtain ⟨a, b⟩ := h.cc c hc
    exact ⟨a, fun x hx => (b x hx).1, fun x hx cl hcl => ((b x hx).2 cl hcl).text h.co⟩
  · have := h.uc x hx
    unfold colNs at this
    rw [List.map_drop] at this
    exact colN_ok h.co (List.mem_of_mem_drop this)
  · obtain ⟨col, h1, h2, _, f, h3, h4, _⟩ := h.rc p hp
    refine ⟨?_, by rw [← h4]; exact hf f h3⟩
    rw [← h2]
    exact colN_ok h.co (List.mem_map.mpr ⟨col, List.mem_of_mem_drop h1, rfl⟩)
/-- a schema stands at S -/
structure ScV (H : Hp) (S : Addr) (s : Sch) : Prop where
  sk : H S = some (.dK (schK s))
  ds : ∀ p ∈ s, DescAt H p.1 p.2
  nm : (schN s).Nodup
  ok : ∀ p ∈ s, TabV p.2
  l6 : s.length ≤ 6
theorem ScV.mono {H H' : Hp} {S : Addr} {s : Sch} (h : ScV H S s) (e : Same H H') : ScV H' S s := ⟨e _ _ h.sk, fun p hp => (h.ds p hp).mono e, h.nm, h.ok, h.l6⟩
theorem SchAt.v {H : Hp} {S t c : Addr} {s : Sch} (A : SchAt H S s t c) (ok : ∀ p ∈ s, TabOk (frOf s) p.2) (l6 : s.length ≤ 6) : ScV H S s := ⟨A.sk, A.ds, A.nm, fun p hp => (ok p hp).v fun f hf => by
  obtain ⟨q, hq, rfl⟩ := List.mem_map.mp hf
  exact (ok q hq).nm.str, l6⟩
theorem ScV.in' {H : Hp} {S : Addr} {s : Sch} (h : ScV H S s) {n : Str} : DGet H S (.str n) (valV (schK s) (Sum.inr n : Key)) := DGet.k (k := (Sum.inr n : Key)) h.sk
theorem sch_some {s : Sch} {n : Str} : (valV (schK s) (Sum.inr n : Key)).isSome = decide (n ∈ schN s) := by
  rw [Bool.eq_iff_iff, valV_isSome, sch_keys, decide_eq_true_iff]
  constructor
  · intro h
    obtain ⟨x, h1, h2⟩ := List.mem_map.mp h
    cases h2
    exact h1
  · intro h
    exact List.mem_map.mpr ⟨n, h, rfl⟩
/-! ## the parts of a table that bear constraints -/
inductive Pt | c | u | r
def ptN : Pt → Str
  | .c => "checks"
  | .u => "uniques"
  | .r => "references"
def ptA (a : Ads) : Pt → Addr
  | .c => a.k
  | .u => a.u
  | .r => a.r
def ptD (t : Tab) : Pt → List D
  | .c => t.ch.map condD
  | .u => t.un.map fun x => .s (.str x)
  | .r => t.rf.map rfD
def ptL (t : Tab) : Pt → Nat
  | .c => t.ch.length
  | .u => t.un.length
  | .r => t.rf.length
theorem ptD_len (t : Tab) (p : Pt) : (ptD t p).length = ptL t p := by cases p <;> exact List.length_map _
theorem strs_tp {H : Hp} : ∀ xs : List Str, TpL H (xs.map V.str) (xs.map fun x => D.s (.str x))
  | [] => .nil
  | x :: r => .cons (.s rfl) (strs_tp r)
theorem DescAt.part {H : Hp} {a : Ads} {t : Tab} (h : DescAt H a t) (p : Pt) : DGet H a.d (.str (ptN p)) (some (.ref (ptA a p))) ∧ ∃ xs, H (ptA a p) = some (.lst xs) ∧ TpL H xs (ptD t p) := by
  cases p
  · exact ⟨h.gk, h.ch⟩
  · exact ⟨h.gu, _, h.un, strs_tp _⟩
  · exact ⟨h.gr, h.rf⟩
inductive It
  | c (x : Cond)
  | u (x : Str)
  | r (x : Str × Str)
def itP : It → Pt
  | .c _ => .c
  | .u _ => .u
  | .r _ => .r
def itD : It → D
  | .c x => condD x
  | .u x => .s (.str x)
  | .r x => rfD x
def itOk : It → Prop
  | .c x => x.length ≤ 4 ∧ (∀ a ∈ x, a.length ≤ 4) ∧ CondOk x
  | .u x => PyData.strOk x = true
  | .r x => PyData.strOk x.1 = true ∧ PyData.strOk x.2 = true
def hasIt (t : Tab) : It → Bool
  | .c x => memB t.ch x
  | .u x => memB t.un x
  | .r x => memB t.rf x
def addIt (t : Tab) : It → Tab
  | .c x => { t with ch := t.ch ++ [x] }
  | .u x => { t with un := t.un ++ [x] }
  | .r x => { t with rf := t.rf ++ [x] }
def delIt (t : Tab) : It → Tab
  | .c x => { t with ch := delFirst t.ch x }
  | .u x => { t with un := delFirst t.un x }
  | .r x => { t with rf := delFirst t.rf x }
theorem itD_nb {i : It} (h : itOk i) : (itD i).nb = true ∧ (itD i).cl = true ∧ (itD i).dp ≤ 3 := by
  cases i with
  | c x => exact ⟨cond_nb h.2.2, cond_cl h.2.2, cond_dp x⟩
  | u x => exact ⟨rfl, h, Nat.zero_le _⟩
  | r x =>
    obtain ⟨h1, h2⟩ := h
    refine ⟨rfl, ?_, (by show (rfD x).dp ≤ 3; rw [rf_dp]; decide)⟩
    show clL [.s (.str x.1), .s (.str x.2)] = true
    simp only [clL, D.cl, sCl]
    rw [h1, h2]; rfl
theorem ptD_ok {t : Tab} (v : TabV t) (p : Pt) : clL (ptD t p) = true ∧ dpL (ptD t p) ≤ 3 := by
  cases p
  · exact ⟨clL_all.mpr fun d hd => by obtain ⟨x, hx, rfl⟩ := List.mem_map.mp hd; exact (itD_nb (i := .c x) (v.cc x hx)).2.1, dpL_le fun d hd => by obtain ⟨x, hx, rfl⟩ := List.mem_map.mp hd; exact cond_dp x⟩
  · exact ⟨clL_all.mpr fun d hd => by obtain ⟨x, hx, rfl⟩ := List.mem_map.mp hd; exact v.un x hx, dpL_le fun d hd => by obtain ⟨x, hx, rfl⟩ := List.mem_map.mp hd; exact Nat.zero_le _⟩
  · exact ⟨clL_all.mpr fun d hd => by obtain ⟨x, hx, rfl⟩ := List.mem_map.mp hd; exact (itD_nb (i := .r x) (v.rf x hx)).2.1, dpL_le fun d hd => by obtain ⟨x, hx, rfl⟩ := List.mem_map.mp hd; exact (by rw [rf_dp]; decide)⟩
theorem str_injD {a b : Str} (h : D.s (.str a) = D.s (.str b)) : a = b := V.str.inj (D.s.inj h)
theorem has_any {t : Tab} (v : TabV t) {i : It} (h : itOk i) : ((pyOfL (ptD t (itP i))).any fun z => PyData.eqv z (pyOf (itD i))) = hasIt t i := by
  cases i with
  | c x => exact any_eqv (fun _ _ => condD_inj) (fun y hy => cond_nb (v.cc y hy).2.2) (cond_nb h.2.2)
  | u x => exact any_eqv (f := fun x => D.s (.str x)) (fun _ _ => str_injD) (fun y hy => rfl) rfl
  | r x => exact any_eqv (fun _ _ => rfD_inj) (fun y hy => rfl) rfl
theorem eraseIdx_map' {α β : Type} (f : α → β) : ∀ (xs : List α) (j : Nat), (xs.map f).eraseIdx j = (xs.eraseIdx j).map f
  | [], _ => rfl
  | x :: xs, 0 => rfl
  | x :: xs, j + 1 => by simp only [List.map_cons, List.eraseIdx_cons_succ, eraseIdx_map' f xs j]
theorem del_place {t : Tab} (v : TabV t) {i : It} (h : itOk i) (hi : hasIt t i = true) : ∃ j, (pyOfL (ptD t (itP i))).findIdx? (fun z => PyData.eqv z (pyOf (itD i))) = some j ∧ (ptD t (itP i)).eraseIdx j = ptD (delIt t i) (itP i) := by
  cases i with
  | c x =>
    obtain ⟨j, h1, h2⟩ := place_eqv (f := condD) (fun _ _ => condD_inj) (fun y hy => cond_nb (v.cc y hy).2.2) hi
    exact ⟨j, h1, by show (t.ch.map condD).eraseIdx _ = (delFirst t.ch x).map condD; rw [eraseIdx_map', h2]⟩
  | u x =>
    obtain ⟨j, h1, h2⟩ := place_eqv (f := fun x => D.s (.str x)) (fun _ _ => str_injD) (fun y hy => rfl) hi
    exact ⟨j, h1, by show (t.un.map fun x => D.s (.str x)).eraseIdx _ = (delFirst t.un x).map _; rw [eraseIdx_map', h2]⟩
  | r x =>
    obtain ⟨j, h1, h2⟩ := place_eqv (f := rfD) (fun _ _ => rfD_inj) (fun y hy => rfl) hi
    exact ⟨j, h1, by show (t.rf.map rfD).eraseIdx _ = (delFirst t.rf x).map rfD; rw [eraseIdx_map', h2]⟩
theorem TpL.eraseIdx {H : Hp} : ∀ {ds : List D} {vs : List V} (j : Nat), TpL H vs ds → TpL H (vs.eraseIdx j) (ds.eraseIdx j)
  | [], _, j, h => by cases h; exact .nil
  | d :: ds, _, 0, h => by cases h with | cons h r => exact r
  | d :: ds, _, j + 1, h => by cases h with | cons h r => exact .cons h (TpL.eraseIdx j r)
theorem tp_strs {H : Hp} : ∀ {xs : List Str} {vs : List V}, TpL H vs (xs.map fun x => D.s (.str x)) → vs = xs.map V.str
  | [], _, h => by cases h; rfl
  | x :: r, _, h => by
    cases h with
    | cons h q => cases h; rw [tp_strs q]; rfl
/-- a list of constraints has changed -/
theorem DescAt.setPart {H : Hp} {a : Ads} {t t' : Tab} {p : Pt} {xs : List V} (h : DescAt H a t) (nd : (adL a).Nodup) (hc : t'.cols = t.cols) (ho : ∀ q, q ≠ p → ptD t' q = ptD t q) (r : TpL H xs (ptD t' p)) : DescAt (upd H (ptA a p) (.lst xs)) a t' := by
  simp only [adL, List.nodup_cons, List.mem_cons, List.not_mem_nil, or_false, not_or] at nd
  obtain ⟨⟨n1, n2, n3⟩, ⟨n4, n5⟩, n6, _⟩ := nd
  obtain ⟨_, ys, hy, _⟩ := h.part p
  have kt : KeepT H (upd H (ptA a p) (.lst xs)) := KeepT.upd fun zs z => by rw [hy] at z; cases z
  have hd : a.d ≠ ptA a p := fun e => by have := h.dk; rw [e, hy] at this; cases this
  obtain ⟨xc, c1, c2⟩ := h.co
  have old : ∀ q, q ≠ p → ptA a q ≠ ptA a p := fun q hq => by
    cases p <;> cases q <;> first | exact absurd rfl hq | (show _ ≠ _; simp only [ptA]; first | exact n4 | exact n5 | exact n6 | exact Ne.symm n4 | exact Ne.symm n5 | exact Ne.symm n6)
  have one : ∀ q, ∃ zs, (upd H (ptA a p) (.lst xs)) (ptA a q) = some (.lst zs) ∧ TpL (upd H (ptA a p) (.lst xs)) zs (ptD t' q) := fun q => by
    by_cases e : q = p
    · subst e; exact ⟨xs, upd_same, r.mono kt⟩
    · obtain ⟨_, zs, h1, h2⟩ := h.part q
      exact ⟨zs, by rw [upd_ne (old q e)]; exact h1, by rw [ho q e]; exact h2.mono kt⟩
  have hcp : a.c ≠ ptA a p := by cases p <;> simp only [ptA] <;> assumption
  refine ⟨by rw [upd_ne hd]; exact h.dk, ⟨xc, by rw [upd_ne hcp]; exact c1, by rw [hc]; exact c2.mono kt⟩, one .c, ?_, one .r⟩
  obtain ⟨zs, h1, h2⟩ := one .u
  rw [tp_strs h2] at h1
  exact h1
theorem add_other (t : Tab) (i : It) : ∀ q, q ≠ itP i → ptD (addIt t i) q = ptD t q := fun q hq => by cases i <;> cases q <;> first | exact absurd rfl hq | rfl
theorem del_other (t : Tab) (i : It) : ∀ q, q ≠ itP i → ptD (delIt t i) q = ptD t q := fun q hq => by cases i <;> cases q <;> first | exact absurd rfl hq | rfl
theorem add_part (t : Tab) (i : It) : ptD (addIt t i) (itP i) = ptD t (itP i) ++ [itD i] := by cases i <;> simp [ptD, addIt, itP, itD]
theorem add_cols (t : Tab) (i : It) : (addIt t i).cols = t.cols ∧ (addIt t i).n = t.n := by cases i <;> exact ⟨rfl, rfl⟩
theorem del_cols (t : Tab) (i : It) : (delIt t i).cols = t.cols ∧ (delIt t i).n = t.n := by cases i <;> exact ⟨rfl, rfl⟩
theorem delFirst_sub {α : Type} [DecidableEq α] {xs : List α} {x : α} : (∀ y ∈ delFirst xs x, y ∈ xs) ∧ (delFirst xs x).length ≤ xs.length := by
  unfold delFirst
  split
  · exact ⟨fun y hy => List.mem_of_mem_eraseIdx hy, List.length_eraseIdx_le _ _⟩
  · exact ⟨fun y hy => hy, Nat.le_refl _⟩
theorem TabV.add {t : Tab} (v : TabV t) {i : It} (h : itOk i) (l : ptL t (itP i) < 4) : TabV (addIt t i) := by
  obtain ⟨h1, h2, h3, h4, h5, h6, h7, h8, h9, h10⟩ := v
  cases i with
  | c x => exact ⟨h1, h2, h3, h4, by show (t.ch ++ [x]).length ≤ 4; rw [List.length_append]; exact l, fun c hc => by
      rcases List.mem_append.mp hc with hc | hc
      · exact h6 c hc
      · rw [List.mem_singleton.mp hc]; exact h, h7, h8, h9, h10⟩
  | u x => exact ⟨h1, h2, h3, h4, h5, h6, by show (t.un ++ [x]).length ≤ 4; rw [List.length_append]; exact l, fun c hc => by
      rcases List.mem_append.mp hc with hc | hc
      · exact h8 c hc
      · rw [List.mem_singleton.mp hc]; exact h, h9, h10⟩
  | r x => exact ⟨h1, h2, h3, h4, h5, h6, h7, h8, by show (t.rf ++ [x]).length ≤ 4; rw [List.length_append]; exact l, fun c hc => by
      rcases List.mem_append.mp hc with hc | hc
      · exact h10 c hc
      · rw [List.mem_singleton.mp hc]; exact h⟩
theorem TabV.del {t : Tab} (v : TabV t) (i : It) : TabV (delIt t i) := by
  obtain ⟨h1, h2, h3, h4, h5, h6, h7, h8, h9, h10⟩ := v
  cases i with
  | c x => exact ⟨h1, h2, h3, h4, Nat.le_trans delFirst_sub.2 h5, fun c hc => h6 c (delFirst_sub.1 c hc), h7, h8, h9, h10⟩
  | u x => exact ⟨h1, h2, h3, h4, h5, h6, Nat.le_trans delFirst_sub.2 h7, fun c hc => h8 c (delFirst_sub.1 c hc), h9, h10⟩
  | r x => exact ⟨h1, h2, h3, h4, h5, h6, h7, h8, Nat.le_trans delFirst_sub.2 h9, fun c hc => h10 c (delFirst_sub.1 c hc)⟩
/-! ## steps on constraints -/
inductive LS
  | addC (t : Str) (c : Cond) | dropC (t : Str) (c : Cond)
  | addU (t n : Str) | dropU (t n : Str)
  | addR (t n o : Str) | dropR (t n o : Str)
def lsK : LS → Str
  | .addC .. => "add_check"
  | .dropC .. => "drop_check"
  | .addU .. => "add_unique"
  | .dropU .. => "drop_unique"
  | .addR .. => "add_reference"
  | .dropR .. => "drop_reference"
def lsT : LS → Str
  | .addC t _ => t
  | .dropC t _ => t
  | .addU t _ => t
  | .dropU t _ => t
  | .addR t _ _ => t
  | .dropR t _ _ => t
def lsI : LS → It
  | .addC _ c => .c c
  | .dropC _ c => .c c
  | .addU _ n => .u n
  | .dropU _ n => .u n
  | .addR _ n o => .r (n, o)
  | .dropR _ n o => .r (n, o)
def lsA : LS → Bool
  | .addC .. => true
  | .addU .. => true
  | .addR .. => true
  | _ => false
/-- what follows the kind and the table -/
def lsR : LS → List D
  | .addC _ c => [condD c]
  | .dropC _ c => [condD c]
  | .addU _ n => [.s (.str n)]
  | .dropU _ n => [.s (.str n)]
  | .addR _ n o => [.s (.str n), .s (.str o)]
  | .dropR _ n o => [.s (.str n), .s (.str o)]
def lsD (x : LS) : D := .t (.s (.str (lsK x)) :: .s (.str (lsT x)) :: lsR x)
def lsOk (x : LS) : Prop := itOk (lsI x) ∧ PyData.strOk (lsT x) = true
def tabOf (ts : List Tab) (n : Str) : Option Tab := ts.find? fun t => decide (t.n = n)
def keyN (t : Tab) : Str := (colNs t.cols).headD ""
def keyK (t : Tab) : Str := (t.cols.map (·.k)).headD ""
def fullM (ts : List Tab) (t : Tab) (p : Pt) : Str := if refdM ts t.n = true then "referenced" else if 4 ≤ ptL t p then "limit" else ""
def dropM (ts : List Tab) (t : Tab) (i : It) : Str := if hasIt t i = true then (if refdM ts t.n = true then "referenced" else "") else "missing"
def codeT (ts : List Tab) (x : Tab) : LS → Str
  | .addC _ c => if fitsM x.cols c = true then fullM ts x .c else "condition"
  | .addU _ n => if n ∈ colNs x.cols then (if n = keyN x then "key" else if memB x.un n = true then "taken" else fullM ts x .u) else "missing"
  | .addR t n o => if n ∈ colNs x.cols then (match tabOf ts o with
      | none => "missing"
      | some y => if n = keyN x then "key" else if t = o then "columns" else if kindAt x.cols n ≠ keyK y then "kind" else if memB x.rf (n, o) = true then "taken" else fullM ts x .r) else "missing"
  | .dropC _ c => dropM ts x (.c c)
  | .dropU _ n => dropM ts x (.u n)
  | .dropR _ n o => dropM ts x (.r (n, o))
def codeL (ts : List Tab) (l : LS) : Str := match tabOf ts (lsT l) with
  | none => "missing"
  | some x => codeT ts x l
def newT (x : Tab) (l : LS) : Tab := if lsA l = true then addIt x (lsI l) else delIt x (lsI l)
def targL (ts : List Tab) (l : LS) : List Tab := ts.map fun x => if x.n = lsT l then newT x l else x
theorem tabOf_in {s : Sch} (nm : (schN s).Nodup) {p : Ads × Tab} (hp : p ∈ s) : tabOf (s.map (·.2)) p.2.n = some p.2 := by
  unfold tabOf
  rw [List.find?_map]
  have e : ((fun t : Tab => decide (t.n = p.2.n)) ∘ fun x : Ads × Tab => x.2) = fun q : Ads × Tab => decide (q.2.n = p.2.n) := rfl
  rw [e, sch_find nm hp]
  rfl
theorem tabOf_out {s : Sch} {n : Str} (h : n ∉ schN s) : tabOf (s.map (·.2)) n = none := by
  unfold tabOf
  rw [List.find?_eq_none]
  intro t ht
  obtain ⟨p, hp, rfl⟩ := List.mem_map.mp ht
  simp only [decide_eq_true_eq]
  exact fun e => h (List.mem_map.mpr ⟨p, hp, e⟩)
def tbs (s : Sch) : List Tab := s.map (·.2)
def spLacks : Sp := fun vs H Q _ => ∃ (S : Addr) (s : Sch) (t n : Str) (L : Addr), vs = [.ref S, .str t, .ref L] ∧ ScV H S s ∧ H L = some (.lst [.str n]) ∧ ∀ H', Same H H' → Q (.bl (match tabOf (tbs s) t with | none => true | some x => !decide (n ∈ colNs x.cols))) H'
def spKeyName : Sp := fun vs H Q _ => ∃ (a : Ads) (t : Tab), vs = [.ref a.d] ∧ DescAt H a t ∧ 1 ≤ t.cols.length ∧ Q (.str (keyN t)) H
def spKeyKind : Sp := fun vs H Q _ => ∃ (a : Ads) (t : Tab), vs = [.ref a.d] ∧ DescAt H a t ∧ 1 ≤ t.cols.length ∧ Q (.str (keyK t)) H
def spColCalled : Sp := fun vs H Q _ => ∃ (a : Ads) (t : Tab) (n : Str), vs = [.ref a.d, .str n] ∧ DescAt H a t ∧ t.cols.length ≤ 40 ∧ n ∈ colNs t.cols ∧ ∀ ca c H', t.cols[(colNs t.cols).idxOf n]? = some c → H' ca = some (.tup [.str c.n, .str c.k, .bl c.b]) → Same H H' → Q (.ref ca) H'
def spFull : Sp := fun vs H Q _ => ∃ (S : Addr) (s : Sch) (q : Ads × Tab) (p : Pt), vs = [.ref S, .str q.2.n, .str (ptN p)] ∧ ScV H S s ∧ q ∈ s ∧ ∀ H', Same H H' → Q (.str (fullM (tbs s) q.2 p)) H'
def spDropCode : Sp := fun vs H Q _ => ∃ (S : Addr) (s : Sch) (t : Str) (i : It) (v : V), vs = [.ref S, .str t, .str (ptN (itP i)), v] ∧ ScV H S s ∧ Tp H v (itD i) ∧ itOk i ∧ ∀ H', Same H H' → Q (.str (match tabOf (tbs s) t with | none => "missing" | some x => dropM (tbs s) x i)) H'
def spCode (P : LS → Prop) : Sp := fun vs H Q _ => ∃ (S : Addr) (s : Sch) (st : Addr) (l : LS), vs = [.ref S, .ref st] ∧ ScV H S s ∧ Tp H (.ref st) (lsD l) ∧ lsOk l ∧ P l ∧ ∀ H', Same H H' → Q (.str (codeL (tbs s) l)) H'
def spConstraint : Sp := fun vs H Q _ => ∃ (st : Addr) (l : LS), vs = [.ref st] ∧ Tp H (.ref st) (lsD l) ∧ ∀ p v H', H' p = some (.tup [.str (ptN (itP (lsI l))), v]) → Tp H' v (itD (lsI l)) → Same H H' → Q (.ref p) H'
def spTargL : Sp := fun vs H Q _ => ∃ (S : Addr) (s : Sch) (st : Addr) (l : LS), vs = [.ref S, .ref st] ∧ ScV H S s ∧ Tp H (.ref st) (lsD l) ∧ lsOk l ∧ codeL (tbs s) l = "" ∧ ∀ S' s' H', NewSch H H' S' s' (targL (tbs s) l) → Q (.ref S') H'
def spTarget (C : Addr) : Sp := fun vs H Q E => ∃ (S : Addr) (s : Sch) (st : Addr) (l : LS), vs = [.ref S, .ref st] ∧ ScV H S s ∧ Tp H (.ref st) (lsD l) ∧ lsOk l ∧
  (codeL (tbs s) l = "" → ∀ S' s' H', NewSch H H' S' s' (targL (tbs s) l) → Q (.ref S') H') ∧
  (codeL (tbs s) l ≠ "" → ∀ H1 d, Same H H1 → H1 d = none → E (.ref C) (some d) (upd H1 d (.xd [("index", .int 0), ("code", .str (codeL (tbs s) l))])))
theorem tab_cases {s : Sch} (nm : (schN s).Nodup) (n : Str) : (n ∉ schN s ∧ tabOf (tbs s) n = none) ∨ ∃ p ∈ s, p.2.n = n ∧ tabOf (tbs s) n = some p.2 := by
  by_cases h : n ∈ schN s
  · obtain ⟨p, hp, rfl⟩ := sch_in h
    exact .inr ⟨p, hp, rfl, tabOf_in nm hp⟩
  · exact .inl ⟨h, tabOf_out h⟩
theorem idx_get {cols : List Col} {n : Str} (h : n ∈ colNs cols) : ∃ c, cols[(colNs cols).idxOf n]? = some c ∧ c.n = n ∧ c.k = kindAt cols n ∧ c ∈ cols := by
  obtain ⟨j, e1, e2, e3, _⟩ := idx_str h
  have hj : j < cols.length := by unfold colNs at e2; rwa [List.length_map] at e2
  have ec : cols[j]? = some cols[j] := List.getElem?_eq_getElem hj
  refine ⟨cols[j], by rw [← e1]; exact ec, ?_, ?_, List.getElem_mem hj⟩
  · unfold colNs at e3
    rw [List.getElem?_map, ec] at e3
    exact Option.some.inj e3
  · unfold kindAt
    rw [← e1, List.getD_eq_getElem?_getD, List.getElem?_map, ec]
    rfl
theorem key_at {t : Tab} (h : 1 ≤ t.cols.length) : ∃ c, t.cols[0]? = some c ∧ c.n = keyN t ∧ c.k = keyK t ∧ keyN t ∈ colNs t.cols := by
  cases e : t.cols with
  | nil => rw [e] at h; exact absurd h (by decide)
  | cons c r => exact ⟨c, rfl, by unfold keyN colNs; rw [e]; rfl, by unfold keyK; rw [e]; rfl, by unfold keyN colNs; rw [e]; simp⟩
end Lt
namespace Lt
open PySem L2 TL
theorem units_of {A : Around} {k : Nat} (hr : Room k A) : A.units + 65 < cLine := by
  have := hr.un
  omega
end Lt
namespace Lt
open PySem L2 TL
theorem TpL.c1 {H : Hp} {d : D} {ds : List D} {xs : List V} (h : TpL H xs (d :: ds)) : ∃ v vs, xs = v :: vs ∧ Tp H v d ∧ TpL H vs ds := by
  cases h with | cons a b => exact ⟨_, _, rfl, a, b⟩
theorem TpL.c0 {H : Hp} {xs : List V} (h : TpL H xs []) : xs = [] := by cases h; rfl
theorem Tp.s1 {H : Hp} {v w : V} (h : Tp H v (.s w)) : v = w := by cases h; rfl
theorem ls_at {H : Hp} {st : Addr} {l : LS} (h : Tp H (.ref st) (lsD l)) : ∃ ys, H st = some (.tup (.str (lsK l) :: .str (lsT l) :: ys)) ∧ TpL H ys (lsR l) := by
  obtain ⟨st', xs, e, hst, r⟩ := t_at h
  cases e
  obtain ⟨v, vs, rfl, a, r⟩ := r.c1
  obtain ⟨w, ws, rfl, b, r⟩ := r.c1
  rw [a.s1, b.s1] at hst
  exact ⟨ws, hst, r⟩
theorem tp_one {H : Hp} {xs : List V} {d : D} (h : TpL H xs [d]) : ∃ v, xs = [v] ∧ Tp H v d := by
  obtain ⟨v, vs, rfl, a, r⟩ := h.c1
  rw [r.c0]
  exact ⟨v, rfl, a⟩
theorem tp_two {H : Hp} {xs : List V} {u v : V} (h : TpL H xs [.s u, .s v]) : xs = [u, v] := by
  obtain ⟨x, vs, rfl, a, r⟩ := h.c1
  obtain ⟨y, rfl, b⟩ := tp_one r
  rw [a.s1, b.s1]
end Lt
namespace Lt
open PySem L2 TL
theorem kindA (l : LS) : inV (.str (lsK l)) [.str "add_check", .str "add_unique", .str "add_reference"] = lsA l := by
  cases l <;> (simp only [lsK, lsA]; decide +kernel)
/-- one table of a new schema has got another list of constraints -/
theorem NewSch.set {H H1 H2 : Hp} {S : Addr} {s : Sch} {ts : List Tab} (N : NewSch H H1 S s ts) (nm : (schN s).Nodup) {p : Ads × Tab} (hp : p ∈ s) (e : Same H1 H2) {pt : Pt} {ys : List V} {t' : Tab} (hn : t'.n = p.2.n) (D : DescAt (upd H2 (ptA p.1 pt) (.lst ys)) p.1 t') :
    NewSch H (upd H2 (ptA p.1 pt) (.lst ys)) S (s.map fun x => if x.2.n = p.2.n then (x.1, t') else x) (ts.map fun x => if x.n = p.2.n then t' else x) := by
  have hb : ptA p.1 pt ∈ adL p.1 := by cases pt <;> simp [ptA, adL]
  obtain ⟨zs, hz⟩ := (N.ds p hp).isL _ hb
  have hz2 := e _ _ hz
  have kt : KeepT H2 (upd H2 (ptA p.1 pt) (.lst ys)) := KeepT.upd fun xs z => by rw [hz2] at z; cases z
  have ad : (s.map fun x => if x.2.n = p.2.n then (x.1, t') else x).map (·.1) = s.map (·.1) := by
    rw [List.map_map]
    refine List.map_congr_left fun x _ => ?_
    show (if x.2.n = p.2.n then (x.1, t') else x).1 = x.1
    split <;> rfl
  have nk : schK (s.map fun x => if x.2.n = p.2.n then (x.1, t') else x) = schK s := by
    unfold schK
    rw [List.map_map]
    refine List.map_congr_left fun x _ => ?_
    show ((Sum.inr (if x.2.n = p.2.n then (x.1, t') else x).2.n : Key), V.ref (if x.2.n = p.2.n then (x.1, t') else x).1.d) = _
    split
    · rename_i h; rw [h, ← hn]
    · rfl
  have back : ∀ x ∈ (s.map fun x => if x.2.n = p.2.n then (x.1, t') else x), x = (p.1, t') ∨ (x ∈ s ∧ x.1 ≠ p.1 ∧ x.2.n ≠ p.2.n) := fun x hx => by
    obtain ⟨y, hy, rfl⟩ := List.mem_map.mp hx
    by_cases h : y.2.n = p.2.n
    · rw [if_pos h]
      have := sch_one nm hy hp h
      subst this
      exact .inl rfl
    · rw [if_neg h]
      refine .inr ⟨hy, fun z => h ?_, h⟩
      have hd : y.1.d = p.1.d := by rw [z]
      obtain ⟨i1, h1, e1⟩ := List.getElem_of_mem hy
      obtain ⟨i2, h2, e2⟩ := List.getElem_of_mem hp
      have b1 : (s.map fun p => p.1.d)[i1]? = some p.1.d := by rw [List.getElem?_map, List.getElem?_eq_getElem h1, e1]; exact congrArg some hd
      have b2 : (s.map fun p => p.1.d)[i2]? = some p.1.d := by rw [List.getElem?_map, List.getElem?_eq_getElem h2, e2]; rfl
      have := nd_ix N.dn b1 b2
      subst this
      rw [e1] at e2
      rw [e2]
  refine ⟨?_, fun x hx => ?_, ?_, N.fS, fun x hx => ?_, ?_, ?_, ?_⟩
  · rw [nk, upd_ne (fun z => by have := e _ _ N.sk; rw [z, hz2] at this; cases this)]
    exact e _ _ N.sk
  · rcases back x hx with rfl | ⟨h1, h2, h3⟩
    · exact D
    · have D1 := (N.ds x h1).mono e
      refine D1.frame kt (fun o z => by rw [upd_ne (fun w => by have := D1.dk; rw [w, hz2] at this; cases this)]; exact z) (fun b hb' o z => ?_)
      rw [upd_ne (fun w => ?_)]
      · exact z
      · have := flat_one N.ln h1 hp hb' (by rw [w]; exact hb)
        exact h2 (by rw [this])
  · rw [← N.ts, List.map_map, List.map_map]
    refine List.map_congr_left fun x _ => ?_
    show (if x.2.n = p.2.n then (x.1, t') else x).2 = if x.2.n = p.2.n then t' else x.2
    split <;> rfl
  · rcases back x hx with rfl | ⟨h1, _⟩
    · exact N.fd p hp
    · exact N.fd x h1
  · have e2 : (s.map fun x => if x.2.n = p.2.n then (x.1, t') else x).map (fun p => p.1.d) = s.map fun p => p.1.d := by
      rw [List.map_map]
      refine List.map_congr_left fun x _ => ?_
      show (if x.2.n = p.2.n then (x.1, t') else x).1.d = x.1.d
      split <;> rfl
    rw [e2]; exact N.dn
  · rw [schL_of ad]; exact N.ln
  · intro b o hb'
    rw [upd_ne (fun z => by have := (N.fd p hp).2.2 _ hb; rw [← z, hb'] at this; cases this)]
    exact e _ _ (N.se _ _ hb')
theorem codeL_some {ts : List Tab} {l : LS} (h : codeL ts l = "") : ∃ x, tabOf ts (lsT l) = some x ∧ codeT ts x l = "" := by
  unfold codeL at h
  cases e : tabOf ts (lsT l) with
  | none =>
    rw [e] at h
    have h : ("missing" : Str) = "" := h
    exact absurd h (by decide +kernel)
  | some x => rw [e] at h; exact ⟨x, rfl, h⟩
theorem full_len {ts : List Tab} {x : Tab} {p : Pt} (h : fullM ts x p = "") : ptL x p < 4 := by
  unfold fullM at h
  split at h
  · exact absurd h (by decide +kernel)
  · split at h
    · exact absurd h (by decide +kernel)
    · omega
theorem code_add {ts : List Tab} {x : Tab} {l : LS} (h : codeT ts x l = "") (a : lsA l = true) : ptL x (itP (lsI l)) < 4 := by
  cases l with
  | addC t c =>
    simp only [codeT] at h
    split at h
    · exact full_len h
    · exact absurd h (by decide +kernel)
  | addU t n =>
    simp only [codeT] at h
    split at h
    · split at h
      · exact absurd h (by decide +kernel)
      · split at h
        · exact absurd h (by decide +kernel)
        · exact full_len h
    · exact absurd h (by decide +kernel)
  | addR t n o =>
    simp only [codeT] at h
    split at h
    · split at h
      · exact absurd h (by decide +kernel)
      · split at h
        · exact absurd h (by decide +kernel)
        · split at h
          · exact absurd h (by decide +kernel)
          · split at h
            · exact absurd h (by decide +kernel)
            · split at h
              · exact absurd h (by decide +kernel)
              · exact full_len h
    · exact absurd h (by decide +kernel)
  | dropC t c => cases a
  | dropU t n => cases a
  | dropR t n o => cases a
theorem drop_has {ts : List Tab} {x : Tab} {i : It} (h : dropM ts x i = "") : hasIt x i = true := by
  unfold dropM at h
  cases e : hasIt x i with
  | true => rfl
  | false =>
    rw [e] at h
    have h : ("missing" : Str) = "" := h
    exact absurd h (by decide +kernel)
theorem code_drop {ts : List Tab} {x : Tab} {l : LS} (h : codeT ts x l = "") (a : lsA l = false) : hasIt x (lsI l) = true := by
  cases l with
  | addC t c => cases a
  | addU t n => cases a
  | addR t n o => cases a
  | dropC t c => exact drop_has h
  | dropU t n => exact drop_has h
  | dropR t n o => exact drop_has h
end Lt

set_option autoImplicit false
namespace Lt
open PySem L2 TL
open C8 (pss_cut)
theorem iteBF {b : Bool} {A B : Prop} (hb : b = false) (h : B) : if b = true then A else B := by rw [hb]; exact iteF h
theorem iteBT {b : Bool} {A B : Prop} (hb : b = true) (h : A) : if b = true then A else B := by rw [hb]; exact iteT h
/-! ## what the law draws for steps on constraints -/
def kinds6 : List Str := ["add_check", "drop_check", "add_unique", "drop_unique", "add_reference", "drop_reference"]
/-- _law_pick -/
def spPick : Sp := fun vs H Q _ => ∃ (t c L : Addr) (cs : List Int) (xs : List V) (ds : List D) (o : V), vs = [.ref t, .ref L, o] ∧ TapeAt H t c cs ∧ H L = some (.lst xs) ∧ TpL H xs ds ∧ clL ds = true ∧ dpL ds ≤ 10 ∧ xs.length ≤ 40 ∧
  ∀ v H', (v = o ∨ ∃ d ∈ ds, Tp H' v d) → TapeAt H' t c cs → SameX t H H' → Q v H'
theorem strs_ok {xs : List Str} (h : ∀ x ∈ xs, PyData.strOk x = true) : clL (xs.map fun x => D.s (.str x)) = true ∧ dpL (xs.map fun x => D.s (.str x)) ≤ 10 :=
  ⟨clL_all.mpr fun d hd => by obtain ⟨x, hx, rfl⟩ := List.mem_map.mp hd; exact h x hx, dpL_le fun d hd => by obtain ⟨x, hx, rfl⟩ := List.mem_map.mp hd; exact Nat.zero_le _⟩
theorem pick_str {H : Hp} {v : V} {o : Str} {xs : List Str} (h : v = .str o ∨ ∃ d ∈ xs.map (fun x => D.s (.str x)), Tp H v d) (ho : PyData.strOk o = true) (hx : ∀ x ∈ xs, PyData.strOk x = true) : ∃ n, v = .str n ∧ PyData.strOk n = true := by
  rcases h with rfl | ⟨d, hd, ht⟩
  · exact ⟨o, rfl, ho⟩
  · obtain ⟨x, hx', rfl⟩ := List.mem_map.mp hd
    exact ⟨x, ht.s1, hx x hx'⟩
/-- a part of a description, or of what stands for it -/
def PartI (H : Hp) (d : Addr) (p : Pt) : Prop := ∃ (b : Addr) (xs : List V) (is : List It), DGet H d (.str (ptN p)) (some (.ref b)) ∧ H b = some (.lst xs) ∧ TpL H xs (is.map itD) ∧ (∀ i ∈ is, itOk i ∧ itP i = p) ∧ is.length ≤ 4
theorem its_ok {is : List It} (h : ∀ i ∈ is, itOk i) : clL (is.map itD) = true ∧ dpL (is.map itD) ≤ 3 :=
  ⟨clL_all.mpr fun d hd => by obtain ⟨x, hx, rfl⟩ := List.mem_map.mp hd; exact (itD_nb (h x hx)).2.1, dpL_le fun d hd => by obtain ⟨x, hx, rfl⟩ := List.mem_map.mp hd; exact (itD_nb (h x hx)).2.2⟩
theorem DescAt.parts {H : Hp} {a : Ads} {t : Tab} (D : DescAt H a t) (v : TabV t) (p : Pt) : PartI H a.d p := by
  obtain ⟨g, xs, h1, h2⟩ := D.part p
  cases p with
  | c => exact ⟨_, xs, t.ch.map .c, g, h1, by rw [List.map_map]; exact h2, fun i hi => by obtain ⟨x, hx, rfl⟩ := List.mem_map.mp hi; exact ⟨v.cc x hx, rfl⟩, by rw [List.length_map]; exact v.c4⟩
  | u => exact ⟨_, xs, t.un.map .u, g, h1, by rw [List.map_map]; exact h2, fun i hi => by obtain ⟨x, hx, rfl⟩ := List.mem_map.mp hi; exact ⟨v.un x hx, rfl⟩, by rw [List.length_map]; exact v.u4⟩
  | r => exact ⟨_, xs, t.rf.map .r, g, h1, by rw [List.map_map]; exact h2, fun i hi => by obtain ⟨x, hx, rfl⟩ := List.mem_map.mp hi; exact ⟨v.rf x hx, rfl⟩, by rw [List.length_map]; exact v.r4⟩
def descE (k u r : Addr) : List (Key × V) := [(Sum.inr ("checks" : Str), .ref k), (Sum.inr ("uniques" : Str), .ref u), (Sum.inr ("references" : Str), .ref r)]
theorem merge_descE (k u r : Addr) : mergeK [] (descE k u r) = descE k u r := by
  simp [mergeK, putK, descE, e_ch_un, e_ch_rf, e_un_rf]
theorem parts_none {H : Hp} {d k u r : Addr} (hd : H d = some (.dK (descE k u r))) (hk : H k = some (.lst [])) (hu : H u = some (.lst [])) (hr : H r = some (.lst [])) (p : Pt) : PartI H d p := by
  have g : ∀ n : Str, DGet H d (.str n) (valV (descE k u r) (Sum.inr n : Key)) := fun n => DGet.k (k := (Sum.inr n : Key)) hd
  have e1 : valV (descE k u r) (Sum.inr ("checks" : Str) : Key) = some (.ref k) := valV_pos rfl
  have e2 : valV (descE k u r) (Sum.inr ("uniques" : Str) : Key) = some (.ref u) := by unfold descE; rw [valV_neg (fun z => e_ch_un (Sum.inr.inj z)), valV_pos rfl]
  have e3 : valV (descE k u r) (Sum.inr ("references" : Str) : Key) = some (.ref r) := by unfold descE; rw [valV_neg (fun z => e_ch_rf (Sum.inr.inj z)), valV_neg (fun z => e_un_rf (Sum.inr.inj z)), valV_pos rfl]
  have no : ∀ p : Pt, ∀ i ∈ ([] : List It), itOk i ∧ itP i = p := fun _ i hi => absurd hi (List.not_mem_nil)
  cases p with
  | c => have := g "checks"; rw [e1] at this; exact ⟨k, [], [], this, hk, .nil, no _, by decide⟩
  | u => have := g "uniques"; rw [e2] at this; exact ⟨u, [], [], this, hu, .nil, no _, by decide⟩
  | r => have := g "references"; rw [e3] at this; exact ⟨r, [], [], this, hr, .nil, no _, by decide⟩
theorem pick_it {H : Hp} {v w : V} {p : Pt} {is : List It} (h : v = w ∨ ∃ d ∈ is.map itD, Tp H v d) (hw : ∃ i, itOk i ∧ itP i = p ∧ Tp H w (itD i)) (hi : ∀ i ∈ is, itOk i ∧ itP i = p) : ∃ i, itOk i ∧ itP i = p ∧ Tp H v (itD i) := by
  rcases h with rfl | ⟨d, hd, ht⟩
  · exact hw
  · obtain ⟨x, hx, rfl⟩ := List.mem_map.mp hd
    exact ⟨x, (hi x hx).1, (hi x hx).2, ht⟩
def ColsOkD (cols : List Col) : Prop := ColsOk [] cols ∧ 1 ≤ cols.length ∧ cols.length ≤ 8
/-- the columns of a table that is not there -/
def cols2 : List Col := [⟨"id", "int", false⟩, ⟨"a", "text", true⟩]
theorem cols2_ok : ColsOkD cols2 := by
  have n1 : nameOk "id" := ⟨by decide +kernel, ⟨105, [100], by decide +kernel, by decide, by decide⟩, fun c hc => by
    have e : tl ("id" : Str) = [105, 100] := by decide +kernel
    rw [e] at hc
    simp only [List.mem_cons, List.not_mem_nil, or_false] at hc
    rcases hc with rfl | rfl <;> (unfold nmCh; decide)⟩
  have n2 : nameOk "a" := ⟨by decide +kernel, ⟨97, [], by decide +kernel, by decide, by decide⟩, fun c hc => by
    have e : tl ("a" : Str) = [97] := by decide +kernel
    rw [e] at hc
    simp only [List.mem_cons, List.not_mem_nil, or_false] at hc
    rcases hc with rfl <;> (unfold nmCh; decide)⟩
  refine ⟨⟨by decide +kernel, fun n hn => ⟨List.not_mem_nil, ?_⟩, fun c hc => ?_, fun c hc => ?_⟩, by decide, by decide⟩
  · simp only [colNs, cols2, List.map_cons, List.map_nil, List.mem_cons, List.not_mem_nil, or_false] at hn
    rcases hn with rfl | rfl
    · exact n1
    · exact n2
  · simp only [cols2, List.mem_cons, List.not_mem_nil, or_false] at hc
    rcases hc with rfl | rfl
    · exact .inl rfl
    · exact .inr rfl
  · have : cols2[0]? = some ⟨"id", "int", false⟩ := rfl
    rw [this] at hc
    cases hc
    rfl
theorem six_no {k : Str} (h : k ∈ kinds6) : inV (.str k) (([("rename_column" : Str), ("reorder" : Str), ("add_column" : Str), ("drop_column" : Str), ("convert" : Str), ("split_column" : Str), ("merge_columns" : Str)] : List Str).map V.str) = false := by
  simp only [kinds6, List.mem_cons, List.not_mem_nil, or_false] at h
  rcases h with rfl | rfl | rfl | rfl | rfl | rfl <;> decide +kernel
theorem six_in {k : Str} (h : k ∈ kinds6) : (!(Builtin.Str.occurrences k "check" 0 k.length 1).isEmpty) = true ∨ ((!(Builtin.Str.occurrences k "check" 0 k.length 1).isEmpty) = false ∧ (!(Builtin.Str.occurrences k "unique" 0 k.length 1).isEmpty) = true) ∨ ((!(Builtin.Str.occurrences k "check" 0 k.length 1).isEmpty) = false ∧ (!(Builtin.Str.occurrences k "unique" 0 k.length 1).isEmpty) = false ∧ (!(Builtin.Str.occurrences k "reference" 0 k.length 1).isEmpty) = true) := by
  simp only [kinds6, List.mem_cons, List.not_mem_nil, or_false] at h
  rcases h with rfl | rfl | rfl | rfl | rfl | rfl
  · exact .inl (by decide +kernel)
  · exact .inl (by decide +kernel)
  · exact .inr (.inl (by decide +kernel))
  · exact .inr (.inl (by decide +kernel))
  · exact .inr (.inr (by decide +kernel))
  · exact .inr (.inr (by decide +kernel))
/-- _law_limit_step -/
def spLimitStep : Sp := fun vs H Q _ => ∃ (t c S C : Addr) (cs : List Int) (s : Sch) (k tn : Str) (cols : List Col), vs = [.ref t, .str k, .ref S, .str tn, .ref C] ∧ TapeAt H t c cs ∧ SchAt H S s t c ∧ (∀ p ∈ s, TabV p.2) ∧ s.length ≤ 6 ∧ k ∈ kinds6 ∧ PyData.strOk tn = true ∧ ColsAt H C cols ∧ ColsOkD cols ∧
  ∀ st l H', Tp H' (.ref st) (lsD l) → lsOk l → TapeAt H' t c cs → SameX t H H' → Q (.ref st) H'
def spLimStep : Sp := fun vs H Q _ => ∃ (t c S K : Addr) (cs : List Int) (s : Sch), vs = [.ref t, .ref S, .ref K] ∧ TapeAt H t c cs ∧ SchAt H S s t c ∧ (∀ p ∈ s, TabV p.2) ∧ s.length ≤ 6 ∧ H K = some (.lst (kinds6.map V.str)) ∧
  ∀ st l H', Tp H' (.ref st) (lsD l) → lsOk l → TapeAt H' t c cs → SameX t H H' → Q (.ref st) H'
theorem fitsK_text {cl : Cl} (h : ClG cl) {k : Str} (hk : k = ("int" : Str) ∨ k = ("text" : Str)) : fitsK cl.v k true = !(decide (cl.v ≠ .non) && !decide ((match cl.v with | .str _ => true | _ => false) = decide (k = ("text" : Str)))) := by
  have ti : ¬ ("text" : Str) = ("int" : Str) := by decide +kernel
  have it : ¬ ("int" : Str) = ("text" : Str) := by decide +kernel
  rcases h with e | ⟨i, e, h1, h2⟩ | ⟨y, e, h1, h2⟩ <;> rw [e]
  · rfl
  · have g : goodV (.int i) = true := decide_eq_true (by omega)
    unfold fitsK
    rw [if_neg (fun z => nomatch z), g, Bool.true_and]
    rcases hk with rfl | rfl
    · show decide (("int" : Str) = "int") = _
      rw [decide_eq_true rfl, decide_eq_false it]
      rfl
    · show decide (("int" : Str) = "text") = _
      rw [decide_eq_false it, decide_eq_true rfl]
      rfl
  · have g : goodV (.str y) = true := decide_eq_true ⟨h1, h2⟩
    unfold fitsK
    rw [if_neg (fun z => nomatch z), g, Bool.true_and]
    rcases hk with rfl | rfl
    · show decide (("text" : Str) = "int") = _
      rw [decide_eq_false ti, decide_eq_false it]
      rfl
    · show decide (("text" : Str) = "text") = _
      rw [decide_eq_true rfl]
      rfl
theorem kindAt_kind {cols : List Col} (co : ColsOk [] cols) {n : Str} (h : n ∈ colNs cols) : kindAt cols n = ("int" : Str) ∨ kindAt cols n = ("text" : Str) := by
  obtain ⟨c, h1, h2, h3, h4⟩ := idx_get h
  rw [← h3]
  exact co.kd c h4
theorem strV_dec (a b : Str) : decide (V.str a = V.str b) = decide (a = b) := by
  by_cases h : a = b
  · rw [decide_eq_true h, decide_eq_true (congrArg V.str h)]
  · rw [decide_eq_false h, decide_eq_false (fun z => h (V.str.inj z))]
theorem blV_dec (x y : Bool) : decide (V.bl x = V.bl y) = decide (x = y) := by cases x <;> cases y <;> rfl
/-! ## what the law expects -/
def spCondFits : Sp := fun vs H Q _ => ∃ (c L : Addr) (cond : Cond) (cols : List Col), vs = [.ref c, .ref L] ∧ Tp H (.ref c) (condD cond) ∧ ColsAt H L cols ∧ ColsOk [] cols ∧ cols.length ≤ 40 ∧ (∀ a ∈ cond, ∀ cl ∈ a, ClG cl) ∧ ∀ H', Same H H' → Q (.bl (fitsM cols cond)) H'
def spFound : Sp := fun vs H Q _ => ∃ (a : Ads) (t : Tab) (n : Str), vs = [.ref a.d, .str n] ∧ DescAt H a t ∧ ColsOk [] t.cols ∧ (n ∉ colNs t.cols → Q .non H) ∧
  (n ∈ colNs t.cols → ∀ ca c, t.cols[(colNs t.cols).idxOf n]? = some c → Tp H (.ref ca) (colD c) → Q (.ref ca) H)
/-- a schema that the law owns -/
structure Own (H : Hp) (S : Addr) (s : Sch) : Prop where
  v : ScV H S s
  dn : (S :: s.map fun p => p.1.d).Nodup
  ln : (schL s).Nodup
theorem newT_cols (x : Tab) (l : LS) : (newT x l).cols = x.cols ∧ (newT x l).n = x.n := by
  unfold newT
  split
  · exact add_cols _ _
  · exact del_cols _ _
theorem newT_other (x : Tab) (l : LS) : ∀ q, q ≠ itP (lsI l) → ptD (newT x l) q = ptD x q := by
  unfold newT
  split
  · exact add_other _ _
  · exact del_other _ _
theorem Own.new {H : Hp} {S : Addr} {s : Sch} (O : Own H S s) : NewSch (fun _ => none) H S s (tbs s) := by
  obtain ⟨n1, n2⟩ := List.nodup_cons.mp O.dn
  exact ⟨O.v.sk, O.v.ds, rfl, rfl, fun p hp => ⟨rfl, fun e => n1 (List.mem_map.mpr ⟨p, hp, e⟩), fun b _ => rfl⟩, n2, O.ln, fun b o h => by cases h⟩
theorem Own.change {H H2 : Hp} {S : Addr} {s : Sch} {l : LS} {p : Ads × Tab} {ys : List V} (O : Own H S s) (e : Same H H2) (hp : p ∈ s) (ep : p.2.n = lsT l) (vt : TabV (newT p.2 l)) (r : TpL H2 ys (ptD (newT p.2 l) (itP (lsI l)))) :
    ∃ s', Own (upd H2 (ptA p.1 (itP (lsI l))) (.lst ys)) S s' ∧ s'.map (·.1) = s.map (·.1) ∧ tbs s' = targL (tbs s) l ∧ SameE (schL s) H (upd H2 (ptA p.1 (itP (lsI l))) (.lst ys)) := by
  have ndA : (adL p.1).Nodup := (List.pairwise_flatMap.mp O.ln).1 _ hp
  have D4 : DescAt (upd H2 (ptA p.1 (itP (lsI l))) (.lst ys)) p.1 (newT p.2 l) := ((O.v.ds p hp).mono e).setPart ndA (newT_cols _ _).1 (newT_other _ _) r
  have N4 := O.new.set O.v.nm hp e (newT_cols p.2 l).2 D4
  have hb : ptA p.1 (itP (lsI l)) ∈ adL p.1 := by cases itP (lsI l) <;> simp [ptA, adL]
  have ad : (s.map fun x => if x.2.n = p.2.n then (x.1, newT p.2 l) else x).map (·.1) = s.map (·.1) := by
    rw [List.map_map]
    refine List.map_congr_left fun x _ => ?_
    show (if x.2.n = p.2.n then (x.1, newT p.2 l) else x).1 = x.1
    split <;> rfl
  have nk : schN (s.map fun x => if x.2.n = p.2.n then (x.1, newT p.2 l) else x) = schN s := by
    unfold schN
    rw [List.map_map]
    refine List.map_congr_left fun x _ => ?_
    show (if x.2.n = p.2.n then (x.1, newT p.2 l) else x).2.n = x.2.n
    split
    · rename_i h; rw [h]; exact (newT_cols p.2 l).2
    · rfl
  refine ⟨_, ⟨⟨N4.sk, N4.ds, by rw [nk]; exact O.v.nm, fun x hx => ?_, by rw [List.length_map]; exact O.v.l6⟩, ?_, N4.ln⟩, ad, ?_, ?_⟩
  · obtain ⟨y, hy, rfl⟩ := List.mem_map.mp hx
    split
    · exact vt
    · exact O.v.ok y hy
  · have e2 : (s.map fun x => if x.2.n = p.2.n then (x.1, newT p.2 l) else x).map (fun p => p.1.d) = s.map fun p => p.1.d := by
      rw [List.map_map]
      refine List.map_congr_left fun x _ => ?_
      show (if x.2.n = p.2.n then (x.1, newT p.2 l) else x).1.d = x.1.d
      split <;> rfl
    rw [e2]
    exact O.dn
  · unfold tbs targL
    rw [List.map_map, List.map_map]
    refine List.map_congr_left fun x hx => ?_
    show (if x.2.n = p.2.n then (x.1, newT p.2 l) else x).2 = if x.2.n = lsT l then newT x.2 l else x.2
    rw [ep]
    by_cases h : x.2.n = lsT l
    · rw [if_pos h, if_pos h]
      have : x = p := sch_one O.v.nm hx hp (h.trans ep.symm)
      rw [this]
    · rw [if_neg h, if_neg h]
  · intro b o hb' hn
    rw [upd_ne (fun z => hn (by rw [z]; exact List.mem_flatMap.mpr ⟨p, hp, hb⟩))]
    exact e _ _ hb'
theorem Own.add {H H2 : Hp} {S : Addr} {s : Sch} {l : LS} {p : Ads × Tab} {xs : List V} {w : V} (O : Own H S s) (e : Same H H2) (hp : p ∈ s) (ep : p.2.n = lsT l) (lo : lsOk l) (hA : lsA l = true) (l4 : ptL p.2 (itP (lsI l)) < 4) (r : TpL H2 xs (ptD p.2 (itP (lsI l)))) (hw : Tp H2 w (itD (lsI l))) :
    ∃ s', Own (upd H2 (ptA p.1 (itP (lsI l))) (.lst (xs ++ [w]))) S s' ∧ s'.map (·.1) = s.map (·.1) ∧ tbs s' = targL (tbs s) l ∧ SameE (schL s) H (upd H2 (ptA p.1 (itP (lsI l))) (.lst (xs ++ [w]))) := by
  have hnt : newT p.2 l = addIt p.2 (lsI l) := by unfold newT; rw [hA]; rfl
  refine O.change e hp ep (by rw [hnt]; exact (O.v.ok p hp).add lo.1 l4) ?_
  rw [hnt, add_part]
  exact TpL.snoc r hw
theorem first_at {α : Type} {f : α → Bool} {xs : List α} {j : Nat} (h : xs.findIdx? f = some j) : ∃ z, xs[j]? = some z ∧ f z = true ∧ ∀ (m : Nat) (z' : α), m < j → xs[m]? = some z' → f z' = false := by
  obtain ⟨hj, h1, h2⟩ := List.findIdx?_eq_some_iff_getElem.mp h
  refine ⟨xs[j], List.getElem?_eq_getElem hj, h1, fun m z' hm hz => ?_⟩
  have := h2 m hm
  have e : xs[m]? = some xs[m] := List.getElem?_eq_getElem (by omega)
  rw [e] at hz
  cases hz
  simpa using this
theorem seq_nat {j n : Nat} (h : j < n) : seqIndex? (j : Int) n = some j := by
  unfold seqIndex?
  simp
  omega
theorem pyOfL_length : ∀ ds : List D, (pyOfL ds).length = ds.length
  | [] => rfl
  | d :: ds => congrArg Nat.succ (pyOfL_length ds)
theorem Own.del {H H2 : Hp} {S : Addr} {s : Sch} {l : LS} {p : Ads × Tab} {xs : List V} (O : Own H S s) (e : Same H H2) (hp : p ∈ s) (ep : p.2.n = lsT l) (lo : lsOk l) (hA : lsA l = false) (hi : hasIt p.2 (lsI l) = true) (r : TpL H2 xs (ptD p.2 (itP (lsI l)))) :
    ∃ j z, j < xs.length ∧ (pyOfL (ptD p.2 (itP (lsI l))))[j]? = some z ∧ PyData.eqv z (pyOf (itD (lsI l))) = true ∧ (∀ (m : Nat) (z' : PyData), m < j → (pyOfL (ptD p.2 (itP (lsI l))))[m]? = some z' → PyData.eqv z' (pyOf (itD (lsI l))) = false) ∧
    ∃ s', Own (upd H2 (ptA p.1 (itP (lsI l))) (.lst (xs.eraseIdx j))) S s' ∧ s'.map (·.1) = s.map (·.1) ∧ tbs s' = targL (tbs s) l ∧ SameE (schL s) H (upd H2 (ptA p.1 (itP (lsI l))) (.lst (xs.eraseIdx j))) := by
  have hnt : newT p.2 l = delIt p.2 (lsI l) := by unfold newT; rw [hA]; rfl
  obtain ⟨j, h1, h2⟩ := del_place (O.v.ok p hp) lo.1 hi
  obtain ⟨z, h3, h4, h5⟩ := first_at h1
  have hj : j < xs.length := by
    have := (List.getElem?_eq_some_iff.mp h3).1
    rw [pyOfL_length] at this
    rw [r.length]; exact this
  refine ⟨j, z, hj, h3, h4, h5, O.change e hp ep (by rw [hnt]; exact (O.v.ok p hp).del _) ?_⟩
  rw [hnt, ← h2]
  exact TpL.eraseIdx j r
theorem col_eqv (c d : Col) : PyData.eqv (pyOf (colD c)) (pyOf (colD d)) = (c.n == d.n && (c.k == d.k && c.b == d.b)) := by
  simp only [colD, pyOf, pyOfL, PyData.eqv, PyData.eqvAll, Bool.and_true]
theorem col_eqv_name {c d : Col} (h : c.n = d.n → c = d) : PyData.eqv (pyOf (colD c)) (pyOf (colD d)) = decide (c.n = d.n) := by
  rw [col_eqv]
  by_cases e : c.n = d.n
  · have := h e
    subst this
    simp
  · rw [decide_eq_false e, beq_false_of_ne e]
    rfl
theorem one_name {cols : List Col} (nd : (colNs cols).Nodup) {i j : Nat} {c d : Col} (h1 : cols[i]? = some c) (h2 : cols[j]? = some d) (e : c.n = d.n) : c = d := by
  have b1 : (colNs cols)[i]? = some c.n := by unfold colNs; rw [List.getElem?_map, h1]; rfl
  have b2 : (colNs cols)[j]? = some c.n := by unfold colNs; rw [List.getElem?_map, h2, e]; rfl
  have := nd_ix nd b1 b2
  subst this
  rw [h1] at h2
  exact Option.some.inj h2
theorem col_cl {c : Col} (h : PyData.strOk c.n = true) (k : c.k = ("int" : Str) ∨ c.k = ("text" : Str)) : SeqAt.shaped (pyOf (colD c)) = true := by
  refine shaped_of (d := colD c) ?_ (by show (colD c).dp ≤ 20; simp [colD, D.dp, dpL])
  have : PyData.strOk c.k = true := by rcases k with e | e <;> rw [e] <;> decide +kernel
  show clL [.s (.str c.n), .s (.str c.k), .s (.bl c.b)] = true
  simp only [clL, D.cl, sCl]
  rw [h, this]; rfl
/-! ## what a copy of a schema is -/
mutual
theorem Tp.ofG {H : Hp} : ∀ {d : D} {v : V} {X : List Addr}, Gp H v (gOf d) X → Tp H v d ∧ X = []
  | .s _, _, _, h => by cases h with | s h => exact ⟨.s h, rfl⟩
  | .t ds, _, _, h => by
    cases h with
    | t h n r =>
      obtain ⟨r1, r2⟩ := TpL.ofG r
      exact ⟨.t h r1, r2⟩
theorem TpL.ofG {H : Hp} : ∀ {ds : List D} {vs : List V} {X : List Addr}, GpL H vs (gOfL ds) X → TpL H vs ds ∧ X = []
  | [], _, _, h => by cases h; exact ⟨.nil, rfl⟩
  | d :: ds, _, _, h => by
    cases h with
    | cons h r =>
      obtain ⟨a1, rfl⟩ := Tp.ofG h
      obtain ⟨r1, rfl⟩ := TpL.ofG r
      exact ⟨.cons a1 r1, rfl⟩
end
theorem lG_of {H : Hp} {ds : List D} {v : V} {X : List Addr} (h : Gp H v (lG ds) X) : ∃ a xs, v = .ref a ∧ H a = some (.lst xs) ∧ TpL H xs ds ∧ X = [a] := by
  cases h with
  | l h n r =>
    obtain ⟨r1, rfl⟩ := TpL.ofG r
    exact ⟨_, _, rfl, h, r1, rfl⟩
theorem strs_of {H : Hp} : ∀ {xs : List Str} {vs : List V} {X : List Addr}, GpL H vs (xs.map fun x => G.s (.str x)) X → vs = xs.map V.str ∧ X = []
  | [], _, _, h => by cases h; exact ⟨rfl, rfl⟩
  | x :: r, _, _, h => by
    cases h with
    | cons h q =>
      cases h
      obtain ⟨rfl, rfl⟩ := strs_of q
      exact ⟨rfl, rfl⟩
theorem strsG_of {H : Hp} {xs : List Str} {v : V} {X : List Addr} (h : Gp H v (strsG xs) X) : ∃ a, v = .ref a ∧ H a = some (.lst (xs.map V.str)) ∧ X = [a] := by
  cases h with
  | l h n r =>
    obtain ⟨rfl, rfl⟩ := strs_of r
    exact ⟨_, rfl, h, rfl⟩
theorem descG_of {H : Hp} {t : Tab} {v : V} {X : List Addr} (h : Gp H v (descG t) X) : ∃ a : Ads, v = .ref a.d ∧ DescAt H a t ∧ X = a.d :: adL a := by
  unfold descG at h
  cases h with
  | @d d kvs _ X h n nd r f =>
    cases r with
    | cons g1 r =>
      cases r with
      | cons g2 r =>
        cases r with
        | cons g3 r =>
          cases r with
          | cons g4 r =>
            cases r
            obtain ⟨c, xc, rfl, h1, t1, rfl⟩ := lG_of g1
            obtain ⟨k, xk, rfl, h2, t2, rfl⟩ := lG_of g2
            obtain ⟨u, rfl, h3, rfl⟩ := strsG_of g3
            obtain ⟨r, xr, rfl, h4, t4, rfl⟩ := lG_of g4
            exact ⟨⟨d, c, k, u, r⟩, rfl, ⟨h, ⟨xc, h1, t1⟩, ⟨xk, h2, t2⟩, h3, ⟨xr, h4, t4⟩⟩, rfl⟩
theorem tabsG_of {H : Hp} : ∀ {ts : List Tab} {kvs : List (Key × V)} {X : List Addr}, GpK H kvs (tabsG ts) X → ∃ s : Sch, kvs = schK s ∧ s.map (·.2) = ts ∧ (∀ p ∈ s, DescAt H p.1 p.2) ∧ X = schD s
  | [], _, _, h => by
    unfold tabsG at h
    cases h
    exact ⟨[], rfl, rfl, fun p hp => absurd hp List.not_mem_nil, rfl⟩
  | t :: ts, _, _, h => by
    unfold tabsG at h
    cases h with
    | cons h r =>
      obtain ⟨a, rfl, D, rfl⟩ := descG_of h
      obtain ⟨s, rfl, rfl, hd, rfl⟩ := tabsG_of r
      refine ⟨(a, t) :: s, rfl, rfl, fun p hp => ?_, rfl⟩
      rcases List.mem_cons.mp hp with rfl | hp
      · exact D
      · exact hd p hp
theorem schD_sub : ∀ s : Sch, (s.map fun p => p.1.d).Sublist (schD s) ∧ (schL s).Sublist (schD s)
  | [] => ⟨List.Sublist.refl _, List.Sublist.refl _⟩
  | p :: r => by
    obtain ⟨h1, h2⟩ := schD_sub r
    constructor
    · show (p.1.d :: r.map fun p => p.1.d).Sublist ((p.1.d :: adL p.1) ++ schD r)
      exact List.Sublist.cons₂ _ (h1.trans (List.sublist_append_right _ _))
    · show (adL p.1 ++ schL r).Sublist ((p.1.d :: adL p.1) ++ schD r)
      exact List.Sublist.append (List.sublist_cons_self _ _) h2
theorem Own.copy {H H' : Hp} {S : Addr} {s : Sch} (B : ScV H S s) {x : V} {X : List Addr} (h : Gp H' x (schG s) X) (nd : X.Nodup) : ∃ S' s', x = .ref S' ∧ Own H' S' s' ∧ tbs s' = tbs s ∧ X = S' :: schD s' := by
  unfold schG at h
  cases h with
  | @d S' kvs _ X h n nk r f =>
    obtain ⟨s', rfl, e, hd, rfl⟩ := tabsG_of r
    have en : schN s' = schN s := by
      have := congrArg (List.map fun t : Tab => t.n) e
      rw [List.map_map, List.map_map] at this
      exact this
    have el : s'.length = s.length := by have := congrArg List.length e; rwa [List.length_map, List.length_map] at this
    obtain ⟨n1, n2⟩ := List.nodup_cons.mp nd
    refine ⟨S', s', rfl, ⟨⟨h, hd, by rw [en]; exact B.nm, fun p hp => ?_, by rw [el]; exact B.l6⟩, ?_, n2.sublist (schD_sub s').2⟩, e, rfl⟩
    · have : p.2 ∈ s'.map (·.2) := List.mem_map.mpr ⟨p, hp, rfl⟩
      rw [e] at this
      obtain ⟨q, hq, eq⟩ := List.mem_map.mp this
      rw [← eq]
      exact B.ok q hq
    · exact nd.sublist (List.Sublist.cons₂ _ (schD_sub s').1)
theorem Own.mono {H H' : Hp} {S : Addr} {s : Sch} (O : Own H S s) (e : Same H H') : Own H' S s := ⟨O.v.mono e, O.dn, O.ln⟩
theorem schD_of {s s' : Sch} (h : s'.map (·.1) = s.map (·.1)) : schD s' = schD s := by
  have := congrArg (List.flatMap fun x : Ads => x.d :: adL x) h
  rw [List.flatMap_map, List.flatMap_map] at this
  exact this
theorem Own.at {H H' : Hp} {S t c : Addr} {s : Sch} {cs : List Int} (O : Own H' S s) (T : TapeAt H t c cs) (T' : TapeAt H' t c cs) (fr : ∀ a ∈ S :: schD s, H a = none) : SchAt H' S s t c := by
  have nt : ∀ a ∈ S :: schD s, a ≠ t := fun a ha => (T.fresh (fr a ha)).1
  have nc : ∀ a ∈ S :: schD s, c ≠ a := fun a ha => (T.fresh (fr a ha)).2
  refine ⟨O.v.sk, O.v.ds, O.v.nm, List.nodup_cons.mpr ⟨fun h => ?_, O.dn⟩, List.nodup_cons.mpr ⟨fun h => ?_, O.ln⟩⟩
  · rcases List.mem_cons.mp h with h | h
    · exact nt S List.mem_cons_self h.symm
    · exact nt t (List.mem_cons_of_mem _ ((schD_sub s).1.subset h)) rfl
  · exact nc c (List.mem_cons_of_mem _ ((schD_sub s).2.subset h)) rfl
/-- _law_check, _law_unique, _law_reference -/
def spExp (P : LS → Prop) : Sp := fun vs H Q _ => ∃ (S : Addr) (s : Sch) (st : Addr) (l : LS) (p : Ads × Tab), vs = [.ref S, .ref st] ∧ Own H S s ∧ Tp H (.ref st) (lsD l) ∧ lsOk l ∧ P l ∧ p ∈ s ∧ p.2.n = lsT l ∧
  (codeT (tbs s) p.2 l ≠ "" → ∀ H', Same H H' → Q (.str (codeT (tbs s) p.2 l)) H') ∧
  (codeT (tbs s) p.2 l = "" → ∀ s' H', Own H' S s' → s'.map (·.1) = s.map (·.1) → tbs s' = targL (tbs s) l → SameE (schL s) H H' → Q (.str "") H')
/-- _law_expected -/
def spExpected : Sp := fun vs H Q _ => ∃ (S : Addr) (s : Sch) (st : Addr) (l : LS), vs = [.ref S, .ref st] ∧ ScV H S s ∧ Tp H (.ref st) (lsD l) ∧ lsOk l ∧
  (codeL (tbs s) l ≠ "" → ∀ p H', H' p = some (.tup [.non, .str (codeL (tbs s) l)]) → Same H H' → Q (.ref p) H') ∧
  (codeL (tbs s) l = "" → ∀ p S' s' H', H' p = some (.tup [.ref S', .str ""]) → Own H' S' s' → tbs s' = targL (tbs s) l → (∀ a ∈ S' :: schD s', H a = none) → Same H H' → Q (.ref p) H')
end Lt
namespace Lt
open PySem L2 TL
open C8 (pss_cut)

def prD (p : Nat × Nat) : D := .t [.s (.int (p.1 : Int)), .s (.int (p.2 : Int))]
def prP (p : Nat × Nat) : PyData := .tuple [.int (p.1 : Int), .int (p.2 : Int)]
theorem pr_at {H : Hp} {v : V} {p : Nat × Nat} (h : Tp H v (prD p)) : ∃ a, v = .ref a ∧ H a = some (.tup [.int (p.1 : Int), .int (p.2 : Int)]) := by
  obtain ⟨a, xs, rfl, h1, h2⟩ := t_at h
  cases h2 with
  | cons g r => cases g; cases r with
    | cons g r => cases g; cases r; exact ⟨a, rfl, h1⟩
theorem pr_dp {K : PySem.W.Frag} {H : Hp} : ∀ {ps : List (Nat × Nat)} {xs : List V}, TpL H xs (ps.map prD) → DpAll K H xs (ps.map prP)
  | [], _, h => by cases h; exact .nil
  | p :: ps, _, h => by
    cases h with
    | cons g r =>
      obtain ⟨a, rfl, h1⟩ := pr_at g
      exact .cons (.tup (SqT.of h1) (.cons (.int _) (.cons (.int _) .nil))) (pr_dp r)
theorem pr_lay : ∀ ps : List (Nat × Nat), PyData.canLayAll0 (ps.map prP) = true ∧ PyData.depthAll (ps.map prP) ≤ 2
  | [] => by simp [PyData.canLayAll0, PyData.depthAll]
  | p :: ps => by
    obtain ⟨a, b⟩ := pr_lay ps
    constructor
    · simp [PyData.canLayAll0, prP, PyData.canLay0, a]
    · simp only [List.map_cons, PyData.depthAll, prP, PyData.depth]
      omega
theorem pr_shaped (ps : List (Nat × Nat)) : SeqAt.shaped (.list (ps.map prP)) = true := by
  obtain ⟨a, b⟩ := pr_lay ps
  simp only [SeqAt.shaped, PyData.canLay0, a, Bool.true_and, PyData.depth]
  exact decide_eq_true (by omega)
theorem pr_eqv (ps : List (Nat × Nat)) : PyData.eqv (.list (ps.map prP)) (.list []) = ps.isEmpty := by
  cases ps with
  | nil => rfl
  | cons p r => rfl
theorem cut_back1 (xs : List V) (j : Nat) (h : j + 1 ≤ xs.length) : cutV xs (some ((j : Int) + 1)) none = xs.drop (j + 1) := cut_back xs (j + 1) h
def spRenamed : Sp := fun vs H Q _ => ∃ (c : Addr) (cond : Cond) (o n : Str), vs = [.ref c, .str o, .str n] ∧ Tp H (.ref c) (condD cond) ∧ cond.length ≤ 100 ∧ (∀ a ∈ cond, a.length ≤ 100) ∧ ∀ p H', Tp H' (.ref p) (condD (renM o n cond)) → Same H H' → Q (.ref p) H'
def spSpoil : Sp := fun vs H Q _ => ∃ (t tc u c L : Addr) (cs : List Int) (us : List Str) (cond : Cond), vs = [.ref t, .ref c, .ref L, .ref u] ∧ TapeAt H t tc cs ∧ Tp H (.ref c) (condD cond) ∧ cond.length ≤ 4 ∧ (∀ a ∈ cond, a.length ≤ 4) ∧ (∀ a ∈ cond, ∀ cl ∈ a, ClG cl ∧ cl.n ∈ us) ∧
  H u = some (.lst (us.map V.str)) ∧ u ≠ tc ∧ us.length ≤ 24 ∧
  ∀ (p : Addr) (cond' : Cond) (us' : List Str) (H' : Hp), Tp H' (.ref p) (condD cond') → cond'.length ≤ 4 → (∀ a ∈ cond', a.length ≤ 4) → (∀ a ∈ cond', ∀ cl ∈ a, ClG cl ∧ cl.n ∈ us') → us'.length ≤ us.length + 1 → H' u = some (.lst (us'.map V.str)) → TapeAt H' t tc cs → SameXY t u H H' → Q (.ref p) H'
def spAllNames : Sp := fun vs H Q _ => ∃ (c : Addr) (cond : Cond), vs = [.ref c] ∧ Tp H (.ref c) (condD cond) ∧ cond.flatten.length ≤ 1000 ∧ ∀ p H', H' p = some (.lst ((cond.flatten.map (·.n)).map V.str)) → Same H H' → Q (.ref p) H'
theorem small_flat {c : Cond} (h1 : c.length ≤ 4) (h2 : ∀ a ∈ c, a.length ≤ 4) : c.flatten.length ≤ 4 * c.length := by
  induction c with
  | nil => exact Nat.zero_le _
  | cons a r ih =>
    have := h2 a List.mem_cons_self
    have := ih (by rw [List.length_cons] at h1; omega) (fun b hb => h2 b (List.mem_cons_of_mem _ hb))
    rw [List.flatten_cons, List.length_append, List.length_cons]
    omega
theorem ren_back {o n : Str} {c : Cond} (h : ∀ a ∈ c, ∀ cl ∈ a, cl.n ≠ n) : renM n o (renM o n c) = c := by
  unfold renM
  rw [List.map_map]
  conv => rhs; rw [← List.map_id c]
  refine List.map_congr_left fun a ha => ?_
  show (a.map (renCl o n)).map (renCl n o) = a
  rw [List.map_map]
  conv => rhs; rw [← List.map_id a]
  refine List.map_congr_left fun cl hc => ?_
  have hn := h a ha cl hc
  show renCl n o (renCl o n cl) = cl
  unfold renCl
  by_cases e : cl.n = o
  · rw [if_pos e, if_pos rfl, ← e]
  · rw [if_neg e, if_neg hn]
theorem ment_names (n : Str) (c : Cond) : decide (n ∈ c.flatten.map (·.n)) = mentM n c := by
  unfold mentM
  rw [← any_flat, Bool.eq_iff_iff, decide_eq_true_iff, List.any_eq_true]
  constructor
  · intro h
    obtain ⟨cl, h1, h2⟩ := List.mem_map.mp h
    exact ⟨cl, h1, decide_eq_true h2⟩
  · rintro ⟨cl, h1, h2⟩
    exact List.mem_map.mpr ⟨cl, h1, of_decide_eq_true h2⟩
theorem flat_len {c : Cond} {i j : Nat} {a : List Cl} (h : c[i]? = some a) : ((c.take i).flatten ++ a.take j).length ≤ c.flatten.length := by
  have e1 : c.flatten.length = ((c.take i).flatten ++ a ++ (c.drop (i + 1)).flatten).length := by
    conv => lhs; rw [← List.take_append_drop (i + 1) c, List.flatten_append, flat_next h]
  rw [List.length_append, List.length_append] at e1
  rw [List.length_append, List.length_take]
  omega
def topS (i : Nat) : Stmt := PySem.Challenge.pw_lenstree_k05_condition_columns.main.body.getD i (.Pass ⟨0, 0, 0, 0⟩)
structure Z (mg : Str → Option Value) : Prop where
  abs : mg "abs" = none
  int : mg "int" = none
  len : mg "len" = none
  range : mg "range" = none
  isinstance : mg "isinstance" = none
  str : mg "str" = none
  tuple : mg "tuple" = none
  bool : mg "bool" = none
  list : mg "list" = none
  dict : mg "dict" = none
  ord : mg "ord" = none
  all : mg "all" = none
  any : mg "any" = none
  c_PERCENT_CODE : ∃ t, mg "PERCENT_CODE" = some (Value.int 37 t)
  c_LAST_CODE : ∃ t, mg "LAST_CODE" = some (Value.int 126 t)
  c_FIRST_CODE : ∃ t, mg "FIRST_CODE" = some (Value.int 32 t)
  c_MOST_CHARACTERS : ∃ t, mg "MOST_CHARACTERS" = some (Value.int 30 t)
  c_GREATEST : ∃ t, mg "GREATEST" = some (Value.int 999999999 t)
  c_LEAST : ∃ t, mg "LEAST" = some (Value.int (-999999999) t)
abbrev s_law_tape : Stmt := topS 20
theorem sc_law_tape : FnScope ["script", "cell", "cells", "seed"] ["script"] (defScope s_law_tape) := ⟨rfl, rfl, rfl, by decide +kernel, rfl, by decide +kernel, by decide +kernel⟩
abbrev s_law_take : Stmt := topS 21
theorem sc_law_take : FnScope ["tape", "many", "drawn", "mixed"] ["tape", "many"] (defScope s_law_take) := ⟨rfl, rfl, rfl, by decide +kernel, rfl, by decide +kernel, by decide +kernel⟩
abbrev s_law_name : Stmt := topS 29
theorem sc_law_name : FnScope ["tape", "used", "letters", "signs", "size", "k", "name"] ["tape", "used"] (defScope s_law_name) := ⟨rfl, rfl, rfl, by decide +kernel, rfl, by decide +kernel, by decide +kernel⟩
abbrev s_law_columns : Stmt := topS 30
theorem sc_law_columns : FnScope ["tape", "used", "many", "kinds", "columns", "k"] ["tape", "used", "many"] (defScope s_law_columns) := ⟨rfl, rfl, rfl, by decide +kernel, rfl, by decide +kernel, by decide +kernel⟩
abbrev s_law_integer : Stmt := topS 27
theorem sc_law_integer : FnScope ["tape", "choice"] ["tape"] (defScope s_law_integer) := ⟨rfl, rfl, rfl, by decide +kernel, rfl, by decide +kernel, by decide +kernel⟩
abbrev s_law_char : Stmt := topS 25
theorem sc_law_char : FnScope ["tape", "chars"] ["tape"] (defScope s_law_char) := ⟨rfl, rfl, rfl, by decide +kernel, rfl, by decide +kernel, by decide +kernel⟩
abbrev s_law_text : Stmt := topS 26
theorem sc_law_text : FnScope ["tape", "size", "k"] ["tape"] (defScope s_law_text) := ⟨rfl, rfl, rfl, by decide +kernel, rfl, by decide +kernel, by decide +kernel⟩
abbrev s_law_spoil : Stmt := topS 35
theorem sc_law_spoil : FnScope ["tape", "condition", "columns", "used", "places", "k", "j", "choice", "clause", "other", "changed"] ["tape", "condition", "columns", "used"] (defScope s_law_spoil) := ⟨rfl, rfl, rfl, by decide +kernel, rfl, by decide +kernel, by decide +kernel⟩
abbrev s_law_value : Stmt := topS 28
theorem sc_law_value : FnScope ["tape", "kind", "nullable"] ["tape", "kind", "nullable"] (defScope s_law_value) := ⟨rfl, rfl, rfl, by decide +kernel, rfl, by decide +kernel, by decide +kernel⟩
abbrev s_law_clause : Stmt := topS 33
theorem sc_law_clause : FnScope ["tape", "columns", "column", "operator"] ["tape", "columns"] (defScope s_law_clause) := ⟨rfl, rfl, rfl, by decide +kernel, rfl, by decide +kernel, by decide +kernel⟩
abbrev s_law_condition : Stmt := topS 34
theorem sc_law_condition : FnScope ["tape", "columns", "condition", "k", "many", "j"] ["tape", "columns"] (defScope s_law_condition) := ⟨rfl, rfl, rfl, by decide +kernel, rfl, by decide +kernel, by decide +kernel⟩
abbrev s_law_is_integer : Stmt := topS 22
theorem sc_law_is_integer : FnScope ["actual"] ["actual"] (defScope s_law_is_integer) := ⟨rfl, rfl, rfl, by decide +kernel, rfl, by decide +kernel, by decide +kernel⟩
abbrev s_law_same_items : Stmt := topS 23
theorem sc_law_same_items : FnScope ["actual", "expected", "k"] ["actual", "expected"] (defScope s_law_same_items) := ⟨rfl, rfl, rfl, by decide +kernel, rfl, by decide +kernel, by decide +kernel⟩
abbrev s_law_same : Stmt := topS 24
theorem sc_law_same : FnScope ["actual", "expected", "key"] ["actual", "expected"] (defScope s_law_same) := ⟨rfl, rfl, rfl, by decide +kernel, rfl, by decide +kernel, by decide +kernel⟩
abbrev s_law_names : Stmt := topS 32
theorem sc_law_names : FnScope ["columns", "column"] ["columns"] (defScope s_law_names) := ⟨rfl, rfl, rfl, by decide +kernel, rfl, by decide +kernel, by decide +kernel⟩
abbrev s_law_fits : Stmt := topS 36
theorem sc_law_fits : FnScope ["condition", "columns", "names", "alternative", "name", "operator", "operand", "kind"] ["condition", "columns"] (defScope s_law_fits) := ⟨rfl, rfl, rfl, by decide +kernel, rfl, by decide +kernel, by decide +kernel⟩
abbrev s_kind_of : Stmt := topS 11
theorem sc_kind_of : FnScope ["value"] ["value"] (defScope s_kind_of) := ⟨rfl, rfl, rfl, by decide +kernel, rfl, by decide +kernel, by decide +kernel⟩
abbrev s_is_text_code : Stmt := topS 7
theorem sc_is_text_code : FnScope ["code"] ["code"] (defScope s_is_text_code) := ⟨rfl, rfl, rfl, by decide +kernel, rfl, by decide +kernel, by decide +kernel⟩
abbrev s_is_text_character : Stmt := topS 8
theorem sc_is_text_character : FnScope ["character"] ["character"] (defScope s_is_text_character) := ⟨rfl, rfl, rfl, by decide +kernel, rfl, by decide +kernel, by decide +kernel⟩
abbrev s_is_text : Stmt := topS 9
theorem sc_is_text : FnScope ["thing", "character"] ["thing"] (defScope s_is_text) := ⟨rfl, rfl, rfl, by decide +kernel, rfl, by decide +kernel, by decide +kernel⟩
abbrev s_is_value : Stmt := topS 10
theorem sc_is_value : FnScope ["thing"] ["thing"] (defScope s_is_value) := ⟨rfl, rfl, rfl, by decide +kernel, rfl, by decide +kernel, by decide +kernel⟩
abbrev s_fits_kind : Stmt := topS 12
theorem sc_fits_kind : FnScope ["thing", "kind", "nullable"] ["thing", "kind", "nullable"] (defScope s_fits_kind) := ⟨rfl, rfl, rfl, by decide +kernel, rfl, by decide +kernel, by decide +kernel⟩
abbrev s_clause_fits : Stmt := topS 14
theorem sc_clause_fits : FnScope ["clause", "kinds", "column", "_", "operand"] ["clause", "kinds"] (defScope s_clause_fits) := ⟨rfl, rfl, rfl, by decide +kernel, rfl, by decide +kernel, by decide +kernel⟩
abbrev s_fits : Stmt := topS 15
theorem sc_fits : FnScope ["condition", "columns", "kinds", "column", "alternative", "clause"] ["condition", "columns"] (defScope s_fits) := ⟨rfl, rfl, rfl, by decide +kernel, rfl, by decide +kernel, by decide +kernel⟩
abbrev s_law_all_names : Stmt := topS 37
theorem sc_law_all_names : FnScope ["condition", "result", "alternative", "clause"] ["condition"] (defScope s_law_all_names) := ⟨rfl, rfl, rfl, by decide +kernel, rfl, by decide +kernel, by decide +kernel⟩
abbrev s_mentions : Stmt := topS 16
theorem sc_mentions : FnScope ["condition", "name", "alternative", "clause"] ["condition", "name"] (defScope s_mentions) := ⟨rfl, rfl, rfl, by decide +kernel, rfl, by decide +kernel, by decide +kernel⟩
abbrev s_renamed_clause : Stmt := topS 17
theorem sc_renamed_clause : FnScope ["clause", "old", "new", "column", "operator", "operand"] ["clause", "old", "new"] (defScope s_renamed_clause) := ⟨rfl, rfl, rfl, by decide +kernel, rfl, by decide +kernel, by decide +kernel⟩
abbrev s_renamed : Stmt := topS 18
theorem sc_renamed : FnScope ["condition", "old", "new", "alternative", "clause"] ["condition", "old", "new"] (defScope s_renamed) := ⟨rfl, rfl, rfl, by decide +kernel, rfl, by decide +kernel, by decide +kernel⟩
abbrev s_law_renamed : Stmt := topS 38
theorem sc_law_renamed : FnScope ["condition", "old", "new", "result", "alternative", "clauses", "name", "operator", "operand"] ["condition", "old", "new"] (defScope s_law_renamed) := ⟨rfl, rfl, rfl, by decide +kernel, rfl, by decide +kernel, by decide +kernel⟩
abbrev s_law : Stmt := topS 39
theorem sc_law : FnScope ["script", "tape", "used", "columns", "condition", "fresh", "name", "changed"] ["script"] (defScope s_law) := ⟨rfl, rfl, rfl, by decide +kernel, rfl, by decide +kernel, by decide +kernel⟩
section
variable {P : Program} {w : World} {K : PySem.W.Frag} {mg : Str → Option Value} {base : Heap}
theorem ok_law_tape {f : Addr} {fd : FuncData} (k : Kn K mg "_law_tape" s_law_tape ["script"] f fd) (z : Z mg) :
    Cal P w K mg base 1 "_law_tape" ["script"] (spTape K) f fd := k.cal (by
  refine k.F.ok sc_law_tape (fun vs H Q E h => ?_) (fun cdv A outer s H vs Q E hr h => ?_)
  · obtain ⟨a, ns, rfl, _⟩ := h; rfl
  · obtain ⟨a, ns, rfl, hS, h63, q⟩ := h
    have hu := hu_of hr
    refine ⟨_, (pss_cons (ps_setLc (i := 2) (own := [("cell", 1)]) (g := gName 1) (tt := tYes) (by rfl) sc_law_tape.nd rfl rfl (sw_true rfl rfl rfl (by decide +kernel)) (pi_list (pv 0)) (blkOk_by (own := [("cell", 1)]) (N := ["script", "cell", "cells", "seed"]) (sc := defScope s_law_tape) (by decide +kernel)) (fun _ _ _ _ _ => pg_name (i := 1) sc_law_tape.nd rfl (Or.inl rfl)) (fun _ _ _ _ _ => pts_nil) (fun _ _ _ _ _ => (pe_callB call_abs (by rfl) z.abs (by decide +kernel) (pa_cons (pe_callTy call_int1 (by rfl) z.int (by decide +kernel) (pa_cons (pv 1) pa_nil)) pa_nil))))
        (pss_cons (ps_set (i := 3) sc_law_tape.nd rfl (Or.inl rfl) pe_int)
        (pss_cons (ps_for PassesOwn.never rfl (pi_list (pv 2)) (pg_name (i := 1) sc_law_tape.nd rfl (Or.inl rfl))
        (pss_one (ps_set (i := 3) sc_law_tape.nd rfl (Or.inl rfl) (pe_op op_mod (pe_callTy call_int1 (by rfl) z.int (by decide +kernel) (pa_cons (pe_op op_add (pe_op op_mul (pv 3) pe_int) (pv 1)) pa_nil)) pe_int))))
        (pss_one (ps_ret (pe_disp (pps_cons pe_str (pv 2) (pps_cons pe_str pe_int (pps_cons pe_str pe_int (pps_cons pe_str (pv 3) (pps_cons pe_str pe_int pps_nil))))) (by rfl) (by rfl) (fun z => by cases z) (by decide))))))), ?_⟩
    refine ⟨_, rfl, a, rfl, ⟨_, hS⟩, fun D hD => lc_list (K := K) (a := a) (xs := ns.map V.int) (fun i H' => ∃ cs : List Int, H' D = some (.lst (cs.map V.int)) ∧ cs.length = i ∧ (∀ x ∈ cs, (0 : Int) ≤ x) ∧ Same H H') ⟨[], upd_same, rfl, (by intro x hx; cases hx), same_new hD _⟩ (fun i H' _ ⟨_, _, _, _, s1⟩ => s1.seq hS) ?_ ?_⟩
    · rintro i x H1 hi ⟨cs, hc, hl, hn, s1⟩
      obtain ⟨z, rfl, hz⟩ := int_at hi
      have hi63 : i < ns.length := (List.getElem?_eq_some_iff.mp hz).1
      refine ⟨rfl, _, rfl, .inl ⟨z, rfl, z, rfl, _, hc, (by rw [List.length_map]; exact small1000 (by omega)), cs ++ [if z < 0 then -z else z], ?_, by simp [hl], ?_, same_upd hD _ s1⟩⟩
      · rw [upd_same, List.map_append]; rfl
      · intro y hy
        rcases List.mem_append.mp hy with hy | hy
        · exact hn y hy
        · rw [List.mem_singleton.mp hy]
          by_cases h0 : z < 0
          · rw [if_pos h0]; omega
          · rw [if_neg h0]; omega
    · rintro H1 ⟨cs, hc, hl, hn, s1⟩
      refine ⟨_, rfl, D, rfl, ⟨_, SqL.of hc⟩, for_list (K := K) (a := D) (xs := cs.map V.int) (fun i σ H2 => ∃ v s, σ = [some (.ref a), v, some (.ref D), some (.int s)] ∧ H2 = H1) ⟨none, 7, rfl, rfl⟩ (fun i σ H2 _ ⟨_, _, _, e⟩ => by rw [e]; exact SqL.of hc) ?_ ?_⟩
      · rintro i x σ H2 hi ⟨v, s, rfl, rfl⟩
        obtain ⟨z, rfl, hz⟩ := int_at hi
        refine ⟨_, rfl, _, _, rfl, rfl, .inr ⟨by decide, by decide⟩, _, rfl, _, _, rfl, rfl, .inl ⟨_, rfl, _, _, rfl, rfl, (by show (0 : Int) < 2147483647; decide), ?_⟩⟩
        exact ⟨_, _, rfl, rfl⟩
      · rintro σ H2 ⟨v, s, rfl, rfl⟩
        refine fun p hp => ⟨_, rfl, _, rfl, upd_same, tk D 0 0 s 0, rfl, (by show 5 ≤ 15; decide), ?_⟩
        have hp0 : H p = none := s1.free hp
        refine q p D cs _ ⟨⟨0, 0, s, 0, by rw [upd_same, merge_tk], Int.le_refl _, Int.le_refl _⟩, ?_, hn⟩ (same_upd hp0 _ (same_upd hp0 _ s1)) hp0
        rw [upd_ne (ne_of_none hc hp), upd_ne (ne_of_none hc hp)]
        exact hc)
theorem ok_law_take {f : Addr} {fd : FuncData} (k : Kn K mg "_law_take" s_law_take ["tape", "many"] f fd) (z : Z mg) :
    Cal P w K mg base 1 "_law_take" ["tape", "many"] (spTake) f fd := k.cal (by
  refine k.F.ok sc_law_take (fun vs H Q E h => ?_) (fun cdv A outer s H vs Q E hr h => ?_)
  · obtain ⟨t, c, cs, many, rfl, _⟩ := h; rfl
  · obtain ⟨t, c, cs, many, rfl, T, h0, h9, q⟩ := h
    have hu := hu_of hr
    have cne : c ≠ t := T.ne
    obtain ⟨⟨a, l, s0, m, hd, ha, hl⟩, hc, hn⟩ := id T
    refine ⟨_, (pss_cut (ps_if (PW.pt (pw_and (pt_cmpR op_eq (pe_dget hu (pv 0) pe_str (fun _ _ => rfl)) pe_int (nomark _)) (pw_and1 (pt_cmpR op_lt (pe_dget hu (pv 0) pe_str (fun _ _ => rfl)) (pe_callB call_len_seq (by rfl) z.len (by decide +kernel) (pa_cons (pe_dget hu (pv 0) pe_str (fun _ _ => rfl)) pa_nil)) (nomark _))))) (pss_cons (ps_dput hu (pv 0) pe_str (pe_ix ix_list (pe_dget hu (pv 0) pe_str (fun _ _ => rfl)) (pe_dget hu (pv 0) pe_str (fun _ _ => rfl)) (fun _ _ => rfl)) rfl)
        (pss_one (ps_dput hu (pv 0) pe_str (pe_op op_add (pe_dget hu (pv 0) pe_str (fun _ _ => rfl)) pe_int) rfl))) pss_nil)
        (pss_cons (ps_if (pt_cmpR op_gt (pe_dget hu (pv 0) pe_str (fun _ _ => rfl)) pe_int (nomark _)) (pss_cons (ps_set (i := 2) sc_law_take.nd rfl (Or.inl rfl) (pe_op op_mod (pe_callTy call_int1 (by rfl) z.int (by decide +kernel) (pa_cons (pe_dget hu (pv 0) pe_str (fun _ _ => rfl)) pa_nil)) (pv 1)))
        (pss_cons (ps_dput hu (pv 0) pe_str (pe_op op_fdivW (pe_dget hu (pv 0) pe_str (fun _ _ => rfl)) (pv 1)) rfl)
        (pss_one (ps_ret (pv 2))))) pss_nil)
        (pss_cons (ps_dput hu (pv 0) pe_str (pe_op op_add (pe_dget hu (pv 0) pe_str (fun _ _ => rfl)) pe_int) rfl)
        (pss_cons (ps_set (i := 3) sc_law_take.nd rfl (Or.inl rfl) (pe_op op_mod (pe_callTy call_int1 (by rfl) z.int (by decide +kernel) (pa_cons (pe_op op_add (pe_op op_mul (pe_dget hu (pv 0) pe_str (fun _ _ => rfl)) pe_int) (pe_op op_mul (pe_dget hu (pv 0) pe_str (fun _ _ => rfl)) pe_int)) pa_nil)) pe_int))
        (pss_cons (ps_set (i := 3) sc_law_take.nd rfl (Or.inl rfl) (pe_op op_mod (pe_callTy call_int1 (by rfl) z.int (by decide +kernel) (pa_cons (pe_op op_add (pe_op op_add (pe_op op_mul (pv 3) (pv 3)) (pe_op op_mul (pe_dget hu (pv 0) pe_str (fun _ _ => rfl)) pe_int)) pe_int) pa_nil)) pe_int))
        (pss_one (ps_ret (pe_op op_mod (pe_callTy call_int1 (by rfl) z.int (by decide +kernel) (pa_cons (pv 3) pa_nil)) (pv 1))))))))), ?_⟩
    refine ⟨fun σ' H' => ∃ a l m : Int, σ' = [some (.ref t), some (.int many), none, none] ∧ H' t = some (.dK (tk c a l s0 m)) ∧ 0 ≤ a ∧ 0 ≤ l ∧ SameX t H H', ?_, ?_⟩
    · refine ⟨_, rfl, t, .int l, rfl, d_left hd, rfl, _, rfl, ?_⟩
      refine ite2 (fun e0 => ?_) (fun e0 => ?_)
      · refine ⟨_, rfl, t, .int a, rfl, d_at hd, _, rfl, t, .ref c, rfl, d_cells hd, c, _, rfl, .inl (SqL.of hc), _, _, rfl, rfl, _, rfl, ?_⟩
        refine ite2 (fun e1 => ?_) (fun e1 => ?_)
        · have e2 : a < (((cs.map V.int).length : Nat) : Int) := of_decide_eq_true e1
          rw [List.length_map] at e2
          have hk : a.toNat < cs.length := by omega
          have hat : atI (cs.map V.int) a = some (.int cs[a.toNat]) := at_of (j := a.toNat) (by omega) (by rw [List.getElem?_map, List.getElem?_eq_getElem hk]; rfl)
          have hx : 0 ≤ cs[a.toNat] := hn _ (List.getElem_mem hk)
          refine ⟨_, rfl, t, .ref c, rfl, d_cells hd, _, rfl, t, .int a, rfl, d_at hd, c, _, a, _, rfl, rfl, SqL.of hc, hat, _, rfl, t, _, rfl, p_left hd _, ?_⟩
          refine ⟨_, rfl, t, .int a, rfl, d_at upd_same, _, _, rfl, rfl, _, rfl, t, _, rfl, p_at upd_same _, ?_⟩
          exact ⟨a + 1, _, m, rfl, upd_same, by omega, hx, (SameX.upd _).trans (SameX.upd _)⟩
        · exact ⟨a, l, m, rfl, hd, ha, hl, SameX.refl _ _⟩
      · exact ⟨a, l, m, rfl, hd, ha, hl, SameX.refl _ _⟩
    · rintro σ1 H1 ⟨a, l, m, rfl, hd, ha, hl, S1⟩
      have hc1 : H1 c = some (.lst (cs.map V.int)) := S1 _ _ hc cne
      refine ⟨_, rfl, t, .int l, rfl, d_left hd, _, _, rfl, rfl, _, rfl, ?_⟩
      refine ite2 (fun e0 => ?_) (fun e0 => ?_)
      · refine ⟨_, rfl, t, .int l, rfl, d_left hd, .inl ⟨_, rfl, _, rfl, _, _, rfl, rfl, h0, ?_⟩⟩
        refine ⟨_, rfl, t, .int l, rfl, d_left hd, _, rfl, _, _, rfl, rfl, wide_div h0 h9 (by decide) (by decide), _, rfl, t, _, rfl, p_left hd _, ?_⟩
        refine ⟨_, rfl, ?_⟩
        refine q _ _ (Int.emod_nonneg _ (by omega)) (Int.emod_lt_of_pos _ h0) ⟨⟨a, _, s0, m, upd_same, ha, Int.ediv_nonneg hl (by omega)⟩, by rw [upd_ne cne]; exact hc1, hn⟩ (S1.trans (SameX.upd _))
      · refine ⟨_, rfl, t, .int m, rfl, d_salt hd, _, _, rfl, rfl, _, rfl, t, _, rfl, p_salt hd _, ?_⟩
        have hd2 : upd H1 t (.dK (tk c a l s0 (m + 1))) t = some (.dK (tk c a l s0 (m + 1))) := upd_same
        refine ⟨_, rfl, t, .int s0, rfl, d_seed hd2, _, _, rfl, rfl, .inr ⟨by decide, by decide⟩, _, rfl, t, .int _, rfl, d_salt hd2, _, _, rfl, rfl, .inr ⟨by decide, by decide⟩, _, _, rfl, rfl, .inl ⟨_, rfl, _, _, rfl, rfl, (by show (0 : Int) < 2147483647; decide), ?_⟩⟩
        generalize hmx : (s0 * 48271 + (m + 1) * 69621) % 2147483647 = mx
        have b1 : 0 ≤ mx := by rw [← hmx]; exact Int.emod_nonneg _ (by decide)
        have b2 : mx < 2147483647 := by rw [← hmx]; exact Int.emod_lt_of_pos _ (by decide)
        refine ⟨_, rfl, _, rfl, _, _, rfl, rfl, .inl ⟨by omega, by omega⟩, _, rfl, t, .int _, rfl, d_salt hd2, _, _, rfl, rfl, .inr ⟨by decide, by decide⟩, _, _, rfl, rfl, _, _, rfl, rfl, .inl ⟨_, rfl, _, _, rfl, rfl, (by show (0 : Int) < 2147483399; decide), ?_⟩⟩
        refine ⟨_, rfl, .inl ⟨_, rfl, _, rfl, _, _, rfl, rfl, h0, ?_⟩⟩
        exact q _ _ (Int.emod_nonneg _ (by omega)) (Int.emod_lt_of_pos _ h0) ⟨⟨a, l, s0, m + 1, hd2, ha, hl⟩, by rw [upd_ne cne]; exact hc1, hn⟩ (S1.trans (SameX.upd _)))

theorem lt_len : ("abcdefghijklmnopqrstuvwxyz" : Str).cps.toList.length = 26 := by decide +kernel
theorem lt_at : ∀ j : Nat, j < 26 → ("abcdefghijklmnopqrstuvwxyz" : Str).cps.toList[j]? = some (97 + j) := by decide +kernel
theorem lt_ok : ∀ ch ∈ ("abcdefghijklmnopqrstuvwxyz" : Str).cps.toList, 97 ≤ ch ∧ ch ≤ 122 := by decide +kernel
theorem sg_len : (("abcdefghijklmnopqrstuvwxyz" : Str) ++ ("0123456789_" : Str)).cps.toList.length = 37 := by decide +kernel
theorem sg_ok : ∀ ch ∈ (("abcdefghijklmnopqrstuvwxyz" : Str) ++ ("0123456789_" : Str)).cps.toList, nmCh ch := by decide +kernel
theorem ok_law_name {f : Addr} {fd : FuncData} (k : Kn K mg "_law_name" s_law_name ["tape", "used"] f fd) (z : Z mg)
    {g_law_take : Addr} {gd_law_take : FuncData} (c_law_take : Cal P w K mg base 1 "_law_take" ["tape", "many"] (spTake) g_law_take gd_law_take) :
    Cal P w K mg base 2 "_law_name" ["tape", "used"] (spName) f fd := k.cal (by
  refine k.F.ok sc_law_name (fun vs H Q E h => ?_) (fun cdv A outer s H vs Q E hr h => ?_)
  · obtain ⟨t, c, u, cs, us, rfl, _⟩ := h; rfl
  · obtain ⟨t, c, u, cs, us, rfl, T, hu0, huc, hl, q⟩ := h
    have hut : u ≠ t := T.notL hu0
    refine ⟨_, (pss_cons (ps_set (i := 2) sc_law_name.nd rfl (Or.inl rfl) pe_str)
        (pss_cons (ps_set (i := 3) sc_law_name.nd rfl (Or.inr rfl) (pe_op op_add_str (pv 2) pe_str))
        (pss_cons (ps_set (i := 4) sc_law_name.nd rfl (Or.inl rfl) (pe_call c_law_take.G (hr.mono (by decide)) (by rfl) c_law_take.m c_law_take.kp c_law_take.b .nil pass0 (pa_cons (pv 0) (pa_cons pe_int pa_nil))))
        (pss_cut (ps_if (pt_cmpR op_eq (pe_call c_law_take.G (hr.mono (by decide)) (by rfl) c_law_take.m c_law_take.kp c_law_take.b .nil pass0 (pa_cons (pv 0) (pa_cons pe_int pa_nil))) pe_int (nomark _)) (pss_one (ps_set (i := 4) sc_law_name.nd rfl (Or.inl rfl) pe_int)) pss_nil)
        (pss_cons (ps_set (i := 6) sc_law_name.nd rfl (Or.inl rfl) (pe_op op_add_str (pe_ix ix_str (pv 2) (pe_call c_law_take.G (hr.mono (by decide)) (by rfl) c_law_take.m c_law_take.kp c_law_take.b .nil pass0 (pa_cons (pv 0) (pa_cons pe_int pa_nil))) (fun _ _ => rfl)) (pe_join pe_str (pe_lc (own := [("k", 5)]) (g := gName 5) (tt := tYes) (by rfl) sc_law_name.nd (pi_range1 (by rfl) z.range (pa_cons (pv 4) pa_nil)) (blkOk_by (own := [("k", 5)]) (N := ["tape", "used", "letters", "signs", "size", "k", "name"]) (sc := defScope s_law_name) (by decide +kernel)) (fun _ _ _ _ _ => pg_name (i := 5) sc_law_name.nd rfl (Or.inl rfl)) (fun _ _ _ _ _ => pts_nil) (fun _ _ _ _ _ => (pe_ix ix_str (pv 3) (pe_call c_law_take.G (hr.mono (by decide)) (by rfl) c_law_take.m c_law_take.kp c_law_take.b .nil pass0 (pa_cons (pv 0) (pa_cons pe_int pa_nil))) (fun _ _ => rfl)))))))
        (pss_cons (ps_for PassesOwn.never rfl (pi_range1 (by rfl) z.range (pa_cons pe_int pa_nil)) (pg_name (i := 5) sc_law_name.nd rfl (Or.inl rfl))
        (pss_one (ps_if (pt_cmpR op_in_seq (pv 6) (pv 1) (by rfl)) (pss_one (ps_set (i := 6) sc_law_name.nd rfl (Or.inl rfl) (pe_op op_add_str (pe_ix ix_str (pv 2) (pv 5) (fun _ _ => rfl)) (pe_slice sl_str (pv 6) po_none (po_some pe_int))))) pss_nil)))
        (pss_cons (ps_expr (pe_bm PySem.F.plainAttrs_list PySem.F.slot_list_append PySem.F.type_list_append mt_append (pv 1) (pa_cons (pv 6) pa_nil)))
        (pss_one (ps_ret (pv 6)))))))))), ?_⟩
    refine ⟨_, rfl, _, _, rfl, rfl, (by decide +kernel), ?_⟩
    refine ⟨_, rfl, t, c, cs, 4, rfl, T, by decide, by decide +kernel, fun d H1 d0 d1 T1 s1 => ?_⟩
    refine ⟨fun σ' H' => ∃ n : Int, σ' = [some (.ref t), some (.ref u), some (.str "abcdefghijklmnopqrstuvwxyz"), some (.str (("abcdefghijklmnopqrstuvwxyz" : Str) ++ ("0123456789_" : Str))), some (.int n), none, none] ∧ 0 ≤ n ∧ n ≤ 19 ∧ TapeAt H' t c cs ∧ SameX t H H', ?_, ?_⟩
    · refine ⟨_, rfl, t, c, cs, 9, rfl, T1, by decide, by decide +kernel, fun e H2 e0 e1 T2 s2 => ⟨rfl, _, rfl, ?_⟩⟩
      refine ifD (fun _ => ?_) (fun _ => ?_)
      · exact ⟨19, rfl, by decide, by decide, T2, s1.trans s2⟩
      · exact ⟨d, rfl, d0, by omega, T2, s1.trans s2⟩
    rintro σ2 H2 ⟨n, rfl, n0, n1, T2, s2⟩
    refine ⟨_, rfl, _, rfl, t, c, cs, 26, rfl, T2, by decide, by decide +kernel, fun e H3 e0 e1 T3 s3 => ?_⟩
    obtain ⟨ch0, h1, h2⟩ := at_in (xs := ("abcdefghijklmnopqrstuvwxyz" : Str).cps.toList) e0 (by rw [lt_len]; exact e1)
    refine ⟨_, _, ch0, rfl, rfl, (by decide +kernel), h1, ?_⟩
    refine ⟨⟨_, rfl⟩, _, rfl, n, rfl, by omega, by omega, fun D hD => lc_range (lo := 0) (n := n.toNat) (fun i H' => ∃ chs : List Nat, H' D = some (.lst ((chs.map one).map V.str)) ∧ chs.length = i ∧ (∀ x ∈ chs, nmCh x) ∧ TapeAt H' t c cs ∧ SameX t H3 H') ?_ ?_ ?_⟩
    · exact ⟨[], upd_same, rfl, (by intro x hx; cases hx), T3.mono (same_new hD _), SameX.of (same_new hD _)⟩
    · rintro i H4 hi ⟨chs, hc, hl', hn', T4, s4⟩
      have hDt := T3.fresh hD
      refine ⟨rfl, _, rfl, _, rfl, t, c, cs, 37, rfl, T4, by decide, by decide +kernel, fun g H5 g0 g1 T5 s5 => ?_⟩
      obtain ⟨ch, k1, k2⟩ := at_in (xs := (("abcdefghijklmnopqrstuvwxyz" : Str) ++ ("0123456789_" : Str)).cps.toList) g0 (by rw [sg_len]; exact g1)
      refine ⟨_, _, _, rfl, rfl, (by decide +kernel), k1, _, s5 _ _ hc hDt.1, (by rw [List.length_map, List.length_map]; exact small1000 (by omega)), chs ++ [ch], ?_, by simp [hl'], ?_, T5.upd hDt.1 hDt.2, samex_upd hD _ (s4.trans s5)⟩
      · rw [upd_same, List.map_append, List.map_append]; rfl
      · intro y hy
        rcases List.mem_append.mp hy with hy | hy
        · exact hn' y hy
        · rw [List.mem_singleton.mp hy]; exact sg_ok _ k2
    rintro H4 ⟨chs, hc, hl', hn', T4, s4⟩
    have hsum : ((chs.map one).map (·.length)).sum + (chs.map one).length * ("" : Str).length ≤ 16777216 := by
      have e0 : ("" : Str).length = 0 := by decide +kernel
      rw [sum_ones, e0, Nat.mul_zero]; omega
    have S4 : SameX t H H4 := s2.trans (s3.trans s4)
    have hu4 : H4 u = some (.lst (us.map V.str)) := S4 _ _ hu0 hut
    refine ⟨_, D, _, rfl, rfl, .inl (SqL.of hc), hsum, _, _, rfl, rfl, (by rw [len_joined]; exact Nat.le_of_lt (small1000 (by show 1 + _ ≤ _; omega))), ?_⟩
    have nz : nameOk (one ch0 ++ Txt.join ("" : Str) (chs.map one)) := by
      have et : tl (one ch0 ++ Txt.join ("" : Str) (chs.map one)) = ch0 :: chs := by rw [tl_append, tl_joined]; rfl
      refine ⟨?_, ⟨ch0, chs, et, lt_ok _ h2⟩, ?_⟩
      · rw [len_tl, et, List.length_cons]; omega
      · rw [et]
        intro x hx
        rcases List.mem_cons.mp hx with rfl | hx
        · have := lt_ok _ h2; unfold nmCh; omega
        · exact hn' x hx
    refine ⟨26, rfl, by decide, by decide, for_range (lo := 0) (n := 26) (fun i σ H' => ∃ v z, σ = [some (.ref t), some (.ref u), some (.str "abcdefghijklmnopqrstuvwxyz"), some (.str (("abcdefghijklmnopqrstuvwxyz" : Str) ++ ("0123456789_" : Str))), some (.int n), v, some (.str z)] ∧ H' = H4 ∧ nameOk z ∧ (z ∉ us ∨ Hit us i)) ⟨none, _, rfl, rfl, nz, .inr ⟨[], rfl, List.nodup_nil, fun v hv => by cases hv⟩⟩ ?_ ?_⟩
    · rintro i σ H' hi ⟨v, z0, rfl, rfl, nk, hit⟩
      refine ⟨_, rfl, _, rfl, u, _, rfl, .inl (SqL.of hu4), rfl, flat_strs us, _, rfl, ?_⟩
      show if inV (.str z0) (us.map V.str) = true then _ else _
      rw [inV_str]
      refine ifD (fun hin => ?_) (fun hout => ⟨_, z0, rfl, rfl, nk, .inl hout⟩)
      have hk : atI ("abcdefghijklmnopqrstuvwxyz" : Str).cps.toList (0 + (i : Int)) = some (97 + i) := at_ofN (z := 0 + (i : Int)) (j := i) (by omega) (lt_at i hi)
      have l1 := cutS_length z0 none (some 19)
      refine ⟨_, rfl, _, rfl, _, _, _, rfl, rfl, (by decide +kernel), hk, _, rfl, _, rfl, _, rfl, Nat.le_of_lt (small1000 (by have := nk.1; omega)), _, _, rfl, rfl, Nat.le_of_lt (small1000 (by show 1 + _ ≤ _; have := nk.1; omega)), ?_⟩
      have et : tl (one (97 + i) ++ cutS z0 none (some 19)) = (97 + i) :: tl (cutS z0 none (some 19)) := by rw [tl_append]; rfl
      have l2 : (cutS z0 none (some 19)).length ≤ 19 := by
        show (((z0.cps.toList.drop (HT.sIx z0.length 0 none)).take (HT.sIx z0.length z0.length (some 19) - HT.sIx z0.length 0 none)).toArray).size ≤ 19
        rw [List.size_toArray, List.length_take]
        have : HT.sIx z0.length z0.length (some 19) = min 19 z0.length := HT.sIx_nat _ _ 19
        rw [this]
        omega
      refine ⟨_, _, rfl, rfl, ⟨?_, ⟨97 + i, _, et, by omega, by omega⟩, ?_⟩, ?_⟩
      · rw [len_app]; show 1 + _ ≤ _; omega
      · show ∀ ch ∈ tl (one (97 + i) ++ cutS z0 none (some 19)), nmCh ch
        rw [et]
        intro x hx
        rcases List.mem_cons.mp hx with rfl | hx
        · unfold nmCh; omega
        · exact nk.2.2 x (cutS_sub _ hx)
      · rcases hit with hit | hit
        · exact absurd hin hit
        · exact hit.step et
    rintro σ H' ⟨v, z0, rfl, rfl, nk, hit⟩
    have hz0 : z0 ∉ us := by
      rcases hit with hit | hit
      · exact hit
      · exact absurd (hit.no (by omega)) (fun z => z)
    refine ⟨_, rfl, .inl ⟨rfl, _, SqL.of hu4⟩, _, rfl, u, _, _, rfl, rfl, hu4, (by rw [List.length_map]; exact small1000 (by omega)), ?_⟩
    refine ⟨_, rfl, ?_⟩
    refine q z0 _ nk hz0 (T4.upd hut huc.symm) ?_ (SameXY.updY _ (SameXY.ofX S4))
    rw [upd_same, List.map_append]
    rfl)
theorem ok_law_columns {f : Addr} {fd : FuncData} (k : Kn K mg "_law_columns" s_law_columns ["tape", "used", "many"] f fd) (z : Z mg)
    {g_law_take : Addr} {gd_law_take : FuncData} (c_law_take : Cal P w K mg base 1 "_law_take" ["tape", "many"] (spTake) g_law_take gd_law_take)
    {g_law_name : Addr} {gd_law_name : FuncData} (c_law_name : Cal P w K mg base 2 "_law_name" ["tape", "used"] (spName) g_law_name gd_law_name) :
    Cal P w K mg base 3 "_law_columns" ["tape", "used", "many"] (spColumns) f fd := k.cal (by
  refine k.F.ok sc_law_columns (fun vs H Q E h => ?_) (fun cdv A outer s H vs Q E hr h => ?_)
  · obtain ⟨t, c, u, cs, us, m, rfl, _⟩ := h; rfl
  · obtain ⟨t, c, u, cs, us, m, rfl, T, hu0, huc, m0, m8, hl, q⟩ := h
    have hut : u ≠ t := T.notL hu0
    refine ⟨_, (pss_cons (ps_set (i := 3) sc_law_columns.nd rfl (Or.inl rfl) (pe_lst (pa_cons pe_str (pa_cons pe_str pa_nil))))
        (pss_cons (ps_set (i := 4) sc_law_columns.nd rfl (Or.inl rfl) (pe_lst (pa_cons (pe_tup (pa_cons (pe_call c_law_name.G (hr.mono (by decide)) (by rfl) c_law_name.m c_law_name.kp c_law_name.b .nil pass0 (pa_cons (pv 0) (pa_cons (pv 1) pa_nil))) (pa_cons (pe_ix ix_list (pv 3) (pe_call c_law_take.G (hr.mono (by decide)) (by rfl) c_law_take.m c_law_take.kp c_law_take.b .nil pass0 (pa_cons (pv 0) (pa_cons pe_int pa_nil))) (fun _ _ => rfl)) (pa_cons pe_bl pa_nil)))) pa_nil)))
        (pss_cons (ps_for PassesOwn.never rfl (pi_range1 (by rfl) z.range (pa_cons (pv 2) pa_nil)) (pg_name (i := 5) sc_law_columns.nd rfl (Or.inl rfl))
        (pss_one (ps_expr (pe_bm PySem.F.plainAttrs_list PySem.F.slot_list_append PySem.F.type_list_append mt_append (pv 4) (pa_cons (pe_tup (pa_cons (pe_call c_law_name.G (hr.mono (by decide)) (by rfl) c_law_name.m c_law_name.kp c_law_name.b .nil pass0 (pa_cons (pv 0) (pa_cons (pv 1) pa_nil))) (pa_cons (pe_ix ix_list (pv 3) (pe_call c_law_take.G (hr.mono (by decide)) (by rfl) c_law_take.m c_law_take.kp c_law_take.b .nil pass0 (pa_cons (pv 0) (pa_cons pe_int pa_nil))) (fun _ _ => rfl)) (pa_cons (pe_cmpR op_eq (pe_call c_law_take.G (hr.mono (by decide)) (by rfl) c_law_take.m c_law_take.kp c_law_take.b .nil pass0 (pa_cons (pv 0) (pa_cons pe_int pa_nil))) pe_int (nomark _)) pa_nil)))) pa_nil)))))
        (pss_one (ps_ret (pv 4)))))), ?_⟩
    refine ⟨(by show 2 ≤ sizeLine; decide), fun KL hKL => ?_⟩
    have TK := T.mono (same_new hKL (.lst [.str "int", .str "text"]))
    have fK := T.fresh hKL
    have uK : u ≠ KL := ne_of_none hu0 hKL
    have kinds : ∀ {d : Int}, 0 ≤ d → d < 2 → ∃ k : Str, atI [V.str ("int" : Str), V.str ("text" : Str)] d = some (.str k) ∧ (k = ("int" : Str) ∨ k = ("text" : Str)) := fun d0 d1 => by
      obtain ⟨v, h1, h2⟩ := at_in (xs := [V.str ("int" : Str), V.str ("text" : Str)]) d0 (by simpa using d1)
      simp only [List.mem_cons, List.not_mem_nil, or_false] at h2
      rcases h2 with rfl | rfl
      · exact ⟨_, h1, .inl rfl⟩
      · exact ⟨_, h1, .inr rfl⟩
    refine ⟨_, rfl, _, rfl, t, c, u, cs, us, rfl, TK, (by rw [upd_ne uK]; exact hu0), huc, by omega, fun n1 H1 nk1 nf1 T1 hu1 s1 => ?_⟩
    have hK1 := s1 _ _ upd_same fK.1 uK.symm
    refine ⟨_, rfl, _, rfl, t, c, cs, 2, rfl, T1, by decide, by decide +kernel, fun d H2 d0 d1 T2 s2 => ?_⟩
    obtain ⟨k1, a1, b1⟩ := kinds d0 d1
    refine ⟨KL, _, d, _, rfl, rfl, SqL.of (s2 _ _ hK1 fK.1), a1, (by show 3 ≤ sizeLine; decide), fun p hp => ⟨(by show 1 ≤ sizeLine; decide), fun L hL => ?_⟩⟩
    have S2 : SameXY t u H H2 := (SameXY.of (same_new hKL _)).trans (s1.trans (SameXY.ofX s2))
    have hu2 : H2 u = some (.lst ((us ++ [n1]).map V.str)) := s2 _ _ hu1 hut
    have hK2 := s2 _ _ hK1 fK.1
    have e2 : Same H2 (upd (upd H2 p (.tup [.str n1, .str k1, .bl false])) L (.lst [.ref p])) := (same_new hp _).trans (same_new hL _)
    have hLt := (T2.mono (same_new hp (.tup [.str n1, .str k1, .bl false]))).fresh hL
    have uL : u ≠ L := ne_of_none (same_new hp _ _ _ hu2) hL
    have KLL : KL ≠ L := ne_of_none (same_new hp _ _ _ hK2) hL
    have hL2 : H2 L = none := by
      cases e : H2 L with
      | none => rfl
      | some o => have := same_new hp (.tup [.str n1, .str k1, .bl false]) _ _ e; rw [hL] at this; cases this
    have hL0 : H L = none := by
      cases e : H L with
      | none => rfl
      | some o => have := S2 _ _ e hLt.1 uL.symm; rw [hL2] at this; cases this
    refine ⟨_, rfl, m, rfl, by omega, by omega, for_range (lo := 0) (n := m.toNat) (fun i σ H' => ∃ v cols xs, σ = [some (.ref t), some (.ref u), some (.int m), some (.ref KL), some (.ref L), v] ∧ H' L = some (.lst xs) ∧ TpL H' xs (cols.map colD) ∧ cols.length = i + 1 ∧ ColsOk us cols ∧ TapeAt H' t c cs ∧ H' u = some (.lst ((us ++ colNs cols).map V.str)) ∧ H' KL = some (.lst [.str "int", .str "text"]) ∧ SameXY t u H H') ?_ ?_ ?_⟩
    · refine ⟨none, [⟨n1, k1, false⟩], [.ref p], rfl, upd_same, .cons (col_mk (by rw [upd_ne (ne_of_none upd_same hL)]; exact upd_same)) .nil, rfl, ⟨?_, ?_, ?_, ?_⟩, T2.mono e2, e2 _ _ hu2, e2 _ _ hK2, S2.trans (SameXY.of e2)⟩
      · show ([n1] : List Str).Nodup; simp
      · intro n hn
        have : n = n1 := by simpa [colNs] using hn
        subst this
        exact ⟨nf1, nk1⟩
      · intro cc hc
        have : cc = ⟨n1, k1, false⟩ := by simpa using hc
        subst this
        exact b1
      · intro cc hc
        have : cc = ⟨n1, k1, false⟩ := by simpa using hc.symm
        subst this
        rfl
    · rintro i σ H3 hi ⟨v, cols, xs, rfl, h3, r3, l3, C3, T3, u3, K3, s3⟩
      have hlen : (us ++ colNs cols).length ≤ 25 := by rw [List.length_append]; unfold colNs; rw [List.length_map]; omega
      refine ⟨_, rfl, .inl ⟨rfl, _, SqL.of h3⟩, ?_⟩
      refine ⟨_, rfl, _, rfl, t, c, u, cs, us ++ colNs cols, rfl, T3, u3, huc, hlen, fun n4 H4 nk4 nf4 T4 hu4 s4 => ?_⟩
      have h4 := s4 _ _ h3 (T3.notL h3) uL.symm
      have K4 := s4 _ _ K3 fK.1 uK.symm
      have r4 := r3.mono (KeepT.ofXY T3 u3 s4)
      refine ⟨_, rfl, _, rfl, t, c, cs, 2, rfl, T4, by decide, by decide +kernel, fun d H5 d0 d1 T5 s5 => ?_⟩
      obtain ⟨k5, a5, b5⟩ := kinds d0 d1
      have K5 := s5 _ _ K4 fK.1
      refine ⟨KL, _, d, _, rfl, rfl, SqL.of K5, a5, ?_⟩
      refine ⟨_, rfl, t, c, cs, 2, rfl, T5, by decide, by decide +kernel, fun e H6 e0 e1 T6 s6 => ?_⟩
      have s46 : SameXY t u H3 H6 := s4.trans ((SameXY.ofX s5).trans (SameXY.ofX s6))
      have h6 := s6 _ _ (s5 _ _ h4 (T3.notL h3)) (T3.notL h3)
      have u6 := s6 _ _ (s5 _ _ hu4 hut) hut
      have K6 := s6 _ _ K5 fK.1
      have r6 := (r4.mono (KeepT.ofX T4 s5)).mono (KeepT.ofX T5 s6)
      refine ⟨rfl, (by show 3 ≤ sizeLine; decide), fun p6 hp6 => ?_⟩
      have m7 := same_new hp6 (.tup [.str n4, .str k5, .bl (decide (V.int e = V.int 1))])
      have nL : L ≠ p6 := ne_of_none h6 hp6
      refine ⟨L, xs, _, rfl, rfl, m7 _ _ h6, (by rw [r3.length, List.length_map]; exact small1000 (by omega)), ?_⟩
      have ku : KeepT (upd H6 p6 (.tup [.str n4, .str k5, .bl (decide (V.int e = V.int 1))])) (upd (upd H6 p6 (.tup [.str n4, .str k5, .bl (decide (V.int e = V.int 1))])) L (.lst (xs ++ [.ref p6]))) := KeepT.upd (fun ys z => by rw [m7 _ _ h6] at z; cases z)
      refine ⟨_, cols ++ [⟨n4, k5, decide (V.int e = V.int 1)⟩], xs ++ [.ref p6], rfl, upd_same, ?_, by simp [l3], ⟨?_, ?_, ?_, ?_⟩, (T6.mono m7).upd (T3.notL h3) (fun z => by subst z; exact hLt.2 rfl), ?_, ?_, ?_⟩
      · rw [List.map_append]
        exact TpL.snoc ((r6.mono (KeepT.of m7)).mono ku) (col_mk (ku _ _ upd_same))
      · unfold colNs
        rw [List.map_append]
        refine List.nodup_append.mpr ⟨C3.nd, by simp, ?_⟩
        intro a ha b hb
        have : b = n4 := by simpa using hb
        subst this
        rintro rfl
        exact nf4 (List.mem_append.mpr (.inr ha))
      · intro n hn
        unfold colNs at hn
        rw [List.map_append] at hn
        rcases List.mem_append.mp hn with hn | hn
        · exact C3.fr n hn
        · have : n = n4 := by simpa using hn
          subst this
          exact ⟨fun z => nf4 (List.mem_append.mpr (.inl z)), nk4⟩
      · intro cc hc
        rcases List.mem_append.mp hc with hc | hc
        · exact C3.kd cc hc
        · have : cc = ⟨n4, k5, decide (V.int e = V.int 1)⟩ := by simpa using hc
          subst this
          exact b5
      · intro cc hc
        rw [List.getElem?_append_left (by omega)] at hc
        exact C3.hd cc hc
      · have ec : colNs (cols ++ [⟨n4, k5, decide (V.int e = V.int 1)⟩]) = colNs cols ++ [n4] := by unfold colNs; rw [List.map_append]; rfl
        rw [upd_ne uL, m7 _ _ u6, ec, List.append_assoc]
      · rw [upd_ne KLL]; exact m7 _ _ K6
      · exact samexy_upd hL0 _ (s3.trans (s46.trans (SameXY.of m7)))
    · rintro σ H3 ⟨v, cols, xs, rfl, h3, r3, l3, C3, T3, u3, K3, s3⟩
      exact ⟨_, rfl, q L cols xs H3 hL0 h3 r3 (by omega) C3 T3 u3 s3⟩)
theorem ok_law_integer {f : Addr} {fd : FuncData} (k : Kn K mg "_law_integer" s_law_integer ["tape"] f fd) (z : Z mg)
    {g_law_take : Addr} {gd_law_take : FuncData} (c_law_take : Cal P w K mg base 1 "_law_take" ["tape", "many"] (spTake) g_law_take gd_law_take) :
    Cal P w K mg base 2 "_law_integer" ["tape"] (spDraw (isInt (-999999999) 999999999)) f fd := k.cal (by
  refine k.F.ok sc_law_integer (fun vs H Q E h => ?_) (fun cdv A outer s H vs Q E hr h => ?_)
  · obtain ⟨t, c, cs, rfl, _⟩ := h; rfl
  · obtain ⟨t, c, cs, rfl, T, q⟩ := h
    refine ⟨_, (pss_cons (ps_set (i := 1) sc_law_integer.nd rfl (Or.inl rfl) (pe_call c_law_take.G (hr.mono (by decide)) (by rfl) c_law_take.m c_law_take.kp c_law_take.b .nil pass0 (pa_cons (pv 0) (pa_cons pe_int pa_nil))))
        (pss_cons (ps_if (pt_cmpR op_eq (pv 1) pe_int (nomark _)) (pss_one (ps_ret (pe_op op_sub (pe_call c_law_take.G (hr.mono (by decide)) (by rfl) c_law_take.m c_law_take.kp c_law_take.b .nil pass0 (pa_cons (pv 0) (pa_cons pe_int pa_nil))) pe_int))) pss_nil)
        (pss_cons (ps_if (pt_cmpR op_eq (pv 1) pe_int (nomark _)) (pss_one (ps_ret (pe_ix ix_list (pe_lst (pa_cons pe_int (pa_cons (pe_un un_neg pe_int) (pa_cons pe_int (pa_cons pe_int pa_nil))))) (pe_call c_law_take.G (hr.mono (by decide)) (by rfl) c_law_take.m c_law_take.kp c_law_take.b .nil pass0 (pa_cons (pv 0) (pa_cons pe_int pa_nil))) (fun _ _ => rfl)))) pss_nil)
        (pss_cons (ps_if (pt_cmpR op_eq (pv 1) pe_int (nomark _)) (pss_one (ps_ret (pe_un un_neg (pe_call c_law_take.G (hr.mono (by decide)) (by rfl) c_law_take.m c_law_take.kp c_law_take.b .nil pass0 (pa_cons (pv 0) (pa_cons pe_int pa_nil)))))) pss_nil)
        (pss_one (ps_ret (pe_call c_law_take.G (hr.mono (by decide)) (by rfl) c_law_take.m c_law_take.kp c_law_take.b .nil pass0 (pa_cons (pv 0) (pa_cons pe_int pa_nil))))))))), ?_⟩
    refine ⟨_, rfl, t, c, cs, 8, rfl, T, by decide, by decide +kernel, fun d H1 d0 d1 T1 s1 => ?_⟩
    refine ⟨_, rfl, rfl, _, rfl, ?_⟩
    refine ifD (fun _ => ?_) (fun _ => ?_)
    · refine ⟨_, rfl, t, c, cs, 1999999999, rfl, T1, by decide, by decide +kernel, fun e H2 e0 e1 T2 s2 => ⟨_, _, rfl, rfl, ?_⟩⟩
      exact q _ H2 ⟨_, by omega, by omega, rfl⟩ T2 (s1.trans s2)
    refine ⟨_, rfl, rfl, _, rfl, ?_⟩
    refine ifD (fun _ => ?_) (fun _ => ?_)
    · refine ⟨_, rfl, (by show 4 ≤ sizeLine; decide), fun L hL => ?_⟩
      refine ⟨_, rfl, t, c, cs, 4, rfl, T1.mono (same_new hL _), by decide, by decide +kernel, fun e H2 e0 e1 T2 s2 => ?_⟩
      obtain ⟨v, h1, h2⟩ := at_in (xs := [V.int 999999999, V.int (-999999999), V.int 999999998, V.int 0]) e0 (by simpa using e1)
      obtain ⟨n, rfl, n0, n1⟩ : ∃ n : Int, v = V.int n ∧ -999999999 ≤ n ∧ n ≤ 999999999 := by
        simp only [List.mem_cons, List.not_mem_nil, or_false] at h2
        rcases h2 with rfl | rfl | rfl | rfl <;> exact ⟨_, rfl, by decide, by decide⟩
      refine ⟨L, _, e, _, rfl, rfl, SqL.of (s2 _ _ upd_same (T1.fresh hL).1), h1, ?_⟩
      exact q _ H2 ⟨n, n0, n1, rfl⟩ T2 (s1.trans ((SameX.of (same_new hL _)).trans s2))
    refine ⟨_, rfl, rfl, _, rfl, ?_⟩
    refine ifD (fun _ => ?_) (fun _ => ?_)
    · refine ⟨_, rfl, t, c, cs, 12, rfl, T1, by decide, by decide +kernel, fun e H2 e0 e1 T2 s2 => ⟨_, rfl, ?_⟩⟩
      exact q _ H2 ⟨_, by omega, by omega, rfl⟩ T2 (s1.trans s2)
    · refine ⟨_, rfl, t, c, cs, 6, rfl, T1, by decide, by decide +kernel, fun e H2 e0 e1 T2 s2 => ?_⟩
      exact q _ H2 ⟨_, by omega, by omega, rfl⟩ T2 (s1.trans s2))

theorem chars_len : (((" !\"#$&'()*+,-./0123456789:;<=>?@ABCDEFGHIJKLMNOPQRSTUVWXYZ[\\]^" : Str) ++ ("_`abcdefghijklmnopqrstuvwxyz{|}~" : Str)).cps.toList).length = 94 := by decide +kernel
theorem chars_ok : ∀ c ∈ ((" !\"#$&'()*+,-./0123456789:;<=>?@ABCDEFGHIJKLMNOPQRSTUVWXYZ[\\]^" : Str) ++ ("_`abcdefghijklmnopqrstuvwxyz{|}~" : Str)).cps.toList, chOk c := by decide +kernel
theorem few_len : ("ab -07" : Str).cps.toList.length = 6 := by decide +kernel
theorem few_ok : ∀ c ∈ ("ab -07" : Str).cps.toList, chOk c := by decide +kernel
theorem ok_law_char {f : Addr} {fd : FuncData} (k : Kn K mg "_law_char" s_law_char ["tape"] f fd) (z : Z mg)
    {g_law_take : Addr} {gd_law_take : FuncData} (c_law_take : Cal P w K mg base 1 "_law_take" ["tape", "many"] (spTake) g_law_take gd_law_take) :
    Cal P w K mg base 2 "_law_char" ["tape"] (spDraw isChar) f fd := k.cal (by
  refine k.F.ok sc_law_char (fun vs H Q E h => ?_) (fun cdv A outer s H vs Q E hr h => ?_)
  · obtain ⟨t, c, cs, rfl, _⟩ := h; rfl
  · obtain ⟨t, c, cs, rfl, T, q⟩ := h
    refine ⟨_, (pss_cons (ps_set (i := 1) sc_law_char.nd rfl (Or.inl rfl) pe_str)
        (pss_cons (ps_set (i := 1) sc_law_char.nd rfl (Or.inl rfl) (pe_op op_add_str (pv 1) pe_str))
        (pss_cons (ps_if (pt_cmpR op_eq (pe_call c_law_take.G (hr.mono (by decide)) (by rfl) c_law_take.m c_law_take.kp c_law_take.b .nil pass0 (pa_cons (pv 0) (pa_cons pe_int pa_nil))) pe_int (nomark _)) (pss_one (ps_ret (pe_ix ix_str (pv 1) (pe_call c_law_take.G (hr.mono (by decide)) (by rfl) c_law_take.m c_law_take.kp c_law_take.b .nil pass0 (pa_cons (pv 0) (pa_cons pe_int pa_nil))) (fun _ _ => rfl)))) pss_nil)
        (pss_one (ps_ret (pe_ix ix_str pe_str (pe_call c_law_take.G (hr.mono (by decide)) (by rfl) c_law_take.m c_law_take.kp c_law_take.b .nil pass0 (pa_cons (pv 0) (pa_cons pe_int pa_nil))) (fun _ _ => rfl))))))), ?_⟩
    refine ⟨_, rfl, _, _, rfl, rfl, (by decide +kernel), ?_⟩
    refine ⟨_, rfl, t, c, cs, 3, rfl, T, by decide, by decide +kernel, fun d H1 d0 d1 T1 s1 => ⟨rfl, _, rfl, ?_⟩⟩
    refine ite2 (fun _ => ?_) (fun _ => ?_)
    · refine ⟨_, rfl, _, rfl, t, c, cs, 94, rfl, T1, by decide, by decide +kernel, fun e H2 e0 e1 T2 s2 => ?_⟩
      obtain ⟨ch, h1, h2⟩ := at_in (xs := ((" !\"#$&'()*+,-./0123456789:;<=>?@ABCDEFGHIJKLMNOPQRSTUVWXYZ[\\]^" : Str) ++ ("_`abcdefghijklmnopqrstuvwxyz{|}~" : Str)).cps.toList) e0 (by rw [chars_len]; exact e1)
      exact ⟨_, _, _, rfl, rfl, (by decide +kernel), h1, q _ H2 ⟨ch, chars_ok _ h2, rfl⟩ T2 (s1.trans s2)⟩
    · refine ⟨_, rfl, t, c, cs, 6, rfl, T1, by decide, by decide +kernel, fun e H2 e0 e1 T2 s2 => ?_⟩
      obtain ⟨ch, h1, h2⟩ := at_in (xs := ("ab -07" : Str).cps.toList) e0 (by rw [few_len]; exact e1)
      exact ⟨_, _, _, rfl, rfl, (by decide +kernel), h1, q _ H2 ⟨ch, few_ok _ h2, rfl⟩ T2 (s1.trans s2)⟩)
theorem ok_law_text {f : Addr} {fd : FuncData} (k : Kn K mg "_law_text" s_law_text ["tape"] f fd) (z : Z mg)
    {g_law_take : Addr} {gd_law_take : FuncData} (c_law_take : Cal P w K mg base 1 "_law_take" ["tape", "many"] (spTake) g_law_take gd_law_take)
    {g_law_char : Addr} {gd_law_char : FuncData} (c_law_char : Cal P w K mg base 2 "_law_char" ["tape"] (spDraw isChar) g_law_char gd_law_char) :
    Cal P w K mg base 3 "_law_text" ["tape"] (spDraw (isText 30)) f fd := k.cal (by
  refine k.F.ok sc_law_text (fun vs H Q E h => ?_) (fun cdv A outer s H vs Q E hr h => ?_)
  · obtain ⟨t, c, cs, rfl, _⟩ := h; rfl
  · obtain ⟨t, c, cs, rfl, T, q⟩ := h
    have ht : ∃ o, H t = some o := by obtain ⟨_, _, _, _, e, _⟩ := T.dk; exact ⟨_, e⟩
    refine ⟨_, (pss_cons (ps_set (i := 1) sc_law_text.nd rfl (Or.inl rfl) (pe_call c_law_take.G (hr.mono (by decide)) (by rfl) c_law_take.m c_law_take.kp c_law_take.b .nil pass0 (pa_cons (pv 0) (pa_cons pe_int pa_nil))))
        (pss_cut (ps_if (pt_cmpR op_eq (pe_call c_law_take.G (hr.mono (by decide)) (by rfl) c_law_take.m c_law_take.kp c_law_take.b .nil pass0 (pa_cons (pv 0) (pa_cons pe_int pa_nil))) pe_int (nomark _)) (pss_one (ps_set (i := 1) sc_law_text.nd rfl (Or.inl rfl) (pe_op op_add pe_int (pe_call c_law_take.G (hr.mono (by decide)) (by rfl) c_law_take.m c_law_take.kp c_law_take.b .nil pass0 (pa_cons (pv 0) (pa_cons pe_int pa_nil)))))) pss_nil)
        (pss_one (ps_ret (pe_join pe_str (pe_lc (own := [("k", 2)]) (g := gName 2) (tt := tYes) (by rfl) sc_law_text.nd (pi_range1 (by rfl) z.range (pa_cons (pv 1) pa_nil)) (blkOk_by (own := [("k", 2)]) (N := ["tape", "size", "k"]) (sc := defScope s_law_text) (by decide +kernel)) (fun _ _ _ _ _ => pg_name (i := 2) sc_law_text.nd rfl (Or.inl rfl)) (fun _ _ _ _ _ => pts_nil) (fun _ _ _ _ _ => (pe_call c_law_char.G (hr.mono (by decide)) (by rfl) c_law_char.m c_law_char.kp c_law_char.b .nil pass0 (pa_cons (pv 0) pa_nil))))))))), ?_⟩
    refine ⟨_, rfl, t, c, cs, 6, rfl, T, by decide, by decide +kernel, fun d H1 d0 d1 T1 s1 => ?_⟩
    refine ⟨fun σ H' => ∃ n : Int, σ = [some (.ref t), some (.int n), none] ∧ 0 ≤ n ∧ n ≤ 30 ∧ TapeAt H' t c cs ∧ SameX t H H', ?_, ?_⟩
    · refine ⟨_, rfl, t, c, cs, 12, rfl, T1, by decide, by decide +kernel, fun e H2 e0 e1 T2 s2 => ⟨rfl, _, rfl, ?_⟩⟩
      refine ite2 (fun _ => ?_) (fun _ => ?_)
      · refine ⟨_, rfl, t, c, cs, 6, rfl, T2, by decide, by decide +kernel, fun g H3 g0 g1 T3 s3 => ⟨_, _, rfl, rfl, _, rfl, by omega, by omega, T3, s1.trans (s2.trans s3)⟩⟩
      · exact ⟨d, rfl, d0, by omega, T2, s1.trans s2⟩
    · rintro σ H2 ⟨n, rfl, n0, n1, T2, s2⟩
      refine ⟨⟨_, rfl⟩, _, rfl, n, rfl, by omega, by omega, fun D hD => lc_range (lo := 0) (n := n.toNat) (fun i H' => ∃ chs : List Nat, H' D = some (.lst ((chs.map one).map V.str)) ∧ chs.length = i ∧ (∀ x ∈ chs, chOk x) ∧ TapeAt H' t c cs ∧ SameX t H H' ∧ (∀ b o, H2 b = some o → b ≠ t → H' b = some o)) ?_ ?_ ?_⟩
      · exact ⟨[], upd_same, rfl, (by intro x hx; cases hx), T2.mono (same_new hD _), s2.trans (SameX.of (same_new hD _)), fun b o e _ => same_new hD _ b o e⟩
      · rintro i H3 hi ⟨chs, hc, hl, hn, T3, s3, s3'⟩
        have hDt : D ≠ t := by
          obtain ⟨_, _, _, _, e, _⟩ := T2.dk
          intro z; subst z; rw [hD] at e; cases e
        refine ⟨rfl, _, rfl, t, c, cs, rfl, T3, fun v H4 ⟨ch, hch, e⟩ T4 s4 => ?_⟩
        subst e
        refine ⟨_, s4 _ _ hc hDt, (by rw [List.length_map, List.length_map]; exact small1000 (by omega)), chs ++ [ch], ?_, by simp [hl], ?_, ?_, ?_, ?_⟩
        · rw [upd_same, List.map_append, List.map_append]; rfl
        · intro y hy
          rcases List.mem_append.mp hy with hy | hy
          · exact hn y hy
          · rw [List.mem_singleton.mp hy]; exact hch
        · obtain ⟨a, l, s, m, h1, h2, h3⟩ := T4.dk
          have hDc : c ≠ D := by
            intro z; subst z
            have h5 := T2.ls
            rw [hD] at h5; cases h5
          exact ⟨⟨a, l, s, m, by rw [upd_ne hDt.symm]; exact h1, h2, h3⟩, by rw [upd_ne hDc]; exact T4.ls, T4.nn⟩
        · intro b o e ne
          have hb : b ≠ D := by
            intro z; subst z
            have := s2 _ _ e ne
            rw [hD] at this; cases this
          rw [upd_ne hb]; exact s4 _ _ (s3 _ _ e ne) ne
        · intro b o e ne
          rw [upd_ne (ne_of_none e hD)]; exact s4 _ _ (s3' _ _ e ne) ne
      · rintro H3 ⟨chs, hc, hl, hn, T3, s3, _⟩
        have hsum : ((chs.map one).map (·.length)).sum + (chs.map one).length * ("" : Str).length ≤ 16777216 := by
          have e0 : ("" : Str).length = 0 := by decide +kernel
          rw [sum_ones, e0, Nat.mul_zero]; omega
        refine ⟨_, D, _, rfl, rfl, .inl (SqL.of hc), hsum, ?_⟩
        exact q _ H3 ⟨_, by rw [len_joined]; omega, by rw [tl_joined]; exact hn, rfl⟩ T3 s3)
theorem ok_law_spoil {f : Addr} {fd : FuncData} (k : Kn K mg "_law_spoil" s_law_spoil ["tape", "condition", "columns", "used"] f fd) (z : Z mg)
    {g_law_take : Addr} {gd_law_take : FuncData} (c_law_take : Cal P w K mg base 1 "_law_take" ["tape", "many"] (spTake) g_law_take gd_law_take)
    {g_law_name : Addr} {gd_law_name : FuncData} (c_law_name : Cal P w K mg base 2 "_law_name" ["tape", "used"] (spName) g_law_name gd_law_name)
    {g_law_integer : Addr} {gd_law_integer : FuncData} (c_law_integer : Cal P w K mg base 2 "_law_integer" ["tape"] (spDraw (isInt (-999999999) 999999999)) g_law_integer gd_law_integer)
    {g_law_text : Addr} {gd_law_text : FuncData} (c_law_text : Cal P w K mg base 3 "_law_text" ["tape"] (spDraw (isText 30)) g_law_text gd_law_text) :
    Cal P w K mg base 4 "_law_spoil" ["tape", "condition", "columns", "used"] (spSpoil) f fd := k.cal (by
  refine k.F.ok sc_law_spoil (fun vs H Q E h => ?_) (fun cdv A outer s H vs Q E hr h => ?_)
  · obtain ⟨t, tc, u, c, L, cs, us, cond, rfl, _⟩ := h; rfl
  · obtain ⟨t, tc, u, c, L, cs, us, cond, rfl, T, hC, hl1, hl2, hg, hu0, hut, hlu, q⟩ := h
    refine ⟨_, (pss_cons (ps_set (i := 4) sc_law_spoil.nd rfl (Or.inl rfl) (pe_lst pa_nil))
        (pss_cons (ps_for PassesOwn.never rfl (pi_range1 (by rfl) z.range (pa_cons (pe_callB call_len_seq (by rfl) z.len (by decide +kernel) (pa_cons (pv 1) pa_nil)) pa_nil)) (pg_name (i := 5) sc_law_spoil.nd rfl (Or.inl rfl))
        (pss_one (ps_for PassesOwn.never rfl (pi_range1 (by rfl) z.range (pa_cons (pe_callB call_len_seq (by rfl) z.len (by decide +kernel) (pa_cons (pe_ix ix_tup (pv 1) (pv 5) (fun _ _ => rfl)) pa_nil)) pa_nil)) (pg_name (i := 6) sc_law_spoil.nd rfl (Or.inl rfl))
        (pss_one (ps_expr (pe_bm PySem.F.plainAttrs_list PySem.F.slot_list_append PySem.F.type_list_append mt_append (pv 4) (pa_cons (pe_tup (pa_cons (pv 5) (pa_cons (pv 6) pa_nil))) pa_nil)))))))
        (pss_cons (ps_set (i := 7) sc_law_spoil.nd rfl (Or.inl rfl) (pe_call c_law_take.G (hr.mono (by decide)) (by rfl) c_law_take.m c_law_take.kp c_law_take.b .nil pass0 (pa_cons (pv 0) (pa_cons pe_int pa_nil))))
        (pss_cons (ps_if (PW.pt (pw_or (pt_cmpR (op_eqD hr.units) (pv 4) (pe_lst pa_nil) (nomark _)) (pw_or1 (pt_cmpR op_eq (pv 7) pe_int (nomark _))))) (pss_one (ps_ret (pv 1))) pss_nil)
        (pss_cons (ps_asg (pe_ix ix_list (pv 4) (pe_call c_law_take.G (hr.mono (by decide)) (by rfl) c_law_take.m c_law_take.kp c_law_take.b .nil pass0 (pa_cons (pv 0) (pa_cons (pe_callB call_len_seq (by rfl) z.len (by decide +kernel) (pa_cons (pv 4) pa_nil)) pa_nil))) (fun _ _ => rfl)) (pg_tup (by rfl) (pgs_cons (pg_name (i := 5) sc_law_spoil.nd rfl (Or.inl rfl)) (pgs_cons (pg_name (i := 6) sc_law_spoil.nd rfl (Or.inl rfl)) pgs_nil))))
        (pss_cons (ps_set (i := 8) sc_law_spoil.nd rfl (Or.inl rfl) (pe_ix ix_tup (pe_ix ix_tup (pv 1) (pv 5) (fun _ _ => rfl)) (pv 6) (fun _ _ => rfl)))
        (pss_cons (ps_set (i := 9) sc_law_spoil.nd rfl (Or.inl rfl) (pe_call c_law_name.G (hr.mono (by decide)) (by rfl) c_law_name.m c_law_name.kp c_law_name.b .nil pass0 (pa_cons (pv 0) (pa_cons (pv 3) pa_nil))))
        (pss_cut (ps_if (pt_cmpR op_eq (pv 7) pe_int (nomark _)) (pss_one (ps_set (i := 8) sc_law_spoil.nd rfl (Or.inl rfl) (pe_tup (pa_cons (pv 9) (pa_cons (pe_ix ix_tup (pv 8) pe_int (fun _ _ => rfl)) (pa_cons (pe_ix ix_tup (pv 8) pe_int (fun _ _ => rfl)) pa_nil)))))) (pss_one (ps_if (pt_val (pe_callB call_isi (by rfl) z.isinstance (by decide +kernel) (pa_cons (pe_ix ix_tup (pv 8) pe_int (fun _ _ => rfl)) (pa_cons (pe_bltn (v := .ty "str") (u := .type "str") (by rfl) z.str (by decide +kernel) rfl) pa_nil)))) (pss_one (ps_set (i := 8) sc_law_spoil.nd rfl (Or.inl rfl) (pe_tup (pa_cons (pe_ix ix_tup (pv 8) pe_int (fun _ _ => rfl)) (pa_cons (pe_ix ix_tup (pv 8) pe_int (fun _ _ => rfl)) (pa_cons (pe_call c_law_integer.G (hr.mono (by decide)) (by rfl) c_law_integer.m c_law_integer.kp c_law_integer.b .nil pass0 (pa_cons (pv 0) pa_nil)) pa_nil)))))) (pss_one (ps_if (pt_cmpR op_notN (pe_ix ix_tup (pv 8) pe_int (fun _ _ => rfl)) pe_non (nomark _)) (pss_one (ps_set (i := 8) sc_law_spoil.nd rfl (Or.inl rfl) (pe_tup (pa_cons (pe_ix ix_tup (pv 8) pe_int (fun _ _ => rfl)) (pa_cons (pe_ix ix_tup (pv 8) pe_int (fun _ _ => rfl)) (pa_cons (pe_call c_law_text.G (hr.mono (by decide)) (by rfl) c_law_text.m c_law_text.kp c_law_text.b .nil pass0 (pa_cons (pv 0) pa_nil)) pa_nil)))))) pss_nil)))))
        (pss_cons (ps_set (i := 10) sc_law_spoil.nd rfl (Or.inl rfl) (pe_op op_catA (pe_op op_catA (pe_slice sl_tupA (pe_ix ix_tup (pv 1) (pv 5) (fun _ _ => rfl)) po_none (po_some (pv 6))) (pe_tup (pa_cons (pv 8) pa_nil))) (pe_slice sl_tupA (pe_ix ix_tup (pv 1) (pv 5) (fun _ _ => rfl)) (po_some (pe_op op_add (pv 6) pe_int)) po_none)))
        (pss_one (ps_ret (pe_op op_catA (pe_op op_catA (pe_slice sl_tupA (pv 1) po_none (po_some (pv 5))) (pe_tup (pa_cons (pv 10) pa_nil))) (pe_slice sl_tupA (pv 1) (po_some (pe_op op_add (pv 5) pe_int)) po_none))))))))))))), ?_⟩
    have hC0 := hC
    obtain ⟨c', ys, e, hc, rc⟩ := t_at hC
    cases e
    have hy : ys.length = cond.length := by rw [rc.length, List.length_map]
    have ct : c ≠ t := by obtain ⟨_, _, _, _, e, _⟩ := T.dk; exact ne_of hc e (by intro z; cases z)
    have ut : u ≠ t := T.notL hu0
    refine ⟨(by show 0 ≤ sizeLine; decide), fun Pl hP => ?_⟩
    have fP := T.fresh hP
    have alts : ∀ {i : Nat}, i < cond.length → ∃ al ws, ys[i]? = some (.ref al) ∧ H al = some (.tup ws) ∧ TpL H ws (cond[i]!.map clD) ∧ ws.length = cond[i]!.length ∧ cond[i]? = some cond[i]! := by
      intro i hil
      have ec : cond[i]? = some cond[i] := List.getElem?_eq_getElem hil
      have eb : cond[i]! = cond[i] := getElem!_pos cond i hil
      obtain ⟨v, g1, g2⟩ := rc.get' (i := i) (d := altD cond[i]) (by rw [List.getElem?_map, ec]; rfl)
      obtain ⟨al, ws, rfl, ha, ra⟩ := t_at g2
      rw [eb]
      exact ⟨al, ws, g1, ha, ra, by rw [ra.length, List.length_map], ec⟩
    refine ⟨_, rfl, c, _, rfl, .inr (SqT.of (same_new hP _ _ _ hc)), _, rfl, (by omega), (by omega), for_range (lo := 0) (n := ys.length) (fun i σ H' => ∃ v5 v6 xs, ∃ ps : List (Nat × Nat), σ = [some (.ref t), some (.ref c), some (.ref L), some (.ref u), some (.ref Pl), v5, v6, none, none, none, none] ∧ H' Pl = some (.lst xs) ∧ TpL H' xs (ps.map prD) ∧ ps.length ≤ 4 * i ∧ (∀ p ∈ ps, p.1 < cond.length ∧ p.2 < cond[p.1]!.length) ∧ Same H H') ⟨_, _, [], [], rfl, upd_same, .nil, Nat.zero_le _, (by intro p hp; cases hp), same_new hP _⟩ ?_ ?_⟩
    · rintro i σ H1 hi ⟨v5, v6, xs, ps, rfl, P1, r1, l1, k1, s1⟩
      obtain ⟨al, ws, g1, ha, ra, hw, ec⟩ := alts (i := i) (by omega)
      have hm4 := hl2 _ (List.mem_of_getElem? ec)
      refine ⟨_, rfl, _, rfl, c, _, _, _, rfl, rfl, SqT.of (s1 _ _ hc), at_ofN (j := i) (by omega) g1, al, _, rfl, .inr (SqT.of (s1 _ _ ha)), _, rfl, (by omega), (by omega), for_range (lo := 0) (n := ws.length) (fun j σ H' => ∃ v6 xs, ∃ ps : List (Nat × Nat), σ = [some (.ref t), some (.ref c), some (.ref L), some (.ref u), some (.ref Pl), some (.int (0 + (i : Int))), v6, none, none, none, none] ∧ H' Pl = some (.lst xs) ∧ TpL H' xs (ps.map prD) ∧ ps.length ≤ 4 * i + j ∧ (∀ p ∈ ps, p.1 < cond.length ∧ p.2 < cond[p.1]!.length) ∧ Same H H') ⟨_, xs, ps, rfl, P1, r1, l1, k1, s1⟩ ?_ ?_⟩
      · rintro j σ H2 hj ⟨v6, xs, ps, rfl, P2, r2, l2, k2, s2⟩
        refine ⟨_, rfl, .inl ⟨rfl, _, SqL.of P2⟩, _, rfl, _, rfl, (by show 2 ≤ sizeLine; decide), fun p hp => ?_⟩
        have e3 := same_new hp (.tup [.int (0 + (i : Int)), .int (0 + (j : Int))])
        have P3 := e3 _ _ P2
        refine ⟨Pl, xs, _, rfl, rfl, P3, (by rw [r2.length, List.length_map]; exact small1000 (by omega)), ?_⟩
        have ku : KeepT (upd H2 p (.tup [.int (0 + (i : Int)), .int (0 + (j : Int))])) (upd (upd H2 p (.tup [.int (0 + (i : Int)), .int (0 + (j : Int))])) Pl (.lst (xs ++ [.ref p]))) := KeepT.upd (fun zs z => by rw [P3] at z; cases z)
        refine ⟨_, xs ++ [.ref p], ps ++ [(i, j)], rfl, upd_same, ?_, by rw [List.length_append, List.length_singleton]; omega, ?_, same_upd hP _ (s2.trans e3)⟩
        · rw [List.map_append]
          refine TpL.snoc ((r2.mono (KeepT.of e3)).mono ku) (.t (ku _ _ upd_same) ?_)
          rw [Int.zero_add, Int.zero_add]
          exact .cons (.s rfl) (.cons (.s rfl) .nil)
        · intro x hx
          rcases List.mem_append.mp hx with hx | hx
          · exact k2 x hx
          · rw [List.mem_singleton.mp hx]
            exact ⟨by omega, by show j < cond[i]!.length; omega⟩
      · rintro σ H2 ⟨v6, xs, ps, rfl, P2, r2, l2, k2, s2⟩
        exact ⟨_, _, xs, ps, rfl, P2, r2, by omega, k2, s2⟩
    rintro σ H1 ⟨v5, v6, xs, ps, rfl, P1, r1, l1, k1, s1⟩
    have T1 := T.mono s1
    have lx : xs.length = ps.length := by rw [r1.length, List.length_map]
    refine ⟨_, rfl, t, tc, cs, 3, rfl, T1, by decide, by decide +kernel, fun d H2 d0 d1 T2 s2 => ?_⟩
    have P2 := s2 _ _ P1 fP.1
    have r2 := r1.mono (KeepT.ofX T1 s2)
    have hc2 := s2 _ _ (s1 _ _ hc) ct
    have hu2 := s2 _ _ (s1 _ _ hu0) ut
    have S2 : SameX t H H2 := (SameX.of s1).trans s2
    have back : ∀ H', SameX t H H' → TapeAt H' t tc cs → Q (.ref c) H' := fun H' S T' =>
      q c cond us H' (hC0.mono (KeepT.ofX T S)) hl1 hl2 hg (Nat.le_succ _) (S _ _ hu0 ut) T' (SameXY.ofX S)
    refine ⟨_, rfl, (by show 0 ≤ sizeLine; decide), fun pe hpe => ?_⟩
    have e3 := same_new hpe (.lst [])
    have T3 := T2.mono e3
    refine ⟨.list (ps.map prP), .list [], .lst (SqL.of (e3 _ _ P2)) (pr_dp (r2.mono (KeepT.of e3))), .lst (SqL.of upd_same) .nil, pr_shaped _, rfl, _, rfl, ?_⟩
    rw [pr_eqv]
    refine ite2 (fun he => ⟨_, rfl, back _ (S2.trans (SameX.of e3)) T3⟩) (fun he => ?_)
    refine ⟨_, rfl, rfl, _, rfl, ?_⟩
    refine ifD (fun _ => ⟨_, rfl, back _ (S2.trans (SameX.of e3)) T3⟩) (fun hd0 => ?_)
    have hpos : 0 < ps.length := by
      cases ps with
      | nil => exact absurd rfl he
      | cons p r => exact Nat.succ_pos _
    refine ⟨_, rfl, _, rfl, _, rfl, Pl, _, rfl, .inl (SqL.of (e3 _ _ P2)), t, tc, cs, (xs.length : Int), rfl, T3, by omega, ?_, fun g H4 g0 g1 T4 s4 => ?_⟩
    · have b9 : (2 : Nat) ^ 9000 = 2 ^ 7 * 2 ^ 8993 := by rw [← Nat.pow_add]
      have b8 : 0 < (2 : Nat) ^ 8993 := Nat.pow_pos (by decide)
      rw [b9]
      have : ((xs.length : Int)).natAbs = xs.length := by omega
      omega
    have S4 : SameX t H H4 := S2.trans ((SameX.of e3).trans s4)
    have P4 := s4 _ _ (e3 _ _ P2) fP.1
    have r4 := (r2.mono (KeepT.of e3)).mono (KeepT.ofX T3 s4)
    have hgl : g.toNat < xs.length := by omega
    obtain ⟨dd, g2, g3⟩ := r4.get (List.getElem?_eq_getElem hgl)
    rw [List.getElem?_map, List.getElem?_eq_getElem (by omega)] at g2
    cases g2
    have hps := k1 _ (List.getElem_mem (show g.toNat < ps.length by omega))
    generalize ps[g.toNat] = kj at g3 hps
    obtain ⟨k, j⟩ := kj
    obtain ⟨pa, epa, hpa⟩ := pr_at g3
    have hk : k < cond.length := hps.1
    have hj : j < cond[k]!.length := hps.2
    obtain ⟨al, ws, a1, ha, ra, hw, ec⟩ := alts hk
    have alt_ : al ≠ t := by obtain ⟨_, _, _, _, e, _⟩ := T.dk; exact ne_of ha e (by intro z; cases z)
    have hm4 := hl2 _ (List.mem_of_getElem? ec)
    have hgk := hg _ (List.mem_of_getElem? ec)
    generalize hA : cond[k]! = alt at *
    refine ⟨Pl, _, g, _, rfl, rfl, SqL.of P4, at_of (j := g.toNat) (by omega) (List.getElem?_eq_getElem hgl), ?_⟩
    rw [epa]
    refine ⟨pa, _, rfl, SqT.of hpa, rfl, _, _, rfl, _, _, rfl, rfl, ?_⟩
    have hc4 := S4 _ _ hc ct
    have ha4 := S4 _ _ ha alt_
    have ej : alt[j]? = some alt[j] := List.getElem?_eq_getElem hj
    obtain ⟨v, g5, g6⟩ := ra.get' (i := j) (d := clD alt[j]) (by rw [List.getElem?_map, ej]; rfl)
    have hgj := hgk alt[j] (List.getElem_mem hj)
    generalize alt[j] = cl at *
    obtain ⟨ca, rfl, hca, hsc⟩ := cl_at g6
    have cat : ca ≠ t := by obtain ⟨_, _, _, _, e, _⟩ := T.dk; exact ne_of hca e (by intro z; cases z)
    refine ⟨_, rfl, _, rfl, c, _, (k : Int), _, rfl, rfl, SqT.of hc4, at_ofN (j := k) rfl a1, _, rfl, al, _, (j : Int), _, rfl, rfl, SqT.of ha4, at_ofN (j := j) rfl g5, ?_⟩
    refine ⟨_, rfl, _, rfl, t, tc, u, cs, us, rfl, T4, S4 _ _ hu0 ut, hut, by omega, fun zn H5 nk nf T5 hu5 s5 => ?_⟩
    have K5 : KeepT H H5 := (KeepT.ofX T S4).trans (KeepT.ofXY T4 (S4 _ _ hu0 ut) s5)
    have hca5 := K5 _ _ hca
    have i0 : atI [V.str cl.n, V.str cl.op, cl.v] 0 = some (V.str cl.n) := atI_nat (j := 0) rfl
    have i1 : atI [V.str cl.n, V.str cl.op, cl.v] 1 = some (V.str cl.op) := atI_nat (j := 1) rfl
    have i2 : atI [V.str cl.n, V.str cl.op, cl.v] 2 = some cl.v := atI_nat (j := 2) rfl
    refine ⟨fun σ' H' => ∃ (a' : Addr) (cl' : Cl), σ' = [some (.ref t), some (.ref c), some (.ref L), some (.ref u), some (.ref Pl), some (.int (k : Int)), some (.int (j : Int)), some (.int d), some (.ref a'), some (.str zn), none] ∧ Tp H' (.ref a') (clD cl') ∧ ClG cl' ∧ cl'.n ∈ us ++ [zn] ∧ KeepT H H' ∧ TapeAt H' t tc cs ∧ H' u = some (.lst ((us ++ [zn]).map V.str)) ∧ SameXY t u H H', ?_, ?_⟩
    · have S5 : SameXY t u H H5 := (SameXY.ofX S4).trans s5
      refine ⟨_, rfl, rfl, _, rfl, ?_⟩
      refine ifD (fun _ => ?_) (fun _ => ?_)
      · refine ⟨_, rfl, _, rfl, ca, _, 1, _, rfl, rfl, SqT.of hca5, i1, _, rfl, ca, _, 2, _, rfl, rfl, SqT.of hca5, i2, (by show 3 ≤ sizeLine; decide), fun p hp => ?_⟩
        have e6 := same_new hp (.tup [.str zn, .str cl.op, cl.v])
        exact ⟨p, ⟨zn, cl.op, cl.v⟩, rfl, cl_mk upd_same hsc, hgj.1, by simp, K5.trans (KeepT.of e6), T5.mono e6, e6 _ _ hu5, S5.trans (SameXY.of e6)⟩
      · have hn' : cl.n ∈ us ++ [zn] := List.mem_append.mpr (.inl hgj.2)
        have made : ∀ (H6 : Hp) (w : V) (p : Addr), isScal w = true → (ClG ⟨cl.n, cl.op, w⟩) → SameX t H5 H6 → TapeAt H6 t tc cs → H6 p = none → ∃ (a' : Addr) (cl' : Cl), [some (V.ref t), some (V.ref c), some (V.ref L), some (V.ref u), some (V.ref Pl), some (V.int (k : Int)), some (V.int (j : Int)), some (V.int d), some (V.ref p), some (V.str zn), none] = [some (V.ref t), some (V.ref c), some (V.ref L), some (V.ref u), some (V.ref Pl), some (V.int (k : Int)), some (V.int (j : Int)), some (V.int d), some (V.ref a'), some (V.str zn), none] ∧ Tp (upd H6 p (.tup [.str cl.n, .str cl.op, w])) (.ref a') (clD cl') ∧ ClG cl' ∧ cl'.n ∈ us ++ [zn] ∧ KeepT H (upd H6 p (.tup [.str cl.n, .str cl.op, w])) ∧ TapeAt (upd H6 p (.tup [.str cl.n, .str cl.op, w])) t tc cs ∧ (upd H6 p (.tup [.str cl.n, .str cl.op, w])) u = some (.lst ((us ++ [zn]).map V.str)) ∧ SameXY t u H (upd H6 p (.tup [.str cl.n, .str cl.op, w])) := by
          intro H6 w p hw gw s6 T6 hp
          have e6 := same_new hp (.tup [.str cl.n, .str cl.op, w])
          exact ⟨p, ⟨cl.n, cl.op, w⟩, rfl, cl_mk upd_same hw, gw, hn', (K5.trans (KeepT.ofX T5 s6)).trans (KeepT.of e6), T6.mono e6, e6 _ _ (s6 _ _ hu5 ut), (S5.trans (SameXY.ofX s6)).trans (SameXY.of e6)⟩
        have keep : ∃ (a' : Addr) (cl' : Cl), [some (V.ref t), some (V.ref c), some (V.ref L), some (V.ref u), some (V.ref Pl), some (V.int (k : Int)), some (V.int (j : Int)), some (V.int d), some (V.ref ca), some (V.str zn), none] = [some (V.ref t), some (V.ref c), some (V.ref L), some (V.ref u), some (V.ref Pl), some (V.int (k : Int)), some (V.int (j : Int)), some (V.int d), some (V.ref a'), some (V.str zn), none] ∧ Tp H5 (.ref a') (clD cl') ∧ ClG cl' ∧ cl'.n ∈ us ++ [zn] ∧ KeepT H H5 ∧ TapeAt H5 t tc cs ∧ H5 u = some (.lst ((us ++ [zn]).map V.str)) ∧ SameXY t u H H5 :=
          ⟨ca, cl, rfl, cl_mk hca5 hsc, hgj.1, hn', K5, T5, hu5, S5⟩
        refine ⟨_, rfl, ca, _, 2, _, rfl, rfl, SqT.of hca5, i2, ?_⟩
        have hgv := hgj.1
        rcases hgv with e | ⟨i', e, _⟩ | ⟨y, e, _⟩
        · rw [e] at i2 ⊢
          refine ⟨_, _, _, _, false, rfl, .ty _, .base .non, kit_ty (by decide +kernel), _, rfl, ?_⟩
          refine ⟨_, rfl, ca, _, 2, _, rfl, rfl, SqT.of (e ▸ hca5), i2, rfl, _, rfl, ?_⟩
          exact iteNS rfl keep
        · rw [e] at i2 ⊢
          refine ⟨_, _, _, _, false, rfl, .ty _, .base (.int _), kit_ty (by decide +kernel), _, rfl, ?_⟩
          have hca5' : H5 ca = some (.tup [.str cl.n, .str cl.op, .int i']) := e ▸ hca5
          refine ⟨_, rfl, ca, _, 2, _, rfl, rfl, SqT.of hca5', i2, rfl, _, rfl, ?_⟩
          refine iteNF (fun z => nomatch z) ?_
          refine ⟨_, rfl, ca, _, 0, _, rfl, rfl, SqT.of hca5', atI_nat (j := 0) rfl, _, rfl, ca, _, 1, _, rfl, rfl, SqT.of hca5', atI_nat (j := 1) rfl, _, rfl, t, tc, cs, rfl, T5, fun w H6 hw T6 s6 => ?_⟩
          obtain ⟨x, hx, hxo, rfl⟩ := hw
          exact ⟨(by show 3 ≤ sizeLine; decide), fun p hp => made H6 (.str x) p rfl (.inr (.inr ⟨x, rfl, hx, hxo⟩)) s6 T6 hp⟩
        · rw [e] at i2 ⊢
          refine ⟨_, _, _, _, true, rfl, .ty _, .base (.str _), kit_ty (by decide +kernel), _, rfl, ?_⟩
          have hca5' : H5 ca = some (.tup [.str cl.n, .str cl.op, .str y]) := e ▸ hca5
          refine ⟨_, rfl, ca, _, 0, _, rfl, rfl, SqT.of hca5', atI_nat (j := 0) rfl, _, rfl, ca, _, 1, _, rfl, rfl, SqT.of hca5', atI_nat (j := 1) rfl, _, rfl, t, tc, cs, rfl, T5, fun w H6 hw T6 s6 => ?_⟩
          obtain ⟨x, hx, hxo, rfl⟩ := hw
          exact ⟨(by show 3 ≤ sizeLine; decide), fun p hp => made H6 (.int x) p rfl (.inr (.inl ⟨x, rfl, hx, hxo⟩)) s6 T6 hp⟩
    rintro σ' H6 ⟨a', cl', rfl, t6, g6', n6, K6, T6, hu6, S6⟩
    have hc6 := K6 _ _ hc
    have ha6 := K6 _ _ ha
    have ra6 := ra.mono K6
    have rc6 := rc.mono K6
    have lw : ws.length ≤ 4 := by omega
    refine ⟨_, rfl, _, rfl, c, _, (k : Int), _, rfl, rfl, SqT.of hc6, at_ofN (j := k) rfl a1, _, rfl, _, rfl, cut_any ha6 (fun p1 H7 h7 s7 => ?_)⟩
    rw [cut_front ws j (by omega)] at h7
    refine ⟨_, rfl, (by show 1 ≤ sizeLine; decide), fun p2 hp2 => ?_⟩
    have e8 := same_new hp2 (.tup [.ref a'])
    refine cat_any (e8 _ _ h7) upd_same (by rw [List.length_take]; show _ + 1 ≤ 1000; omega) (fun p3 H9 h9 s9 => ?_)
    have K9 : KeepT H6 H9 := (KeepT.of s7).trans ((KeepT.of e8).trans (KeepT.of s9))
    have S9 : Same H6 H9 := s7.trans (e8.trans s9)
    refine ⟨_, rfl, _, rfl, c, _, (k : Int), _, rfl, rfl, SqT.of (K9 _ _ hc6), at_ofN (j := k) rfl a1, _, rfl, _, _, rfl, rfl, _, rfl, ?_⟩
    dsimp only [tNoPart]
    refine cut_any (K9 _ _ ha6) (fun p4 H10 h10 s10 => ?_)
    rw [cut_back1 ws j (by omega)] at h10
    refine cat_any (s10 _ _ h9) h10 (by rw [List.length_append, List.length_take, List.length_drop]; show _ + 1 + _ ≤ 1000; omega) (fun p5 H11 h11 s11 => ?_)
    have S11 : Same H6 H11 := S9.trans (s10.trans s11)
    have K11 : KeepT H6 H11 := KeepT.of S11
    have n5 : Tp H11 (.ref p5) (altD ((alt.take j ++ [cl']) ++ alt.drop (j + 1))) := by
      refine .t h11 ?_
      rw [List.map_append, List.map_append, List.map_take, List.map_drop]
      exact ((ra6.mono K11).take j |>.app (.cons (t6.mono K11) .nil)).app ((ra6.mono K11).drop (j + 1))
    refine ⟨_, rfl, _, rfl, _, rfl, cut_any (K11 _ _ hc6) (fun p6 H12 h12 s12 => ?_)⟩
    rw [cut_front ys k (by omega)] at h12
    refine ⟨_, rfl, (by show 1 ≤ sizeLine; decide), fun p7 hp7 => ?_⟩
    have e13 := same_new hp7 (.tup [.ref p5])
    refine cat_any (e13 _ _ h12) upd_same (by rw [List.length_take]; show _ + 1 ≤ 1000; omega) (fun p8 H14 h14 s14 => ?_)
    have S14 : Same H11 H14 := s12.trans (e13.trans s14)
    refine ⟨_, rfl, _, rfl, _, _, rfl, rfl, _, rfl, ?_⟩
    dsimp only [tNoPart]
    refine cut_any (S14 _ _ (K11 _ _ hc6)) (fun p9 H15 h15 s15 => ?_)
    rw [cut_back1 ys k (by omega)] at h15
    refine cat_any (s15 _ _ h14) h15 (by rw [List.length_append, List.length_take, List.length_drop]; show _ + 1 + _ ≤ 1000; omega) (fun p10 H16 h16 s16 => ?_)
    have S16 : Same H11 H16 := S14.trans (s15.trans s16)
    have SF : Same H6 H16 := S11.trans S16
    have lalt : ((alt.take j ++ [cl']) ++ alt.drop (j + 1)).length ≤ 4 := by
      rw [List.length_append, List.length_append, List.length_take, List.length_drop, List.length_singleton]; omega
    refine q p10 ((cond.take k ++ [(alt.take j ++ [cl']) ++ alt.drop (j + 1)]) ++ cond.drop (k + 1)) (us ++ [zn]) H16 ?_ ?_ ?_ ?_ (by rw [List.length_append]; exact Nat.le_refl _) (SF _ _ hu6) (T6.mono SF) (S6.trans (SameXY.of SF))
    · refine .t h16 ?_
      rw [List.map_append, List.map_append, List.map_take, List.map_drop]
      have rcF := rc6.mono (KeepT.of SF)
      exact (rcF.take k |>.app (.cons (n5.mono (KeepT.of S16)) .nil)).app (rcF.drop (k + 1))
    · rw [List.length_append, List.length_append, List.length_take, List.length_drop, List.length_singleton]; omega
    · intro x hx
      rcases List.mem_append.mp hx with hx | hx
      · rcases List.mem_append.mp hx with hx | hx
        · exact hl2 x (List.mem_of_mem_take hx)
        · rw [List.mem_singleton.mp hx]; exact lalt
      · exact hl2 x (List.mem_of_mem_drop hx)
    · have lift : ∀ x ∈ cond, ∀ y ∈ x, ClG y ∧ y.n ∈ us ++ [zn] := fun x hx y hy => ⟨(hg x hx y hy).1, List.mem_append.mpr (.inl (hg x hx y hy).2)⟩
      intro x hx
      rcases List.mem_append.mp hx with hx | hx
      · rcases List.mem_append.mp hx with hx | hx
        · exact lift x (List.mem_of_mem_take hx)
        · rw [List.mem_singleton.mp hx]
          intro y hy
          rcases List.mem_append.mp hy with hy | hy
          · rcases List.mem_append.mp hy with hy | hy
            · exact ⟨(hgk y (List.mem_of_mem_take hy)).1, List.mem_append.mpr (.inl (hgk y (List.mem_of_mem_take hy)).2)⟩
            · rw [List.mem_singleton.mp hy]; exact ⟨g6', n6⟩
          · exact ⟨(hgk y (List.mem_of_mem_drop hy)).1, List.mem_append.mpr (.inl (hgk y (List.mem_of_mem_drop hy)).2)⟩
      · exact lift x (List.mem_of_mem_drop hx))
theorem ok_law_value {f : Addr} {fd : FuncData} (k : Kn K mg "_law_value" s_law_value ["tape", "kind", "nullable"] f fd) (z : Z mg)
    {g_law_take : Addr} {gd_law_take : FuncData} (c_law_take : Cal P w K mg base 1 "_law_take" ["tape", "many"] (spTake) g_law_take gd_law_take)
    {g_law_integer : Addr} {gd_law_integer : FuncData} (c_law_integer : Cal P w K mg base 2 "_law_integer" ["tape"] (spDraw (isInt (-999999999) 999999999)) g_law_integer gd_law_integer)
    {g_law_text : Addr} {gd_law_text : FuncData} (c_law_text : Cal P w K mg base 3 "_law_text" ["tape"] (spDraw (isText 30)) g_law_text gd_law_text) :
    Cal P w K mg base 4 "_law_value" ["tape", "kind", "nullable"] (spVal) f fd := k.cal (by
  refine k.F.ok sc_law_value (fun vs H Q E h => ?_) (fun cdv A outer s H vs Q E hr h => ?_)
  · obtain ⟨t, c, cs, kk, b, rfl, _⟩ := h; rfl
  · obtain ⟨t, c, cs, kk, b, rfl, T, q⟩ := h
    refine ⟨_, (pss_cut (ps_if (PW.pt (pw_and (pt_val (pv 2)) (pw_and1 (pt_cmpR op_eq (pe_call c_law_take.G (hr.mono (by decide)) (by rfl) c_law_take.m c_law_take.kp c_law_take.b .nil pass0 (pa_cons (pv 0) (pa_cons pe_int pa_nil))) pe_int (nomark _))))) (pss_one (ps_ret pe_non)) pss_nil)
        (pss_cons (ps_if (pt_cmpR op_eq (pv 1) pe_str (nomark _)) (pss_one (ps_ret (pe_call c_law_integer.G (hr.mono (by decide)) (by rfl) c_law_integer.m c_law_integer.kp c_law_integer.b .nil pass0 (pa_cons (pv 0) pa_nil)))) pss_nil)
        (pss_cons (ps_if (pt_cmpR op_eq (pe_call c_law_take.G (hr.mono (by decide)) (by rfl) c_law_take.m c_law_take.kp c_law_take.b .nil pass0 (pa_cons (pv 0) (pa_cons pe_int pa_nil))) pe_int (nomark _)) (pss_one (ps_ret (pe_op op_add_str (pe_ix ix_list (pe_lst (pa_cons pe_str (pa_cons pe_str (pa_cons pe_str (pa_cons pe_str pa_nil))))) (pe_call c_law_take.G (hr.mono (by decide)) (by rfl) c_law_take.m c_law_take.kp c_law_take.b .nil pass0 (pa_cons (pv 0) (pa_cons pe_int pa_nil))) (fun _ _ => rfl)) (pe_callTy call_str_int (by rfl) z.str (by decide +kernel) (pa_cons (pe_call c_law_integer.G (hr.mono (by decide)) (by rfl) c_law_integer.m c_law_integer.kp c_law_integer.b .nil pass0 (pa_cons (pv 0) pa_nil)) pa_nil))))) pss_nil)
        (pss_one (ps_ret (pe_call c_law_text.G (hr.mono (by decide)) (by rfl) c_law_text.m c_law_text.kp c_law_text.b .nil pass0 (pa_cons (pv 0) pa_nil))))))), ?_⟩
    refine ⟨fun σ' H' => σ' = [some (.ref t), some (.str kk), some (.bl b)] ∧ TapeAt H' t c cs ∧ SameX t H H', ?_, ?_⟩
    · refine ⟨_, rfl, b, rfl, ?_⟩
      cases b with
      | false => exact iteF ⟨rfl, T, SameX.refl _ _⟩
      | true =>
        refine iteT ⟨_, rfl, t, c, cs, 4, rfl, T, by decide, by decide +kernel, fun d H1 d0 d1 T1 s1 => ⟨rfl, _, rfl, ?_⟩⟩
        exact ifD (fun _ => q _ H1 (.inl ⟨rfl, rfl⟩) T1 s1) (fun _ => ⟨rfl, T1, s1⟩)
    rintro σ1 H1 ⟨rfl, T1, s1⟩
    refine ⟨_, rfl, rfl, _, rfl, ?_⟩
    refine ifD (fun hk => ?_) (fun hk => ?_)
    · refine ⟨_, rfl, t, c, cs, rfl, T1, fun v H2 hv T2 s2 => ?_⟩
      obtain ⟨i, i0, i1, rfl⟩ := hv
      exact q _ H2 (.inr (.inl ⟨V.str.inj hk, i, rfl, i0, i1⟩)) T2 (s1.trans s2)
    have hk' : kk ≠ ("int" : Str) := fun z => hk (congrArg V.str z)
    refine ⟨_, rfl, t, c, cs, 3, rfl, T1, by decide, by decide +kernel, fun d H2 d0 d1 T2 s2 => ⟨rfl, _, rfl, ?_⟩⟩
    refine ifD (fun _ => ?_) (fun _ => ?_)
    · refine ⟨(by show 4 ≤ sizeLine; decide), fun L hL => ?_⟩
      refine ⟨_, rfl, t, c, cs, 4, rfl, T2.mono (same_new hL _), by decide, by decide +kernel, fun e H3 e0 e1 T3 s3 => ?_⟩
      obtain ⟨v, h1, h2⟩ := at_in (xs := [V.str ("" : Str), V.str ("0" : Str), V.str ("-" : Str), V.str ("+" : Str)]) e0 (by simpa using e1)
      obtain ⟨y, rfl, hy, hyo⟩ : ∃ y : Str, v = V.str y ∧ y.length ≤ 1 ∧ ∀ c ∈ tl y, chOk c := by
        simp only [List.mem_cons, List.not_mem_nil, or_false] at h2
        rcases h2 with rfl | rfl | rfl | rfl
        · exact ⟨_, rfl, by decide +kernel, by decide +kernel⟩
        · exact ⟨_, rfl, by decide +kernel, by decide +kernel⟩
        · exact ⟨_, rfl, by decide +kernel, by decide +kernel⟩
        · exact ⟨_, rfl, by decide +kernel, by decide +kernel⟩
      refine ⟨L, _, e, _, rfl, rfl, SqL.of (s3 _ _ upd_same (T2.fresh hL).1), h1, ?_⟩
      refine ⟨_, rfl, t, c, cs, rfl, T3, fun v H4 hv T4 s4 => ?_⟩
      obtain ⟨i, i0, i1, rfl⟩ := hv
      obtain ⟨l1, l2⟩ := int_text i0 i1
      refine ⟨i, rfl, log_small i0 i1, _, _, rfl, rfl, Nat.le_of_lt (small1000 (by omega)), ?_⟩
      refine q _ H4 (.inr (.inr ⟨hk', _, rfl, by rw [len_app]; omega, fun ch hch => ?_⟩)) T4 (s1.trans (s2.trans ((SameX.of (same_new hL _)).trans (s3.trans s4))))
      rw [tl_append] at hch
      rcases List.mem_append.mp hch with hch | hch
      · exact hyo _ hch
      · exact digit_ok (l2 _ hch)
    · refine ⟨_, rfl, t, c, cs, rfl, T2, fun v H3 hv T3 s3 => ?_⟩
      obtain ⟨y, y0, y1, rfl⟩ := hv
      exact q _ H3 (.inr (.inr ⟨hk', y, rfl, y0, y1⟩)) T3 (s1.trans (s2.trans s3)))

theorem ops_cases {v : V} (h : v ∈ [V.str ("=" : Str), V.str ("!=" : Str), V.str ("<" : Str), V.str ("<=" : Str), V.str (">" : Str), V.str (">=" : Str), V.str ("null" : Str), V.str ("given" : Str)]) : ∃ o : Str, v = V.str o ∧ PyData.strOk o = true := by
  simp only [List.mem_cons, List.not_mem_nil, or_false] at h
  rcases h with rfl | rfl | rfl | rfl | rfl | rfl | rfl | rfl <;> exact ⟨_, rfl, by decide +kernel⟩
theorem ok_law_clause {f : Addr} {fd : FuncData} (k : Kn K mg "_law_clause" s_law_clause ["tape", "columns"] f fd) (z : Z mg)
    {g_law_take : Addr} {gd_law_take : FuncData} (c_law_take : Cal P w K mg base 1 "_law_take" ["tape", "many"] (spTake) g_law_take gd_law_take)
    {g_law_value : Addr} {gd_law_value : FuncData} (c_law_value : Cal P w K mg base 4 "_law_value" ["tape", "kind", "nullable"] (spVal) g_law_value gd_law_value) :
    Cal P w K mg base 5 "_law_clause" ["tape", "columns"] (spClause) f fd := k.cal (by
  refine k.F.ok sc_law_clause (fun vs H Q E h => ?_) (fun cdv A outer s H vs Q E hr h => ?_)
  · obtain ⟨t, c, L, cs, cols, rfl, _⟩ := h; rfl
  · obtain ⟨t, c, L, cs, cols, rfl, T, C, hp0, hl, q⟩ := h
    refine ⟨_, (pss_cons (ps_set (i := 2) sc_law_clause.nd rfl (Or.inl rfl) (pe_ix ix_list (pv 1) (pe_call c_law_take.G (hr.mono (by decide)) (by rfl) c_law_take.m c_law_take.kp c_law_take.b .nil pass0 (pa_cons (pv 0) (pa_cons (pe_callB call_len_seq (by rfl) z.len (by decide +kernel) (pa_cons (pv 1) pa_nil)) pa_nil))) (fun _ _ => rfl)))
        (pss_cons (ps_set (i := 3) sc_law_clause.nd rfl (Or.inl rfl) (pe_ix ix_list (pe_lst (pa_cons pe_str (pa_cons pe_str (pa_cons pe_str (pa_cons pe_str (pa_cons pe_str (pa_cons pe_str (pa_cons pe_str (pa_cons pe_str pa_nil))))))))) (pe_call c_law_take.G (hr.mono (by decide)) (by rfl) c_law_take.m c_law_take.kp c_law_take.b .nil pass0 (pa_cons (pv 0) (pa_cons pe_int pa_nil))) (fun _ _ => rfl)))
        (pss_cons (ps_if (PW.pt (pw_or (pt_cmpR op_eq (pv 3) pe_str (nomark _)) (pw_or1 (pt_cmpR op_eq (pv 3) pe_str (nomark _))))) (pss_one (ps_ret (pe_tup (pa_cons (pe_ix ix_tup (pv 2) pe_int (fun _ _ => rfl)) (pa_cons (pv 3) (pa_cons pe_non pa_nil)))))) pss_nil)
        (pss_one (ps_ret (pe_tup (pa_cons (pe_ix ix_tup (pv 2) pe_int (fun _ _ => rfl)) (pa_cons (pv 3) (pa_cons (pe_call c_law_value.G (hr.mono (by decide)) (by rfl) c_law_value.m c_law_value.kp c_law_value.b .nil pass0 (pa_cons (pv 0) (pa_cons (pe_ix ix_tup (pv 2) pe_int (fun _ _ => rfl)) (pa_cons pe_bl pa_nil)))) pa_nil))))))))), ?_⟩
    obtain ⟨xs, h1, h2⟩ := id C
    have hx : xs.length = cols.length := by rw [h2.length, List.length_map]
    refine ⟨_, rfl, _, rfl, _, rfl, L, _, rfl, .inl (SqL.of h1), t, c, cs, (xs.length : Int), rfl, T, by omega, ?_, fun d H1 d0 d1 T1 s1 => ?_⟩
    · have b9 : (2 : Nat) ^ 9000 = 2 ^ 7 * 2 ^ 8993 := by rw [← Nat.pow_add]
      have b8 : 0 < (2 : Nat) ^ 8993 := Nat.pow_pos (by decide)
      rw [b9]
      have : ((xs.length : Int)).natAbs = xs.length := by omega
      omega
    have hd : d.toNat < cols.length := by omega
    obtain ⟨xs', a, k1, k2, k3⟩ := C.get (List.getElem?_eq_getElem hd)
    rw [h1] at k1
    cases k1
    have hLt := T.notL h1
    refine ⟨L, _, d, _, rfl, rfl, SqL.of (s1 _ _ h1 hLt), at_of (by omega) k2, ?_⟩
    refine ⟨(by show 8 ≤ sizeLine; decide), fun O hO => ?_⟩
    refine ⟨_, rfl, t, c, cs, 8, rfl, T1.mono (same_new hO _), by decide, by decide +kernel, fun e H2 e0 e1 T2 s2 => ?_⟩
    obtain ⟨v, g1, g2⟩ := at_in (xs := [V.str ("=" : Str), V.str ("!=" : Str), V.str ("<" : Str), V.str ("<=" : Str), V.str (">" : Str), V.str (">=" : Str), V.str ("null" : Str), V.str ("given" : Str)]) e0 (by simpa using e1)
    obtain ⟨op, rfl, hop⟩ := ops_cases g2
    refine ⟨O, _, e, _, rfl, rfl, SqL.of (s2 _ _ upd_same (T1.fresh hO).1), g1, ?_⟩
    have S2 : SameX t H H2 := s1.trans ((SameX.of (same_new hO _)).trans s2)
    have k4 := KeepT.ofX T S2 _ _ k3
    have hc : cols[d.toNat] ∈ cols := List.getElem_mem hd
    refine ⟨_, rfl, rfl, _, rfl, ?_⟩
    refine ifD (fun ho => ?_) (fun ho => ?_)
    · refine ⟨_, rfl, a, _, 0, _, rfl, rfl, SqT.of k4, atI_nat (j := 0) rfl, _, rfl, (by show 3 ≤ sizeLine; decide), fun p hp => ?_⟩
      exact q (.ref p) ⟨cols[d.toNat].n, op, .non⟩ _ (cl_mk upd_same rfl) ⟨hop, _, hc, rfl, .inl ⟨.inl (V.str.inj ho), rfl⟩⟩ (T2.mono (same_new hp _)) (S2.trans (SameX.of (same_new hp _)))
    refine ⟨_, rfl, rfl, _, rfl, ?_⟩
    refine ifD (fun ho2 => ?_) (fun ho2 => ?_)
    · refine ⟨_, rfl, a, _, 0, _, rfl, rfl, SqT.of k4, atI_nat (j := 0) rfl, _, rfl, (by show 3 ≤ sizeLine; decide), fun p hp => ?_⟩
      exact q (.ref p) ⟨cols[d.toNat].n, op, .non⟩ _ (cl_mk upd_same rfl) ⟨hop, _, hc, rfl, .inl ⟨.inr (V.str.inj ho2), rfl⟩⟩ (T2.mono (same_new hp _)) (S2.trans (SameX.of (same_new hp _)))
    · refine ⟨_, rfl, a, _, 0, _, rfl, rfl, SqT.of k4, atI_nat (j := 0) rfl, _, rfl, ?_⟩
      refine ⟨_, rfl, _, rfl, a, _, 1, _, rfl, rfl, SqT.of k4, atI_nat (j := 1) rfl, t, c, cs, _, _, rfl, T2, fun w H3 hw T3 s3 => ?_⟩
      refine ⟨(by show 3 ≤ sizeLine; decide), fun p hp => ?_⟩
      exact q (.ref p) ⟨cols[d.toNat].n, op, w⟩ _ (cl_mk upd_same hw.scal) ⟨hop, _, hc, rfl, .inr ⟨⟨fun z => ho (congrArg V.str z), fun z => ho2 (congrArg V.str z)⟩, hw⟩⟩ (T3.mono (same_new hp _)) (S2.trans (s3.trans (SameX.of (same_new hp _)))))

theorem five_a {d : Int} (d0 : 0 ≤ d) (d1 : d < 5) : ∃ n : Int, atI [V.int 1, V.int 0, V.int 2, V.int 1, V.int 4] d = some (.int n) ∧ 0 ≤ n ∧ n ≤ 4 := by
  obtain ⟨v, h1, h2⟩ := at_in (xs := [V.int 1, V.int 0, V.int 2, V.int 1, V.int 4]) d0 (by simpa using d1)
  simp only [List.mem_cons, List.not_mem_nil, or_false] at h2
  rcases h2 with rfl | rfl | rfl | rfl | rfl <;> exact ⟨_, h1, by decide, by decide⟩
theorem five_b {d : Int} (d0 : 0 ≤ d) (d1 : d < 5) : ∃ n : Int, atI [V.int 1, V.int 2, V.int 0, V.int 1, V.int 4] d = some (.int n) ∧ 0 ≤ n ∧ n ≤ 4 := by
  obtain ⟨v, h1, h2⟩ := at_in (xs := [V.int 1, V.int 2, V.int 0, V.int 1, V.int 4]) d0 (by simpa using d1)
  simp only [List.mem_cons, List.not_mem_nil, or_false] at h2
  rcases h2 with rfl | rfl | rfl | rfl | rfl <;> exact ⟨_, h1, by decide, by decide⟩
theorem ok_law_condition {f : Addr} {fd : FuncData} (k : Kn K mg "_law_condition" s_law_condition ["tape", "columns"] f fd) (z : Z mg)
    {g_law_take : Addr} {gd_law_take : FuncData} (c_law_take : Cal P w K mg base 1 "_law_take" ["tape", "many"] (spTake) g_law_take gd_law_take)
    {g_law_clause : Addr} {gd_law_clause : FuncData} (c_law_clause : Cal P w K mg base 5 "_law_clause" ["tape", "columns"] (spClause) g_law_clause gd_law_clause) :
    Cal P w K mg base 6 "_law_condition" ["tape", "columns"] (spCond) f fd := k.cal (by
  refine k.F.ok sc_law_condition (fun vs H Q E h => ?_) (fun cdv A outer s H vs Q E hr h => ?_)
  · obtain ⟨t, c, L, cs, cols, rfl, _⟩ := h; rfl
  · obtain ⟨t, c, L, cs, cols, rfl, T, C, hp0, hl, q⟩ := h
    refine ⟨_, (pss_cons (ps_set (i := 2) sc_law_condition.nd rfl (Or.inl rfl) (pe_lst pa_nil))
        (pss_cons (ps_for PassesOwn.never rfl (pi_range1 (by rfl) z.range (pa_cons (pe_ix ix_list (pe_lst (pa_cons pe_int (pa_cons pe_int (pa_cons pe_int (pa_cons pe_int (pa_cons pe_int pa_nil)))))) (pe_call c_law_take.G (hr.mono (by decide)) (by rfl) c_law_take.m c_law_take.kp c_law_take.b .nil pass0 (pa_cons (pv 0) (pa_cons pe_int pa_nil))) (fun _ _ => rfl)) pa_nil)) (pg_name (i := 3) sc_law_condition.nd rfl (Or.inl rfl))
        (pss_cons (ps_set (i := 4) sc_law_condition.nd rfl (Or.inl rfl) (pe_ix ix_list (pe_lst (pa_cons pe_int (pa_cons pe_int (pa_cons pe_int (pa_cons pe_int (pa_cons pe_int pa_nil)))))) (pe_call c_law_take.G (hr.mono (by decide)) (by rfl) c_law_take.m c_law_take.kp c_law_take.b .nil pass0 (pa_cons (pv 0) (pa_cons pe_int pa_nil))) (fun _ _ => rfl)))
        (pss_one (ps_expr (pe_bm PySem.F.plainAttrs_list PySem.F.slot_list_append PySem.F.type_list_append mt_append (pv 2) (pa_cons (pe_callTy call_tuple_of (by rfl) z.tuple (by decide +kernel) (pa_cons (pe_lc (own := [("j", 5)]) (g := gName 5) (tt := tYes) (by rfl) sc_law_condition.nd (pi_range1 (by rfl) z.range (pa_cons (pv 4) pa_nil)) (blkOk_by (own := [("j", 5)]) (N := ["tape", "columns", "condition", "k", "many", "j"]) (sc := defScope s_law_condition) (by decide +kernel)) (fun _ _ _ _ _ => pg_name (i := 5) sc_law_condition.nd rfl (Or.inl rfl)) (fun _ _ _ _ _ => pts_nil) (fun _ _ _ _ _ => (pe_call c_law_clause.G (hr.mono (by decide)) (by rfl) c_law_clause.m c_law_clause.kp c_law_clause.b .nil pass0 (pa_cons (pv 0) (pa_cons (pv 1) pa_nil))))) pa_nil)) pa_nil))))))
        (pss_one (ps_ret (pe_callTy call_tuple_of (by rfl) z.tuple (by decide +kernel) (pa_cons (pv 2) pa_nil)))))), ?_⟩
    have hLt : L ≠ t := by obtain ⟨xs, h1, _⟩ := C; exact T.notL h1
    refine ⟨(by show 0 ≤ sizeLine; decide), fun R hR => ?_⟩
    have fR := T.fresh hR
    refine ⟨(by show 5 ≤ sizeLine; decide), fun A1 hA1 => ?_⟩
    have TA := (T.mono (same_new hR (.lst []))).mono (same_new hA1 (.lst [.int 1, .int 0, .int 2, .int 1, .int 4]))
    refine ⟨_, rfl, t, c, cs, 5, rfl, TA, by decide, by decide +kernel, fun d H1 d0 d1 T1 s1 => ?_⟩
    obtain ⟨n, hn, n0, n4⟩ := five_a d0 d1
    have fA := (T.mono (same_new hR (.lst []))).fresh hA1
    have RA : R ≠ A1 := ne_of_none upd_same hA1
    have R1 : H1 R = some (.lst []) := s1 _ _ (by rw [upd_ne RA]; exact upd_same) fR.1
    have S1 : SameX t H H1 := (SameX.of ((same_new hR _).trans (same_new hA1 _))).trans s1
    refine ⟨A1, _, d, _, rfl, rfl, SqL.of (s1 _ _ upd_same fA.1), hn, n, rfl, by omega, by omega, for_range (lo := 0) (n := n.toNat) (fun i σ H' => ∃ v3 v4 v5 xs, ∃ cond : Cond, σ = [some (.ref t), some (.ref L), some (.ref R), v3, v4, v5] ∧ H' R = some (.lst xs) ∧ TpL H' xs (cond.map altD) ∧ cond.length = i ∧ (∀ a ∈ cond, ∀ cl ∈ a, ClOk cols cl) ∧ (∀ a ∈ cond, a.length ≤ 4) ∧ TapeAt H' t c cs ∧ SameX t H H') ⟨none, none, none, [], [], rfl, R1, .nil, rfl, (fun a h => by cases h), (fun a h => by cases h), T1, S1⟩ ?_ ?_⟩
    · rintro i σ H2 hi ⟨v3, v4, v5, xs, cond, rfl, R2, r2, l2, k2, m2, T2, s2⟩
      refine ⟨(by show 5 ≤ sizeLine; decide), fun B hB => ?_⟩
      have e3 := same_new hB (.lst [.int 1, .int 2, .int 0, .int 1, .int 4])
      have fB := T2.fresh hB
      refine ⟨_, rfl, t, c, cs, 5, rfl, T2.mono e3, by decide, by decide +kernel, fun d H3 d0 d1 T3 s3 => ?_⟩
      obtain ⟨g, hg, g0, g4⟩ := five_b d0 d1
      refine ⟨B, _, d, _, rfl, rfl, SqL.of (s3 _ _ upd_same fB.1), hg, ?_⟩
      have S3 : SameX t H2 H3 := (SameX.of e3).trans s3
      have R3 := S3 _ _ R2 fR.1
      have r3 := r2.mono (KeepT.ofX T2 S3)
      have C3 := C.mono (KeepT.ofX T (s2.trans S3)) (fun o h => (s2.trans S3) _ _ h hLt)
      refine ⟨_, rfl, .inl ⟨rfl, _, SqL.of R3⟩, ?_⟩
      refine ⟨_, rfl, g, rfl, by omega, by omega, fun D hD => lc_range (lo := 0) (n := g.toNat) (fun j H' => ∃ ys, ∃ cls : List Cl, H' D = some (.lst ys) ∧ TpL H' ys (cls.map clD) ∧ cls.length = j ∧ (∀ cl ∈ cls, ClOk cols cl) ∧ TapeAt H' t c cs ∧ SameX t H3 H') ?_ ?_ ?_⟩
      · exact ⟨[], [], upd_same, .nil, rfl, (fun cl h => by cases h), T3.mono (same_new hD _), SameX.of (same_new hD _)⟩
      · rintro j H4 hj ⟨ys, cls, D4, r4, l4, k4, T4, s4⟩
        have fD := T3.fresh hD
        have C4 := C3.mono (KeepT.ofX T3 s4) (fun o h => s4 _ _ h hLt)
        refine ⟨rfl, _, rfl, _, rfl, t, c, L, cs, cols, rfl, T4, C4, hp0, hl, fun v cl H5 hv kcl T5 s5 => ?_⟩
        have D5 := s5 _ _ D4 fD.1
        refine ⟨ys, D5, (by rw [r4.length, List.length_map]; exact small1000 (by omega)), ys ++ [v], cls ++ [cl], upd_same, ?_, by simp [l4], ?_, T5.upd fD.1 fD.2, samex_upd hD _ (s4.trans s5)⟩
        · rw [List.map_append]
          have ku : KeepT H5 (upd H5 D (.lst (ys ++ [v]))) := KeepT.upd (fun zs z => by rw [D5] at z; cases z)
          exact TpL.snoc ((r4.mono (KeepT.ofX T4 s5)).mono ku) (hv.mono ku)
        · intro x hx
          rcases List.mem_append.mp hx with hx | hx
          · exact k4 x hx
          · rw [List.mem_singleton.mp hx]; exact kcl
      rintro H4 ⟨ys, cls, D4, r4, l4, k4, T4, s4⟩
      refine ⟨D, ys, rfl, .inl ⟨SqL.of D4, fun p hp => ?_⟩⟩
      have e5 := same_new hp (.tup ys)
      have R4 := s4 _ _ R3 fR.1
      have Rp : R ≠ p := ne_of_none R4 hp
      refine ⟨R, xs, _, rfl, rfl, e5 _ _ R4, (by rw [r2.length, List.length_map]; exact small1000 (by omega)), ?_⟩
      have ku : KeepT (upd H4 p (.tup ys)) (upd (upd H4 p (.tup ys)) R (.lst (xs ++ [.ref p]))) := KeepT.upd (fun zs z => by rw [e5 _ _ R4] at z; cases z)
      have S4 : SameX t H (upd H4 p (.tup ys)) := s2.trans (S3.trans (s4.trans (SameX.of e5)))
      refine ⟨_, _, _, xs ++ [.ref p], cond ++ [cls], rfl, upd_same, ?_, by simp [l2], ?_, ?_, (T4.mono e5).upd fR.1 fR.2, samex_upd hR _ S4⟩
      · rw [List.map_append]
        exact TpL.snoc (((r3.mono (KeepT.ofX T3 s4)).mono (KeepT.of e5)).mono ku) (.t (ku _ _ upd_same) ((r4.mono (KeepT.of e5)).mono ku))
      · intro a ha
        rcases List.mem_append.mp ha with ha | ha
        · exact k2 a ha
        · rw [List.mem_singleton.mp ha]; exact k4
      · intro a ha
        rcases List.mem_append.mp ha with ha | ha
        · exact m2 a ha
        · rw [List.mem_singleton.mp ha]; omega
    · rintro σ H2 ⟨v3, v4, v5, xs, cond, rfl, R2, r2, l2, k2, m2, T2, s2⟩
      refine ⟨_, rfl, R, xs, rfl, .inl ⟨SqL.of R2, fun p hp => ?_⟩⟩
      exact q (.ref p) cond _ (.t upd_same (r2.mono (KeepT.new hp _))) k2 (by omega) m2 (T2.mono (same_new hp _)) (s2.trans (SameX.of (same_new hp _))))
theorem ok_law_is_integer {f : Addr} {fd : FuncData} (k : Kn K mg "_law_is_integer" s_law_is_integer ["actual"] f fd) (z : Z mg) :
    Cal P w K mg base 1 "_law_is_integer" ["actual"] (spIsInt) f fd := k.cal (by
  refine k.F.ok sc_law_is_integer (fun vs H Q E h => ?_) (fun cdv A outer s H vs Q E hr h => ?_)
  · obtain ⟨x, rfl, _⟩ := h; rfl
  · obtain ⟨x, rfl, hx, q⟩ := h
    refine ⟨_, (pss_one (ps_ret (pe_and (pe_callB call_isi (by rfl) z.isinstance (by decide +kernel) (pa_cons (pv 0) (pa_cons (pe_bltn (v := .ty "int") (u := .type "int") (by rfl) z.int (by decide +kernel) rfl) pa_nil))) (pe_one (pe_not (pe_callB call_isi (by rfl) z.isinstance (by decide +kernel) (pa_cons (pv 0) (pa_cons (pe_bltn (v := .ty "bool") (u := .type "bool") (by rfl) z.bool (by decide +kernel) rfl) pa_nil)))))))), ?_⟩
    obtain ⟨t, hT, c⟩ := ty_scal (K := K) (H := H) hx
    rcases c with ⟨rfl, rfl⟩ | ⟨⟨b, rfl⟩, rfl⟩ | ⟨⟨i, rfl⟩, rfl⟩ | ⟨⟨y, rfl⟩, rfl⟩
    · exact ⟨_, rfl, _, _, _, _, false, rfl, .ty _, hT, kit_ty (by decide +kernel), ⟨_, rfl, q⟩⟩
    · exact ⟨_, rfl, _, _, _, _, true, rfl, .ty _, hT, kit_ty (by decide +kernel), ⟨_, rfl, ⟨_, rfl, _, _, _, _, true, rfl, .ty _, hT, kit_ty (by decide +kernel), ⟨_, rfl, q⟩⟩⟩⟩
    · exact ⟨_, rfl, _, _, _, _, true, rfl, .ty _, hT, kit_ty (by decide +kernel), ⟨_, rfl, ⟨_, rfl, _, _, _, _, false, rfl, .ty _, hT, kit_ty (by decide +kernel), ⟨_, rfl, q⟩⟩⟩⟩
    · exact ⟨_, rfl, _, _, _, _, false, rfl, .ty _, hT, kit_ty (by decide +kernel), ⟨_, rfl, q⟩⟩)

theorem no_same {f : Addr} {fd : FuncData} : FnOk P w K mg base CX0 0 f fd ["actual", "expected"] (spSame K 0) := by
  have no : ∀ vs H Q E, ¬ spSame K 0 vs H Q E := fun vs H Q E h => by
    obtain ⟨x, y, _, h1, _⟩ := h
    exact h1
  exact ⟨fun vs H Q E h => absurd h (no vs H Q E), fun A outer s H args us vs Q E _ _ _ _ h => absurd h (no vs H Q E)⟩
theorem ok_items {n : Nat} {f g : Addr} {fd gd : FuncData} (k : Kn K mg "_law_same_items" s_law_same_items ["actual", "expected"] f fd) (z : Z mg)
    (c_law_same : Cal P w K mg base (2 * n) "_law_same" ["actual", "expected"] (spSame K n) g gd) : Cal P w K mg base (2 * n + 1) "_law_same_items" ["actual", "expected"] (spItems K n) f fd := k.cal (by
  refine k.F.ok sc_law_same_items (fun vs H Q E h => ?_) (fun cdv A outer s H vs Q E hr h => ?_)
  · obtain ⟨a, b, xs, ys, rfl, _⟩ := h; rfl
  · obtain ⟨a, b, xs, ys, rfl, hk, hl, h1, hs, q⟩ := h
    have A1 : SqL K H a xs ∨ SqT K H a xs := by rcases hk with hk | hk; exact .inl (SqL.of hk.1); exact .inr (SqT.of hk.1)
    have B1 : SqL K H b ys ∨ SqT K H b ys := by rcases hk with hk | hk; exact .inl (SqL.of hk.2); exact .inr (SqT.of hk.2)
    refine ⟨_, (pss_cons (ps_if (pt_cmpR op_ne (pe_callB call_len_seq (by rfl) z.len (by decide +kernel) (pa_cons (pv 0) pa_nil)) (pe_callB call_len_seq (by rfl) z.len (by decide +kernel) (pa_cons (pv 1) pa_nil)) (nomark _)) (pss_one (ps_ret pe_bl)) pss_nil)
    (pss_cons (ps_for PassesOwn.never rfl (pi_range1 (by rfl) z.range (pa_cons (pe_callB call_len_seq (by rfl) z.len (by decide +kernel) (pa_cons (pv 1) pa_nil)) pa_nil)) (pg_name (i := 2) sc_law_same_items.nd rfl (Or.inl rfl))
    (pss_one (ps_if (pt_not (pt_val (pe_call c_law_same.G (hr.mono (by omega)) (by rfl) c_law_same.m c_law_same.kp c_law_same.b .nil pass0 (pa_cons (pe_ix ix_seq (pv 0) (pv 2) (fun _ _ => rfl)) (pa_cons (pe_ix ix_seq (pv 1) (pv 2) (fun _ _ => rfl)) pa_nil))))) (pss_one (ps_ret pe_bl)) pss_nil)))
    (pss_one (ps_ret pe_bl)))), ?_⟩
    refine ⟨_, rfl, a, _, rfl, A1, _, rfl, b, _, rfl, B1, rfl, _, rfl, ?_⟩
    refine iteNS (by rw [hl]) ?_
    refine ⟨_, rfl, b, _, rfl, B1, _, rfl, (by omega), (by omega), for_range (lo := 0) (n := ys.length) (fun i σ H2 => (∃ v, σ = [some (.ref a), some (.ref b), v]) ∧ H2 = H) ⟨⟨none, rfl⟩, rfl⟩ ?_ ?_⟩
    · rintro i σ H2 hi ⟨⟨v, rfl⟩, rfl⟩
      have hx : xs[i]? = some xs[i] := List.getElem?_eq_getElem (by omega)
      have hy : ys[i]? = some ys[i] := List.getElem?_eq_getElem hi
      refine ⟨_, rfl, _, rfl, ixq A1 (at_of (by omega) hx) ⟨_, rfl, _, rfl, ixq B1 (at_of (by omega) hy) ⟨_, _, rfl, hs i _ _ hx hy, ⟨_, rfl, ?_⟩⟩⟩⟩
      exact iteF ⟨⟨_, rfl⟩, rfl⟩
    · rintro σ H2 ⟨⟨v, rfl⟩, rfl⟩
      exact q)
theorem ok_same {n : Nat} {f g i : Addr} {fd gd ii : FuncData} (k : Kn K mg "_law_same" s_law_same ["actual", "expected"] f fd) (z : Z mg)
    (c_law_same : Cal P w K mg base (2 * n) "_law_same" ["actual", "expected"] (spSame K n) f fd)
    (c_law_is_integer : Cal P w K mg base 1 "_law_is_integer" ["actual"] spIsInt i ii)
    (c_law_same_items : Cal P w K mg base (2 * n + 1) "_law_same_items" ["actual", "expected"] (spItems K n) g gd) : Cal P w K mg base (2 * n + 2) "_law_same" ["actual", "expected"] (spSame K (n + 1)) f fd := k.cal (by
  refine k.F.ok sc_law_same (fun vs H Q E h => ?_) (fun cdv A outer s H vs Q E hr h => ?_)
  · obtain ⟨x, y, rfl, _⟩ := h; rfl
  · obtain ⟨x, y, rfl, hs, q⟩ := h
    refine ⟨_, (pss_cons (ps_if (pt_cmpR op_isN (pv 1) pe_non (nomark _)) (pss_one (ps_ret (pe_cmpR op_isN (pv 0) pe_non (nomark _)))) pss_nil)
    (pss_cons (ps_if (pt_val (pe_callB call_isi (by rfl) z.isinstance (by decide +kernel) (pa_cons (pv 1) (pa_cons (pe_bltn (v := .ty "bool") (u := .type "bool") (by rfl) z.bool (by decide +kernel) rfl) pa_nil)))) (pss_one (ps_ret (pe_and (pe_callB call_isi (by rfl) z.isinstance (by decide +kernel) (pa_cons (pv 0) (pa_cons (pe_bltn (v := .ty "bool") (u := .type "bool") (by rfl) z.bool (by decide +kernel) rfl) pa_nil))) (pe_one (pe_cmpR op_eq (pv 0) (pv 1) (nomark _)))))) pss_nil)
    (pss_cons (ps_if (pt_val (pe_callB call_isi (by rfl) z.isinstance (by decide +kernel) (pa_cons (pv 1) (pa_cons (pe_bltn (v := .ty "int") (u := .type "int") (by rfl) z.int (by decide +kernel) rfl) pa_nil)))) (pss_one (ps_ret (pe_and (pe_call c_law_is_integer.G (hr.mono (by omega)) (by rfl) c_law_is_integer.m c_law_is_integer.kp c_law_is_integer.b .nil pass0 (pa_cons (pv 0) pa_nil)) (pe_one (pe_cmpR op_eq (pv 0) (pv 1) (nomark _)))))) pss_nil)
    (pss_cons (ps_if (pt_val (pe_callB call_isi (by rfl) z.isinstance (by decide +kernel) (pa_cons (pv 1) (pa_cons (pe_bltn (v := .ty "str") (u := .type "str") (by rfl) z.str (by decide +kernel) rfl) pa_nil)))) (pss_one (ps_ret (pe_and (pe_callB call_isi (by rfl) z.isinstance (by decide +kernel) (pa_cons (pv 0) (pa_cons (pe_bltn (v := .ty "str") (u := .type "str") (by rfl) z.str (by decide +kernel) rfl) pa_nil))) (pe_one (pe_cmpR op_eq (pv 0) (pv 1) (nomark _)))))) pss_nil)
    (pss_cons (ps_if (pt_val (pe_callB call_isi (by rfl) z.isinstance (by decide +kernel) (pa_cons (pv 1) (pa_cons (pe_bltn (v := .ty "tuple") (u := .type "tuple") (by rfl) z.tuple (by decide +kernel) rfl) pa_nil)))) (pss_one (ps_ret (pe_and (pe_callB call_isi (by rfl) z.isinstance (by decide +kernel) (pa_cons (pv 0) (pa_cons (pe_bltn (v := .ty "tuple") (u := .type "tuple") (by rfl) z.tuple (by decide +kernel) rfl) pa_nil))) (pe_one (pe_call c_law_same_items.G (hr.mono (by omega)) (by rfl) c_law_same_items.m c_law_same_items.kp c_law_same_items.b .nil pass0 (pa_cons (pv 0) (pa_cons (pv 1) pa_nil))))))) pss_nil)
    (pss_cons (ps_if (pt_val (pe_callB call_isi (by rfl) z.isinstance (by decide +kernel) (pa_cons (pv 1) (pa_cons (pe_bltn (v := .ty "list") (u := .type "list") (by rfl) z.list (by decide +kernel) rfl) pa_nil)))) (pss_one (ps_ret (pe_and (pe_callB call_isi (by rfl) z.isinstance (by decide +kernel) (pa_cons (pv 0) (pa_cons (pe_bltn (v := .ty "list") (u := .type "list") (by rfl) z.list (by decide +kernel) rfl) pa_nil))) (pe_one (pe_call c_law_same_items.G (hr.mono (by omega)) (by rfl) c_law_same_items.m c_law_same_items.kp c_law_same_items.b .nil pass0 (pa_cons (pv 0) (pa_cons (pv 1) pa_nil))))))) pss_nil)
    (pss_cons (ps_if (PW.pt (pw_or (pt_not (pt_val (pe_callB call_isi (by rfl) z.isinstance (by decide +kernel) (pa_cons (pv 0) (pa_cons (pe_bltn (v := .ty "dict") (u := .type "dict") (by rfl) z.dict (by decide +kernel) rfl) pa_nil))))) (pw_or1 (pt_cmpR op_ne (pe_callB call_len_seq (by rfl) z.len (by decide +kernel) (pa_cons (pv 0) pa_nil)) (pe_callB call_len_seq (by rfl) z.len (by decide +kernel) (pa_cons (pv 1) pa_nil)) (nomark _))))) (pss_one (ps_ret pe_bl)) pss_nil)
    (pss_cons ps_never
    (pss_cons ps_never
    (pss_one (ps_ret pe_bl))))))))))), ?_⟩
    rcases hs with ⟨rfl, hx⟩ | ⟨a, b, xs, ys, rfl, rfl, ha, hb, hl, h1, he⟩ | ⟨a, b, xs, ys, rfl, rfl, ha, hb, hl, h1, he⟩
    · obtain ⟨t, hT, c⟩ := ty_scal (K := K) (H := H) hx
      rcases c with ⟨rfl, rfl⟩ | ⟨⟨b, rfl⟩, rfl⟩ | ⟨⟨i, rfl⟩, rfl⟩ | ⟨⟨y, rfl⟩, rfl⟩
      · exact ⟨_, rfl, rfl, _, rfl, iteDT rfl ⟨_, rfl, rfl, bl_T rfl q⟩⟩
      · refine ⟨_, rfl, rfl, _, rfl, iteDF (fun e => nomatch e) ⟨_, rfl, _, _, _, _, true, rfl, .ty _, hT, kit_ty (by decide +kernel), ⟨_, rfl, ?_⟩⟩⟩
        exact ⟨_, rfl, _, _, _, _, true, rfl, .ty _, hT, kit_ty (by decide +kernel), ⟨_, rfl, ⟨_, rfl, _, rfl, rfl, bl_T rfl q⟩⟩⟩
      · refine ⟨_, rfl, rfl, _, rfl, iteDF (fun e => nomatch e) ⟨_, rfl, _, _, _, _, false, rfl, .ty _, hT, kit_ty (by decide +kernel), ⟨_, rfl, ?_⟩⟩⟩
        refine ⟨_, rfl, _, _, _, _, true, rfl, .ty _, hT, kit_ty (by decide +kernel), ⟨_, rfl, ?_⟩⟩
        exact ⟨_, rfl, _, rfl, rfl, ⟨_, rfl, ⟨_, rfl, _, rfl, rfl, bl_T rfl q⟩⟩⟩
      · refine ⟨_, rfl, rfl, _, rfl, iteDF (fun e => nomatch e) ⟨_, rfl, _, _, _, _, false, rfl, .ty _, hT, kit_ty (by decide +kernel), ⟨_, rfl, ?_⟩⟩⟩
        refine ⟨_, rfl, _, _, _, _, false, rfl, .ty _, hT, kit_ty (by decide +kernel), ⟨_, rfl, ?_⟩⟩
        refine ⟨_, rfl, _, _, _, _, true, rfl, .ty _, hT, kit_ty (by decide +kernel), ⟨_, rfl, ?_⟩⟩
        exact ⟨_, rfl, _, _, _, _, true, rfl, .ty _, hT, kit_ty (by decide +kernel), ⟨_, rfl, ⟨_, rfl, _, rfl, rfl, bl_T rfl q⟩⟩⟩
    · have hA : TyX K H (.ref a) (.type "list") := .base (.lst ha)
      have hB : TyX K H (.ref b) (.type "list") := .base (.lst hb)
      refine ⟨_, rfl, rfl, _, rfl, iteDF (fun e => nomatch e) ⟨_, rfl, _, _, _, _, false, rfl, .ty _, hB, kit_ty (by decide +kernel), ⟨_, rfl, ?_⟩⟩⟩
      refine ⟨_, rfl, _, _, _, _, false, rfl, .ty _, hB, kit_ty (by decide +kernel), ⟨_, rfl, ?_⟩⟩
      refine ⟨_, rfl, _, _, _, _, false, rfl, .ty _, hB, kit_ty (by decide +kernel), ⟨_, rfl, ?_⟩⟩
      refine ⟨_, rfl, _, _, _, _, false, rfl, .ty _, hB, kit_ty (by decide +kernel), ⟨_, rfl, ?_⟩⟩
      refine ⟨_, rfl, _, _, _, _, true, rfl, .ty _, hB, kit_ty (by decide +kernel), ⟨_, rfl, ?_⟩⟩
      exact ⟨_, rfl, _, _, _, _, true, rfl, .ty _, hA, kit_ty (by decide +kernel), ⟨_, rfl, ⟨_, rfl, _, rfl, a, b, xs, ys, rfl, .inl ⟨ha, hb⟩, hl, h1, he, q⟩⟩⟩
    · have hA : TyX K H (.ref a) (.type "tuple") := .base (.tup ha)
      have hB : TyX K H (.ref b) (.type "tuple") := .base (.tup hb)
      refine ⟨_, rfl, rfl, _, rfl, iteDF (fun e => nomatch e) ⟨_, rfl, _, _, _, _, false, rfl, .ty _, hB, kit_ty (by decide +kernel), ⟨_, rfl, ?_⟩⟩⟩
      refine ⟨_, rfl, _, _, _, _, false, rfl, .ty _, hB, kit_ty (by decide +kernel), ⟨_, rfl, ?_⟩⟩
      refine ⟨_, rfl, _, _, _, _, false, rfl, .ty _, hB, kit_ty (by decide +kernel), ⟨_, rfl, ?_⟩⟩
      refine ⟨_, rfl, _, _, _, _, true, rfl, .ty _, hB, kit_ty (by decide +kernel), ⟨_, rfl, ?_⟩⟩
      exact ⟨_, rfl, _, _, _, _, true, rfl, .ty _, hA, kit_ty (by decide +kernel), ⟨_, rfl, ⟨_, rfl, _, rfl, a, b, xs, ys, rfl, .inr ⟨ha, hb⟩, hl, h1, he, q⟩⟩⟩)
theorem ok_law_same {f g i : Addr} {fd gd ii : FuncData} (k : Kn K mg "_law_same" s_law_same ["actual", "expected"] f fd) (kI : Kn K mg "_law_same_items" s_law_same_items ["actual", "expected"] g gd) (z : Z mg)
    (c_law_is_integer : Cal P w K mg base 1 "_law_is_integer" ["actual"] spIsInt i ii) : ∀ n : Nat, Cal P w K mg base (2 * n) "_law_same" ["actual", "expected"] (spSame K n) f fd
  | 0 => k.cal no_same
  | n + 1 => by
    have h := ok_law_same k kI z c_law_is_integer n
    exact ok_same k z h c_law_is_integer (ok_items kI z h)
theorem ok_law_names {f : Addr} {fd : FuncData} (k : Kn K mg "_law_names" s_law_names ["columns"] f fd) (z : Z mg) :
    Cal P w K mg base 1 "_law_names" ["columns"] (spNames) f fd := k.cal (by
  refine k.F.ok sc_law_names (fun vs H Q E h => ?_) (fun cdv A outer s H vs Q E hr h => ?_)
  · obtain ⟨L, cols, rfl, _⟩ := h; rfl
  · obtain ⟨L, cols, rfl, C, hl, q⟩ := h
    refine ⟨_, (pss_one (ps_ret (pe_lc (own := [("column", 1)]) (g := gName 1) (tt := tYes) (by rfl) sc_law_names.nd (pi_list (pv 0)) (blkOk_by (own := [("column", 1)]) (N := ["columns", "column"]) (sc := defScope s_law_names) (by decide +kernel)) (fun _ _ _ _ _ => pg_name (i := 1) sc_law_names.nd rfl (Or.inl rfl)) (fun _ _ _ _ _ => pts_nil) (fun _ _ _ _ _ => (pe_ix (r := rIxT K) ix_tup (pv 1) pe_int (fun _ _ => rfl)))))), ?_⟩
    obtain ⟨xs, h1, h2⟩ := id C
    have hx : xs.length = cols.length := by rw [h2.length, List.length_map]
    refine ⟨_, rfl, L, rfl, ⟨_, SqL.of h1⟩, fun D hD => lc_list (K := K) (a := L) (xs := xs) (fun i H' => H' D = some (.lst (((colNs cols).take i).map V.str)) ∧ Same H H') ⟨upd_same, same_new hD _⟩ (fun i H' _ hh => SqL.of (hh.2 _ _ h1)) ?_ ?_⟩
    · rintro i x H1 hi ⟨hD1, s1⟩
      have hil : i < cols.length := by rw [← hx]; exact (List.getElem?_eq_some_iff.mp hi).1
      obtain ⟨xs', a, k1, k2, k3⟩ := C.get (List.getElem?_eq_getElem hil)
      rw [h1] at k1
      cases k1
      rw [hi] at k2
      cases k2
      refine ⟨rfl, _, rfl, a, _, 0, _, rfl, rfl, SqT.of (s1 _ _ k3), atI_nat (j := 0) rfl, _, hD1, (by rw [List.length_map, List.length_take]; exact small1000 (by omega)), ?_, same_upd hD _ s1⟩
      rw [upd_same, List.take_add_one]
      have : (colNs cols)[i]? = some cols[i].n := by unfold colNs; rw [List.getElem?_map, List.getElem?_eq_getElem hil]; rfl
      rw [this]
      simp
    · rintro H1 ⟨hD1, s1⟩
      have : (colNs cols).take xs.length = colNs cols := List.take_of_length_le (by unfold colNs; rw [List.length_map]; omega)
      rw [this] at hD1
      exact q D H1 hD s1 hD1)

theorem kindAt_get {cols : List Col} {n : Str} (h : n ∈ colNs cols) : ∃ col, cols[(colNs cols).idxOf n]? = some col ∧ col.k = kindAt cols n := by
  obtain ⟨j, e1, e2, _, _⟩ := idx_str h
  have hj : j < cols.length := by unfold colNs at e2; rwa [List.length_map] at e2
  refine ⟨cols[j], by rw [← e1]; exact List.getElem?_eq_getElem hj, ?_⟩
  unfold kindAt
  rw [← e1, List.getD_eq_getElem?_getD, List.getElem?_map, List.getElem?_eq_getElem hj]
  rfl
theorem fitsK_str {cl : Cl} (h : ClG cl) {k : Str} (hk : k = ("int" : Str) ∨ k = ("text" : Str)) : fitsK cl.v k true = !(decide (cl.v ≠ .non) && !decide (decide (k = ("text" : Str)) = (match cl.v with | .str _ => true | _ => false))) := by
  have ti : ¬ ("text" : Str) = ("int" : Str) := by decide +kernel
  have it : ¬ ("int" : Str) = ("text" : Str) := by decide +kernel
  rcases h with e | ⟨i, e, h1, h2⟩ | ⟨y, e, h1, h2⟩ <;> rw [e]
  · rfl
  · have g : goodV (.int i) = true := decide_eq_true (by omega)
    unfold fitsK
    rw [if_neg (fun z => nomatch z), g, Bool.true_and]
    rcases hk with rfl | rfl
    · show decide (("int" : Str) = "int") = _
      rw [decide_eq_true rfl, decide_eq_false it]
      rfl
    · show decide (("int" : Str) = "text") = _
      rw [decide_eq_false it, decide_eq_true rfl]
      rfl
  · have g : goodV (.str y) = true := decide_eq_true ⟨h1, h2⟩
    unfold fitsK
    rw [if_neg (fun z => nomatch z), g, Bool.true_and]
    rcases hk with rfl | rfl
    · show decide (("text" : Str) = "int") = _
      rw [decide_eq_false ti, decide_eq_false it]
      rfl
    · show decide (("text" : Str) = "text") = _
      rw [decide_eq_true rfl]
      rfl
theorem ok_law_fits {f : Addr} {fd : FuncData} (k : Kn K mg "_law_fits" s_law_fits ["condition", "columns"] f fd) (z : Z mg)
    {g_law_names : Addr} {gd_law_names : FuncData} (c_law_names : Cal P w K mg base 1 "_law_names" ["columns"] (spNames) g_law_names gd_law_names) :
    Cal P w K mg base 2 "_law_fits" ["condition", "columns"] (fun vs H Q _ => ∃ (c L : Addr) (cond : Cond) (cols : List Col), vs = [.ref c, .ref L] ∧ Tp H (.ref c) (condD cond) ∧ ColsAt H L cols ∧ (∀ x ∈ cols, x.k = ("int" : Str) ∨ x.k = ("text" : Str)) ∧ cols.length ≤ 100 ∧ (∀ a ∈ cond, ∀ cl ∈ a, ClG cl) ∧ ∀ H', Same H H' → Q (.bl (fitsM cols cond)) H') f fd := k.cal (by
  refine k.F.ok sc_law_fits (fun vs H Q E h => ?_) (fun cdv A outer s H vs Q E hr h => ?_)
  · obtain ⟨c, L, cond, cols, rfl, _⟩ := h; rfl
  · obtain ⟨c, L, cond, cols, rfl, hC, CA, hk, hl, hg, q⟩ := h
    refine ⟨_, (pss_cons (ps_set (i := 2) sc_law_fits.nd rfl (Or.inl rfl) (pe_call c_law_names.G (hr.mono (by decide)) (by rfl) c_law_names.m c_law_names.kp c_law_names.b .nil pass0 (pa_cons (pv 1) pa_nil)))
        (pss_cons (ps_for PassesOwn.never rfl (pi_tup (pv 0)) (pg_name (i := 3) sc_law_fits.nd rfl (Or.inl rfl))
        (pss_one (ps_for PassesOwn.never rfl (pi_tup (pv 3)) (pg_tup (by rfl) (pgs_cons (pg_name (i := 4) sc_law_fits.nd rfl (Or.inl rfl)) (pgs_cons (pg_name (i := 5) sc_law_fits.nd rfl (Or.inl rfl)) (pgs_cons (pg_name (i := 6) sc_law_fits.nd rfl (Or.inl rfl)) pgs_nil))))
        (pss_cons (ps_if (pt_cmpR op_notIn_seq (pv 4) (pv 2) (by rfl)) (pss_one (ps_ret pe_bl)) pss_nil)
        (pss_cons (ps_set (i := 7) sc_law_fits.nd rfl (Or.inl rfl) (pe_ix ix_tup (pe_ix ix_list (pv 1) (pe_bm PySem.F.plainAttrs_list PySem.F.slot_list_index PySem.F.type_list_index mt_index (pv 2) (pa_cons (pv 4) pa_nil)) (fun _ _ => rfl)) pe_int (fun _ _ => rfl)))
        (pss_one (ps_if (PW.pt (pw_and (pt_cmpR op_notN (pv 6) pe_non (nomark _)) (pw_and1 (pt_cmpR op_ne (pe_cmpR op_eq (pv 7) pe_str (nomark _)) (pe_callB call_isi (by rfl) z.isinstance (by decide +kernel) (pa_cons (pv 6) (pa_cons (pe_bltn (v := .ty "str") (u := .type "str") (by rfl) z.str (by decide +kernel) rfl) pa_nil))) (nomark _))))) (pss_one (ps_ret pe_bl)) pss_nil)))))))
        (pss_one (ps_ret pe_bl)))), ?_⟩
    refine ⟨_, rfl, L, cols, rfl, CA, hl, fun N H1 hN0 s1 hN => ?_⟩
    obtain ⟨c', ys, e, hc, rc⟩ := t_at hC
    cases e
    have hy : ys.length = cond.length := by rw [rc.length, List.length_map]
    refine ⟨_, rfl, c, rfl, ⟨_, SqT.of (s1 _ _ hc)⟩, for_it walk_tup (fun i σ H' => (∃ v3 v4 v5 v6 v7, σ = [some (.ref c), some (.ref L), some (.ref N), v3, v4, v5, v6, v7]) ∧ H' = H1 ∧ (cond.take i).all (fun a => a.all (clFits cols)) = true) ⟨⟨_, _, _, _, _, rfl⟩, rfl, rfl⟩ (fun i σ H' _ hh => by rw [hh.2.1]; exact SqT.of (s1 _ _ hc)) ?_ ?_⟩
    · rintro i x σ H2 H2' hi ⟨⟨v3, v4, v5, v6, v7, rfl⟩, rfl, f1⟩ ⟨rfl, ex⟩
      have hil : i < cond.length := by omega
      have ec : cond[i]? = some cond[i] := List.getElem?_eq_getElem hil
      have hm : cond[i] ∈ cond := List.getElem_mem hil
      obtain ⟨v, g1, g2⟩ := rc.get' (i := i) (d := altD cond[i]) (by rw [List.getElem?_map, ec]; rfl)
      rw [ex] at g1
      cases g1
      obtain ⟨al, ws, rfl, ha, ra⟩ := t_at g2
      have hw : ws.length = cond[i].length := by rw [ra.length, List.length_map]
      have fin : ∀ cl ∈ cond[i], clFits cols cl = false → fitsM cols cond = false := by
        intro cl hcl hf
        unfold fitsM
        rw [Bool.eq_false_iff]
        intro z
        have := List.all_eq_true.mp (List.all_eq_true.mp z _ hm) cl hcl
        rw [hf] at this
        cases this
      refine ⟨_, rfl, al, rfl, ⟨_, SqT.of (s1 _ _ ha)⟩, for_it walk_tup (fun j σ H' => (∃ v4 v5 v6 v7, σ = [some (.ref c), some (.ref L), some (.ref N), some (.ref al), v4, v5, v6, v7]) ∧ H' = H2' ∧ (cond[i].take j).all (clFits cols) = true) ⟨⟨_, _, _, _, rfl⟩, rfl, rfl⟩ (fun j σ H' _ hh => by rw [hh.2.1]; exact SqT.of (s1 _ _ ha)) ?_ ?_⟩
      · rintro j y σ H3 H3' hj ⟨⟨v4, v5, v6, v7, rfl⟩, rfl, f2⟩ ⟨rfl, ey⟩
        have hjl : j < cond[i].length := by omega
        have ej : cond[i][j]? = some cond[i][j] := List.getElem?_eq_getElem hjl
        have hmj : cond[i][j] ∈ cond[i] := List.getElem_mem hjl
        obtain ⟨v, g3, g4⟩ := ra.get' (i := j) (d := clD cond[i][j]) (by rw [List.getElem?_map, ej]; rfl)
        rw [ey] at g3
        cases g3
        obtain ⟨ca, rfl, hca, hsc⟩ := cl_at g4
        have fin' := fin cond[i][j] hmj
        have gg := hg _ hm _ hmj
        have st : (cond[i].take (j + 1)).all (clFits cols) = ((cond[i].take j).all (clFits cols) && clFits cols cond[i][j]) := by
          rw [List.take_add_one, ej, List.all_append]; simp
        generalize cond[i][j] = cl at *
        refine ⟨ca, _, rfl, SqT.of (s1 _ _ hca), rfl, _, _, rfl, _, _, rfl, _, _, rfl, rfl, ?_⟩
        refine ⟨_, rfl, _, rfl, N, _, rfl, .inl (SqL.of hN), rfl, flat_strs _, _, rfl, ?_⟩
        show if (!inV (.str cl.n) ((colNs cols).map V.str)) = true then _ else _
        rw [inV_str]
        refine ifN (fun hn => ?_) (fun hn => ?_)
        · have e : clFits cols cl = false := by unfold clFits; rw [decide_eq_false hn, Bool.false_and]
          have e2 := fin' e
          rw [e2] at q
          exact q _ s1
        · obtain ⟨col, k1, k2⟩ := kindAt_get hn
          obtain ⟨xs', a, k3, k4, k5⟩ := (CA.mono (KeepT.of s1) (fun o h => s1 _ _ h)).get k1
          obtain ⟨z1, z2, z3, z4, z5⟩ := ix_names hn
          refine ⟨_, rfl, _, rfl, .inl ⟨rfl, _, SqL.of hN⟩, _, rfl, N, _, _, _, z1, rfl, rfl, SqL.of hN, rfl, z2, z3, z4, z5, L, _, _, _, rfl, rfl, SqL.of k3, at_ofN rfl k4, a, _, 1, _, rfl, rfl, SqT.of k5, atI_nat (j := 1) rfl, ?_⟩
          have hkk := hk col (List.mem_of_getElem? k1)
          rw [k2] at hkk
          have ef : clFits cols cl = fitsK cl.v (kindAt cols cl.n) true := by unfold clFits; rw [decide_eq_true hn, Bool.true_and]
          have efs := fitsK_str gg hkk
          rw [← ef] at efs
          rw [k2]
          refine ⟨_, rfl, rfl, _, rfl, ?_⟩
          refine ifN (fun hnn => ?_) (fun hnn => ?_)
          · have txt : decide (V.str (kindAt cols cl.n) = V.str ("text" : Str)) = decide (kindAt cols cl.n = ("text" : Str)) := by
              by_cases h : kindAt cols cl.n = ("text" : Str)
              · rw [decide_eq_true h, decide_eq_true (congrArg V.str h)]
              · rw [decide_eq_false h, decide_eq_false (fun z => h (V.str.inj z))]
            have blq : ∀ x y : Bool, decide (V.bl x = V.bl y) = decide (x = y) := fun x y => by cases x <;> cases y <;> rfl
            rw [show decide (cl.v ≠ V.non) = true from decide_eq_true hnn, Bool.true_and, Bool.not_not] at efs
            refine ⟨_, rfl, rfl, ?_⟩
            have step : ∀ b : Bool, b = (match cl.v with | .str _ => true | _ => false) → (if (!decide (V.bl (decide (V.str (kindAt cols cl.n) = V.str ("text" : Str))) = V.bl b)) = true then Q (.bl false) H3' else ((∃ v4 v5 v6 v7, [some (V.ref c), some (V.ref L), some (V.ref N), some (V.ref al), some (V.str cl.n), some (V.str cl.op), some cl.v, some (V.str (kindAt cols cl.n))] = [some (V.ref c), some (V.ref L), some (V.ref N), some (V.ref al), v4, v5, v6, v7]) ∧ H3' = H3' ∧ (cond[i].take (j + 1)).all (clFits cols) = true)) := by
              intro b hb
              rw [txt, blq, hb]
              refine ifN (fun h6 => ?_) (fun h6 => ?_)
              · have e : clFits cols cl = false := by rw [efs]; exact decide_eq_false h6
                have e2 := fin' e
                rw [e2] at q
                exact q _ s1
              · refine ⟨⟨_, _, _, _, rfl⟩, rfl, ?_⟩
                rw [st, f2, efs]
                exact decide_eq_true h6
            rcases gg with e | ⟨i', e, _⟩ | ⟨y, e, _⟩
            · exact absurd e hnn
            · rw [e] at step ⊢
              exact ⟨_, rfl, _, _, _, _, false, rfl, .ty _, .base (.int _), kit_ty (by decide +kernel), rfl, _, rfl, step false rfl⟩
            · rw [e] at step ⊢
              exact ⟨_, rfl, _, _, _, _, true, rfl, .ty _, .base (.str _), kit_ty (by decide +kernel), rfl, _, rfl, step true rfl⟩
          · refine ⟨⟨_, _, _, _, rfl⟩, rfl, ?_⟩
            rw [st, f2, efs]
            have hv : cl.v = V.non := hnn
            rw [hv]
            rfl
      · rintro σ H3 ⟨⟨v4, v5, v6, v7, rfl⟩, rfl, f2⟩
        rw [hw, List.take_length] at f2
        refine ⟨⟨_, _, _, _, _, rfl⟩, rfl, ?_⟩
        rw [List.take_add_one, ec, List.all_append, f1, Bool.true_and]
        simpa using f2
    · rintro σ H2 ⟨_, rfl, f1⟩
      rw [List.take_of_length_le (by omega)] at f1
      have e : fitsM cols cond = true := f1
      rw [e] at q
      exact q _ s1)
theorem ok_kind_of {f : Addr} {fd : FuncData} (k : Kn K mg "kind_of" s_kind_of ["value"] f fd) (z : Z mg) :
    Cal P w K mg base 1 "kind_of" ["value"] (spKindOf) f fd := k.cal (by
  refine k.F.ok sc_kind_of (fun vs H Q E h => ?_) (fun cdv A outer s H vs Q E hr h => ?_)
  · obtain ⟨v, rfl, _⟩ := h; rfl
  · obtain ⟨v, rfl, hv, q⟩ := h
    refine ⟨_, (pss_cons (ps_if (pt_cmpR op_isN (pv 0) pe_non (nomark _)) (pss_one (ps_ret pe_str)) pss_nil)
        (pss_cons (ps_if (pt_val (pe_callB call_isi (by rfl) z.isinstance (by decide +kernel) (pa_cons (pv 0) (pa_cons (pe_bltn (v := .ty "int") (u := .type "int") (by rfl) z.int (by decide +kernel) rfl) pa_nil)))) (pss_one (ps_ret pe_str)) pss_nil)
        (pss_one (ps_ret pe_str)))), ?_⟩
    refine ⟨_, rfl, rfl, _, rfl, ?_⟩
    cases v with
    | non => exact iteDT rfl q
    | bl b => exact iteDF (fun e => nomatch e) ⟨_, rfl, _, _, _, _, true, rfl, .ty _, .base (.bl b), kit_ty (by decide +kernel), _, rfl, q⟩
    | int i => exact iteDF (fun e => nomatch e) ⟨_, rfl, _, _, _, _, true, rfl, .ty _, .base (.int i), kit_ty (by decide +kernel), _, rfl, q⟩
    | str y => exact iteDF (fun e => nomatch e) ⟨_, rfl, _, _, _, _, false, rfl, .ty _, .base (.str y), kit_ty (by decide +kernel), _, rfl, q⟩
    | byt _ => cases hv
    | flt _ => cases hv
    | ref _ => cases hv
    | ty _ => cases hv)
theorem ok_is_text_code {f : Addr} {fd : FuncData} (k : Kn K mg "is_text_code" s_is_text_code ["code"] f fd) (z : Z mg) :
    Cal P w K mg base 1 "is_text_code" ["code"] (spIsCode) f fd := k.cal (by
  obtain ⟨t_PERCENT_CODE, k_PERCENT_CODE⟩ := z.c_PERCENT_CODE
  obtain ⟨t_LAST_CODE, k_LAST_CODE⟩ := z.c_LAST_CODE
  obtain ⟨t_FIRST_CODE, k_FIRST_CODE⟩ := z.c_FIRST_CODE
  refine k.F.ok sc_is_text_code (fun vs H Q E h => ?_) (fun cdv A outer s H vs Q E hr h => ?_)
  · obtain ⟨c, rfl, _⟩ := h; rfl
  · obtain ⟨c, rfl, q⟩ := h
    refine ⟨_, (pss_one (ps_ret (pe_and (pe_cmpR op_le (pe_glob (v := .int (32)) rfl k_FIRST_CODE ⟨_, rfl⟩) (pv 0) (nomark _)) (pe_and (pe_cmpR op_le (pv 0) (pe_glob (v := .int (126)) rfl k_LAST_CODE ⟨_, rfl⟩) (nomark _)) (pe_one (pe_cmpR op_ne (pv 0) (pe_glob (v := .int (37)) rfl k_PERCENT_CODE ⟨_, rfl⟩) (nomark _))))))), ?_⟩
    refine ⟨_, rfl, _, _, rfl, rfl, _, rfl, ?_⟩
    refine ifD (fun h1 => ?_) (fun h1 => ?_)
    · refine ⟨_, rfl, _, _, rfl, rfl, _, rfl, ?_⟩
      refine ifD (fun h2 => ?_) (fun h2 => ?_)
      · refine ⟨_, rfl, rfl, ?_⟩
        have e : (!decide (V.int c = V.int 37)) = decide (codeOk c) := by
          by_cases h3 : c = 37
          · subst h3; decide
          · have a : ¬ (V.int c = V.int 37) := fun z => h3 (V.int.inj z)
            rw [decide_eq_false a, decide_eq_true (show codeOk c from ⟨h1, h2, h3⟩)]
            rfl
        rw [e]
        exact q
      · rw [decide_eq_false (show ¬ codeOk c from fun z => h2 z.2.1)] at q
        exact q
    · rw [decide_eq_false (show ¬ codeOk c from fun z => h1 z.1)] at q
      exact q)
theorem ok_is_text_character {f : Addr} {fd : FuncData} (k : Kn K mg "is_text_character" s_is_text_character ["character"] f fd) (z : Z mg)
    {g_is_text_code : Addr} {gd_is_text_code : FuncData} (c_is_text_code : Cal P w K mg base 1 "is_text_code" ["code"] (spIsCode) g_is_text_code gd_is_text_code) :
    Cal P w K mg base 2 "is_text_character" ["character"] (spIsChar) f fd := k.cal (by
  refine k.F.ok sc_is_text_character (fun vs H Q E h => ?_) (fun cdv A outer s H vs Q E hr h => ?_)
  · obtain ⟨c, rfl, _⟩ := h; rfl
  · obtain ⟨c, rfl, q⟩ := h
    refine ⟨_, (pss_one (ps_ret (pe_call c_is_text_code.G (hr.mono (by decide)) (by rfl) c_is_text_code.m c_is_text_code.kp c_is_text_code.b .nil pass0 (pa_cons (pe_callB call_ord (by rfl) z.ord (by decide +kernel) (pa_cons (pv 0) pa_nil)) pa_nil)))), ?_⟩
    refine ⟨_, rfl, one c, rfl, rfl, (c : Int), rfl, ?_⟩
    have e : decide (codeOk (c : Int)) = decide (chOk c) := by
      by_cases h : chOk c
      · rw [decide_eq_true h, decide_eq_true]
        unfold chOk at h; unfold codeOk; omega
      · rw [decide_eq_false h, decide_eq_false]
        intro z
        apply h
        unfold codeOk at z; unfold chOk; omega
    rw [e]
    exact q)
theorem ok_is_text {f : Addr} {fd : FuncData} (k : Kn K mg "is_text" s_is_text ["thing"] f fd) (z : Z mg)
    {g_is_text_character : Addr} {gd_is_text_character : FuncData} (c_is_text_character : Cal P w K mg base 2 "is_text_character" ["character"] (spIsChar) g_is_text_character gd_is_text_character) :
    Cal P w K mg base 3 "is_text" ["thing"] (spIsText) f fd := k.cal (by
  obtain ⟨t_MOST_CHARACTERS, k_MOST_CHARACTERS⟩ := z.c_MOST_CHARACTERS
  refine k.F.ok sc_is_text (fun vs H Q E h => ?_) (fun cdv A outer s H vs Q E hr h => ?_)
  · obtain ⟨z, rfl, _⟩ := h; rfl
  · obtain ⟨zz, rfl, hl, q⟩ := h
    refine ⟨_, (pss_one (ps_ret (pe_and (pe_cmpR op_le (pe_callB call_len_str (by rfl) z.len (by decide +kernel) (pa_cons (pv 0) pa_nil)) (pe_glob (v := .int (30)) rfl k_MOST_CHARACTERS ⟨_, rfl⟩) (nomark _)) (pe_one (pe_callB (cr_all rfl) (by rfl) z.all (by decide +kernel) (pa_cons (pe_lc (own := [("character", 1)]) (g := gName 1) (tt := tYes) (by rfl) sc_is_text.nd (pi_str (pv 0)) (blkOk_by (own := [("character", 1)]) (N := ["thing", "character"]) (sc := defScope s_is_text) (by decide +kernel)) (fun _ _ _ _ _ => pg_name (i := 1) sc_is_text.nd rfl (Or.inl rfl)) (fun _ _ _ _ _ => pts_nil) (fun _ _ _ _ _ => (pe_call c_is_text_character.G (hr.mono (by decide)) (by rfl) c_is_text_character.m c_is_text_character.kp c_is_text_character.b .nil pass0 (pa_cons (pv 1) pa_nil)))) pa_nil)))))), ?_⟩
    refine ⟨_, rfl, _, rfl, Nat.le_of_lt (small1000 hl), _, _, rfl, rfl, _, rfl, ?_⟩
    have ln : zz.length = zz.cps.size := rfl
    refine ifD (fun h1 => ?_) (fun h1 => ?_)
    · refine ⟨_, rfl, zz, rfl, fun D hD => lc_it walk_str (fun i H' => H' D = some (.lst (((tl zz).take i).map fun c => V.bl (decide (chOk c)))) ∧ Same H H') ⟨upd_same, same_new hD _⟩ (fun _ _ _ _ => True.intro) ?_ ?_⟩
      · rintro i x H1 H2 hi ⟨hD1, s1⟩ ⟨e1, c, e2, rfl⟩
        subst e1
        have ec : (tl zz)[i]? = some c := by rw [← e2]; exact Array.getElem?_toList
        refine ⟨rfl, _, rfl, c, rfl, _, hD1, (by rw [List.length_map, List.length_take]; exact small1000 (by omega)), ?_, same_upd hD _ s1⟩
        rw [upd_same, List.take_succ, ec]
        simp
      · rintro H1 ⟨hD1, s1⟩
        have e : (tl zz).take zz.cps.size = tl zz := List.take_of_length_le (by simp [tl])
        rw [e] at hD1
        have hD2 : H1 D = some (.lst (((tl zz).map fun c => decide (chOk c)).map V.bl)) := by rw [hD1, List.map_map]; rfl
        refine ⟨D, _, rfl, SqL.of hD2, ?_⟩
        have eg : ((tl zz).map fun c => decide (chOk c)).all id = goodV (.str zz) := by
          unfold goodV
          rw [Bool.eq_iff_iff, List.all_eq_true, decide_eq_true_iff]
          constructor
          · intro h
            exact ⟨by omega, fun c hc => of_decide_eq_true (h (decide (chOk c)) (List.mem_map.mpr ⟨c, hc, rfl⟩))⟩
          · rintro ⟨_, h⟩ b hb
            obtain ⟨c, hc, rfl⟩ := List.mem_map.mp hb
            exact decide_eq_true (h c hc)
        rw [eg]
        exact q _ s1
    · have eg : goodV (.str zz) = false := decide_eq_false fun z => h1 (by have := z.1; omega)
      rw [eg] at q
      exact q _ (Same.refl _))
theorem ok_is_value {f : Addr} {fd : FuncData} (k : Kn K mg "is_value" s_is_value ["thing"] f fd) (z : Z mg)
    {g_is_text : Addr} {gd_is_text : FuncData} (c_is_text : Cal P w K mg base 3 "is_text" ["thing"] (spIsText) g_is_text gd_is_text) :
    Cal P w K mg base 4 "is_value" ["thing"] (spIsValue) f fd := k.cal (by
  obtain ⟨t_GREATEST, k_GREATEST⟩ := z.c_GREATEST
  obtain ⟨t_LEAST, k_LEAST⟩ := z.c_LEAST
  refine k.F.ok sc_is_value (fun vs H Q E h => ?_) (fun cdv A outer s H vs Q E hr h => ?_)
  · obtain ⟨v, rfl, _⟩ := h; rfl
  · obtain ⟨v, rfl, hv, q⟩ := h
    refine ⟨_, (pss_cons (ps_if (pt_cmpR op_isN (pv 0) pe_non (nomark _)) (pss_one (ps_ret pe_bl)) pss_nil)
        (pss_cons (ps_if (pt_val (pe_callB call_isi (by rfl) z.isinstance (by decide +kernel) (pa_cons (pv 0) (pa_cons (pe_bltn (v := .ty "bool") (u := .type "bool") (by rfl) z.bool (by decide +kernel) rfl) pa_nil)))) (pss_one (ps_ret pe_bl)) pss_nil)
        (pss_cons (ps_if (pt_val (pe_callB call_isi (by rfl) z.isinstance (by decide +kernel) (pa_cons (pv 0) (pa_cons (pe_bltn (v := .ty "int") (u := .type "int") (by rfl) z.int (by decide +kernel) rfl) pa_nil)))) (pss_one (ps_ret (pe_and (pe_cmpR op_le (pe_glob (v := .int (-999999999)) rfl k_LEAST ⟨_, rfl⟩) (pv 0) (nomark _)) (pe_one (pe_cmpR op_le (pv 0) (pe_glob (v := .int (999999999)) rfl k_GREATEST ⟨_, rfl⟩) (nomark _)))))) pss_nil)
        (pss_one (ps_ret (pe_and (pe_callB call_isi (by rfl) z.isinstance (by decide +kernel) (pa_cons (pv 0) (pa_cons (pe_bltn (v := .ty "str") (u := .type "str") (by rfl) z.str (by decide +kernel) rfl) pa_nil))) (pe_one (pe_call c_is_text.G (hr.mono (by decide)) (by rfl) c_is_text.m c_is_text.kp c_is_text.b .nil pass0 (pa_cons (pv 0) pa_nil))))))))), ?_⟩
    refine ⟨_, rfl, rfl, _, rfl, ?_⟩
    cases hv with
    | non => exact iteDT rfl (q _ (Same.refl _))
    | bl b => exact iteDF (fun e => nomatch e) ⟨_, rfl, _, _, _, _, true, rfl, .ty _, .base (.bl b), kit_ty (by decide +kernel), _, rfl, q _ (Same.refl _)⟩
    | int i =>
      refine iteDF (fun e => nomatch e) ⟨_, rfl, _, _, _, _, false, rfl, .ty _, .base (.int i), kit_ty (by decide +kernel), _, rfl, ?_⟩
      refine ⟨_, rfl, _, _, _, _, true, rfl, .ty _, .base (.int i), kit_ty (by decide +kernel), _, rfl, ?_⟩
      refine ⟨_, rfl, _, _, rfl, rfl, _, rfl, ?_⟩
      refine ifD (fun h1 => ?_) (fun h1 => ?_)
      · refine ⟨_, rfl, _, _, rfl, rfl, ?_⟩
        have e : decide (i ≤ 999999999) = goodV (.int i) := by
          by_cases h2 : i ≤ 999999999
          · rw [decide_eq_true h2]; exact (decide_eq_true (by omega)).symm
          · rw [decide_eq_false h2]; exact (decide_eq_false (by omega)).symm
        show Q (.bl (decide (i ≤ 999999999))) H
        rw [e]
        exact q _ (Same.refl _)
      · have e : goodV (.int i) = false := decide_eq_false (by omega)
        rw [e] at q
        exact q _ (Same.refl _)
    | str y hy =>
      refine iteDF (fun e => nomatch e) ⟨_, rfl, _, _, _, _, false, rfl, .ty _, .base (.str y), kit_ty (by decide +kernel), _, rfl, ?_⟩
      refine ⟨_, rfl, _, _, _, _, false, rfl, .ty _, .base (.str y), kit_ty (by decide +kernel), _, rfl, ?_⟩
      refine ⟨_, rfl, _, _, _, _, true, rfl, .ty _, .base (.str y), kit_ty (by decide +kernel), _, rfl, ?_⟩
      exact ⟨_, rfl, y, rfl, hy, q⟩
    | lst ha =>
      refine iteDF (fun e => nomatch e) ⟨_, rfl, _, _, _, _, false, rfl, .ty _, .base (.lst ha), kit_ty (by decide +kernel), _, rfl, ?_⟩
      refine ⟨_, rfl, _, _, _, _, false, rfl, .ty _, .base (.lst ha), kit_ty (by decide +kernel), _, rfl, ?_⟩
      exact ⟨_, rfl, _, _, _, _, false, rfl, .ty _, .base (.lst ha), kit_ty (by decide +kernel), _, rfl, q _ (Same.refl _)⟩
    | tup ha =>
      refine iteDF (fun e => nomatch e) ⟨_, rfl, _, _, _, _, false, rfl, .ty _, .base (.tup ha), kit_ty (by decide +kernel), _, rfl, ?_⟩
      refine ⟨_, rfl, _, _, _, _, false, rfl, .ty _, .base (.tup ha), kit_ty (by decide +kernel), _, rfl, ?_⟩
      exact ⟨_, rfl, _, _, _, _, false, rfl, .ty _, .base (.tup ha), kit_ty (by decide +kernel), _, rfl, q _ (Same.refl _)⟩)
theorem ok_fits_kind {f : Addr} {fd : FuncData} (k : Kn K mg "fits_kind" s_fits_kind ["thing", "kind", "nullable"] f fd) (z : Z mg)
    {g_kind_of : Addr} {gd_kind_of : FuncData} (c_kind_of : Cal P w K mg base 1 "kind_of" ["value"] (spKindOf) g_kind_of gd_kind_of)
    {g_is_value : Addr} {gd_is_value : FuncData} (c_is_value : Cal P w K mg base 4 "is_value" ["thing"] (spIsValue) g_is_value gd_is_value) :
    Cal P w K mg base 5 "fits_kind" ["thing", "kind", "nullable"] (spFitsKind) f fd := k.cal (by
  refine k.F.ok sc_fits_kind (fun vs H Q E h => ?_) (fun cdv A outer s H vs Q E hr h => ?_)
  · obtain ⟨v, kk, b, rfl, _⟩ := h; rfl
  · obtain ⟨v, kk, b, rfl, hv, q⟩ := h
    refine ⟨_, (pss_cons (ps_if (pt_cmpR op_isN (pv 0) pe_non (nomark _)) (pss_one (ps_ret (pv 2))) pss_nil)
        (pss_one (ps_ret (pe_and (pe_call c_is_value.G (hr.mono (by decide)) (by rfl) c_is_value.m c_is_value.kp c_is_value.b .nil pass0 (pa_cons (pv 0) pa_nil)) (pe_one (pe_cmpR op_eq (pe_call c_kind_of.G (hr.mono (by decide)) (by rfl) c_kind_of.m c_kind_of.kp c_kind_of.b .nil pass0 (pa_cons (pv 0) pa_nil)) (pv 1) (nomark _))))))), ?_⟩
    refine ⟨_, rfl, rfl, _, rfl, ?_⟩
    refine ifD (fun h1 => ?_) (fun h1 => ?_)
    · have e : fitsK v kk b = b := by unfold fitsK; rw [if_pos h1]
      rw [e] at q
      exact ⟨_, rfl, q _ (Same.refl _)⟩
    have e : fitsK v kk b = (goodV v && decide (kindOf v = kk)) := by unfold fitsK; rw [if_neg h1]
    rw [e] at q
    refine ⟨_, rfl, v, rfl, hv, fun H1 s1 => ⟨_, rfl, ?_⟩⟩
    refine ite2 (fun hg => ?_) (fun hg => ?_)
    · have hs : isScal v = true := by
        cases hv with
        | non => rfl
        | bl b => rfl
        | int i => rfl
        | str z h => rfl
        | lst h => cases hg
        | tup h => cases hg
      refine ⟨_, rfl, v, rfl, hs, _, rfl, rfl, ?_⟩
      have e2 : decide (V.str (kindOf v) = V.str kk) = (goodV v && decide (kindOf v = kk)) := by
        rw [hg, Bool.true_and]
        by_cases h : kindOf v = kk
        · rw [decide_eq_true h, decide_eq_true (congrArg V.str h)]
        · rw [decide_eq_false h, decide_eq_false (fun z => h (V.str.inj z))]
      rw [e2]
      exact q _ s1
    · have hg' : goodV v = false := by simpa using hg
      rw [hg', Bool.false_and] at q
      exact q _ s1)
theorem ok_clause_fits {f : Addr} {fd : FuncData} (k : Kn K mg "clause_fits" s_clause_fits ["clause", "kinds"] f fd) (z : Z mg)
    {g_fits_kind : Addr} {gd_fits_kind : FuncData} (c_fits_kind : Cal P w K mg base 5 "fits_kind" ["thing", "kind", "nullable"] (spFitsKind) g_fits_kind gd_fits_kind) :
    Cal P w K mg base 6 "clause_fits" ["clause", "kinds"] (fun vs H Q _ => ∃ (a d : Addr) (cl : Cl) (cols : List Col), vs = [.ref a, .ref d] ∧ Tp H (.ref a) (clD cl) ∧ H d = some (.dK (kindsD cols)) ∧ ClG cl ∧ ∀ H', Same H H' → Q (.bl (clFits cols cl)) H') f fd := k.cal (by
  refine k.F.ok sc_clause_fits (fun vs H Q E h => ?_) (fun cdv A outer s H vs Q E hr h => ?_)
  · obtain ⟨a, d, cl, cols, rfl, _⟩ := h; rfl
  · obtain ⟨a, d, cl, cols, rfl, ha, hd, hg, q⟩ := h
    have hu := hu_of hr
    obtain ⟨a', e, ha, hsc⟩ := cl_at ha
    cases e
    refine ⟨_, (pss_cons (ps_asg (pv 0) (pg_tup (by rfl) (pgs_cons (pg_name (i := 2) sc_clause_fits.nd rfl (Or.inl rfl)) (pgs_cons (pg_name (i := 3) sc_clause_fits.nd rfl (Or.inl rfl)) (pgs_cons (pg_name (i := 4) sc_clause_fits.nd rfl (Or.inl rfl)) pgs_nil)))))
        (pss_one (ps_ret (pe_and (pe_cmp (pc_din hu (pv 2) (pv 1)) rfl) (pe_one (pe_call c_fits_kind.G (hr.mono (by decide)) (by rfl) c_fits_kind.m c_fits_kind.kp c_fits_kind.b .nil pass0 (pa_cons (pv 4) (pa_cons (pe_dget hu (pv 1) (pv 2) (fun _ _ => rfl)) (pa_cons pe_bl pa_nil))))))))), ?_⟩
    refine ⟨_, rfl, a, _, rfl, SqT.of ha, rfl, _, _, rfl, _, _, rfl, _, _, rfl, rfl, ?_⟩
    have g := DGet.k (k := (Sum.inr cl.n : Key)) hd
    rw [kinds_get] at g
    refine ⟨_, rfl, _, rfl, d, _, rfl, g, _, rfl, ?_⟩
    by_cases hn : cl.n ∈ colNs cols
    · rw [if_pos hn] at g
      rw [if_pos hn]
      refine ⟨_, rfl, _, rfl, _, rfl, d, _, rfl, g, cl.v, _, true, rfl, hg.thing, fun H1 s1 => ?_⟩
      have e : fitsK cl.v (kindAt cols cl.n) true = clFits cols cl := by unfold clFits; rw [decide_eq_true hn, Bool.true_and]
      rw [e]
      exact q _ s1
    · rw [if_neg hn]
      have e : clFits cols cl = false := by unfold clFits; rw [decide_eq_false hn, Bool.false_and]
      rw [e] at q
      exact q _ (Same.refl _))
theorem ok_fits {f : Addr} {fd : FuncData} (k : Kn K mg "fits" s_fits ["condition", "columns"] f fd) (z : Z mg)
    {g_clause_fits : Addr} {gd_clause_fits : FuncData} (c_clause_fits : Cal P w K mg base 6 "clause_fits" ["clause", "kinds"] (fun vs H Q _ => ∃ (a d : Addr) (cl : Cl) (cols : List Col), vs = [.ref a, .ref d] ∧ Tp H (.ref a) (clD cl) ∧ H d = some (.dK (kindsD cols)) ∧ ClG cl ∧ ∀ H', Same H H' → Q (.bl (clFits cols cl)) H') g_clause_fits gd_clause_fits) :
    Cal P w K mg base 7 "fits" ["condition", "columns"] (fun vs H Q _ => ∃ (c L : Addr) (cond : Cond) (cols : List Col), vs = [.ref c, .ref L] ∧ Tp H (.ref c) (condD cond) ∧ ColsAt H L cols ∧ (colNs cols).Nodup ∧ cols.length ≤ 100 ∧ (∀ a ∈ cond, ∀ cl ∈ a, ClG cl) ∧ cond.flatten.length ≤ 1000 ∧ ∀ H', Same H H' → Q (.bl (fitsM cols cond)) H') f fd := k.cal (by
  refine k.F.ok sc_fits (fun vs H Q E h => ?_) (fun cdv A outer s H vs Q E hr h => ?_)
  · obtain ⟨c, L, cond, cols, rfl, _⟩ := h; rfl
  · obtain ⟨c, L, cond, cols, rfl, hC, CA, nd, hl, hg, hf, q⟩ := h
    refine ⟨_, (pss_cons (ps_set (i := 2) sc_fits.nd rfl (Or.inr rfl) (pe_dc (own := [("column", 3)]) (g := gName 3) (tt := tYes) (by rfl) sc_fits.nd (pi_list (pv 1)) (blkOk_by (own := [("column", 3)]) (N := ["condition", "columns", "kinds", "column", "alternative", "clause"]) (sc := defScope s_fits) (by decide +kernel)) (fun _ _ _ _ _ => pg_name (i := 3) sc_fits.nd rfl (Or.inl rfl)) (fun _ _ _ _ _ => pts_nil) (fun _ _ _ _ _ => (pe_ix (r := rIxT K) ix_tup (pv 3) pe_int (fun _ _ => rfl))) (fun _ _ _ _ _ => (pe_ix (r := rIxT K) ix_tup (pv 3) pe_int (fun _ _ => rfl)))))
        (pss_one (ps_ret (pe_callB (cr_all rfl) (by rfl) z.all (by decide +kernel) (pa_cons (pe_lc2 (own := [("alternative", 4), ("clause", 5)]) (vs1 := [5]) (g := gName 4) (tt := tYes) (g1 := gName 5) (tt1 := tYes) (wi1 := iTup K (tVar 4))  (by rfl) sc_fits.nd (pi_tup (pv 0)) (blkOk_by (own := [("alternative", 4), ("clause", 5)]) (N := ["condition", "columns", "kinds", "column", "alternative", "clause"]) (sc := defScope s_fits) (by decide +kernel)) (by decide) (fun _ _ _ _ _ => pg_name (i := 4) sc_fits.nd rfl (Or.inl rfl)) (fun _ _ _ _ _ => pts_nil) (fun _ _ _ _ _ => (pi_tup (pv 4))) (fun _ _ _ _ _ => pg_name (i := 5) sc_fits.nd rfl (Or.inl rfl)) (fun _ _ _ _ _ => pts_nil) (fun _ _ _ _ _ => (pe_call c_clause_fits.G (hr.mono (by decide)) (by rfl) c_clause_fits.m c_clause_fits.kp c_clause_fits.b .nil pass0 (pa_cons (pv 5) (pa_cons (pv 2) pa_nil))))) pa_nil))))), ?_⟩
    obtain ⟨xs, h1, h2⟩ := id CA
    have hx : xs.length = cols.length := by rw [h2.length, List.length_map]
    refine ⟨_, rfl, L, rfl, ⟨_, SqL.of h1⟩, fun D hD => inner walk_list (fun i H' => H' D = some (.dK (kindsD (cols.take i))) ∧ Same H H') ⟨upd_same, same_new hD _⟩ (fun i H' _ hh => SqL.of (hh.2 _ _ h1)) ?_ ?_⟩
    · rintro i x H1 H1' hi ⟨hD1, s1⟩ ⟨rfl, ex⟩
      have hil : i < cols.length := by omega
      have ec : cols[i]? = some cols[i] := List.getElem?_eq_getElem hil
      obtain ⟨xs', a, k1, k2, k3⟩ := CA.get ec
      rw [h1] at k1
      cases k1
      rw [ex] at k2
      cases k2
      have k4 := s1 _ _ k3
      refine ⟨rfl, _, rfl, a, _, 0, _, rfl, rfl, SqT.of k4, atI_nat (j := 0) rfl, _, rfl, a, _, 1, _, rfl, rfl, SqT.of k4, atI_nat (j := 1) rfl, _, Sum.inr cols[i].n, rfl, hD1, (by unfold kindsD; rw [List.length_map, List.length_take]; exact small1000 (by omega)), ?_, same_upd hD _ s1⟩
      rw [upd_same, kinds_put nd ec]
    · rintro H1 ⟨hD1, s1⟩
      have et : cols.take xs.length = cols := List.take_of_length_le (by omega)
      rw [et] at hD1
      have hC1 := hC.mono (KeepT.of s1)
      obtain ⟨c', ys, e, hc, rc⟩ := t_at hC1
      cases e
      have hy : ys.length = cond.length := by rw [rc.length, List.length_map]
      refine ⟨_, rfl, c, rfl, ⟨_, SqT.of hc⟩, fun E hE => inner walk_tup (fun i H' => H' E = some (.lst (((cond.take i).flatten.map (clFits cols)).map V.bl)) ∧ Same H1 H') ⟨upd_same, same_new hE _⟩ (fun i H' _ hh => SqT.of (hh.2 _ _ hc)) ?_ ?_⟩
      · rintro i x H2 H2' hi ⟨hE2, s2⟩ ⟨rfl, ex⟩
        have hil : i < cond.length := by omega
        have ec : cond[i]? = some cond[i] := List.getElem?_eq_getElem hil
        have hm : cond[i] ∈ cond := List.getElem_mem hil
        obtain ⟨v, g1, g2⟩ := rc.get' (i := i) (d := altD cond[i]) (by rw [List.getElem?_map, ec]; rfl)
        rw [ex] at g1
        cases g1
        obtain ⟨al, ws, rfl, ha, ra⟩ := t_at g2
        have hw : ws.length = cond[i].length := by rw [ra.length, List.length_map]
        refine ⟨rfl, _, rfl, al, rfl, ⟨_, SqT.of (s2 _ _ ha)⟩, inner walk_tup (fun j H' => H' E = some (.lst ((((cond.take i).flatten ++ cond[i].take j).map (clFits cols)).map V.bl)) ∧ Same H1 H') ⟨by rw [List.take_zero, List.append_nil]; exact hE2, s2⟩ (fun j H' _ hh => SqT.of (hh.2 _ _ ha)) ?_ ?_⟩
        · rintro j y H3 H3' hj ⟨hE3, s3⟩ ⟨rfl, ey⟩
          have hjl : j < cond[i].length := by omega
          have ej : cond[i][j]? = some cond[i][j] := List.getElem?_eq_getElem hjl
          obtain ⟨v, g3, g4⟩ := ra.get' (i := j) (d := clD cond[i][j]) (by rw [List.getElem?_map, ej]; rfl)
          rw [ey] at g3
          cases g3
          obtain ⟨ca, rfl, _, _⟩ := cl_at g4
          have hED : ∀ o, H1 E = some o → False := fun o z => by rw [hE] at z; cases z
          refine ⟨rfl, _, rfl, _, rfl, ca, D, cond[i][j], cols, rfl, g4.mono (KeepT.of s3), s3 _ _ hD1, hg _ hm _ (List.getElem_mem hjl), fun H4 s4 => ?_⟩
          have fl : ((cond.take i).flatten ++ cond[i].take j).length ≤ 1000 := by
            have e1 : cond.flatten.length = ((cond.take i).flatten ++ cond[i] ++ (cond.drop (i + 1)).flatten).length := by
              conv => lhs; rw [← List.take_append_drop (i + 1) cond, List.flatten_append, flat_next ec]
            rw [List.length_append, List.length_append] at e1
            rw [List.length_append, List.length_take]
            omega
          refine ⟨_, s4 _ _ hE3, (by rw [List.length_map, List.length_map]; exact small1000 fl), ?_, same_upd hE _ (s3.trans s4)⟩
          rw [upd_same, flat_step ec ej, map2_snoc]
        · rintro H3 ⟨hE3, s3⟩
          rw [hw, List.take_length] at hE3
          exact ⟨by rw [flat_next ec]; exact hE3, s3⟩
      · rintro H2 ⟨hE2, s2⟩
        have et : cond.take ys.length = cond := List.take_of_length_le (by omega)
        rw [et] at hE2
        refine ⟨E, _, rfl, SqL.of hE2, ?_⟩
        have ee : (cond.flatten.map (clFits cols)).all id = fitsM cols cond := by rw [List.all_map]; exact all_flat cond (clFits cols)
        rw [ee]
        exact q _ (s1.trans s2))
theorem ok_law_all_names {f : Addr} {fd : FuncData} (k : Kn K mg "_law_all_names" s_law_all_names ["condition"] f fd) (z : Z mg) :
    Cal P w K mg base 1 "_law_all_names" ["condition"] (spAllNames) f fd := k.cal (by
  refine k.F.ok sc_law_all_names (fun vs H Q E h => ?_) (fun cdv A outer s H vs Q E hr h => ?_)
  · obtain ⟨c, cond, rfl, _⟩ := h; rfl
  · obtain ⟨c, cond, rfl, hC, hf, q⟩ := h
    refine ⟨_, (pss_cons (ps_set (i := 1) sc_law_all_names.nd rfl (Or.inl rfl) (pe_lst pa_nil))
        (pss_cons (ps_for PassesOwn.never rfl (pi_tup (pv 0)) (pg_name (i := 2) sc_law_all_names.nd rfl (Or.inl rfl))
        (pss_one (ps_for PassesOwn.never rfl (pi_tup (pv 2)) (pg_name (i := 3) sc_law_all_names.nd rfl (Or.inl rfl))
        (pss_one (ps_expr (pe_bm PySem.F.plainAttrs_list PySem.F.slot_list_append PySem.F.type_list_append mt_append (pv 1) (pa_cons (pe_ix ix_tup (pv 3) pe_int (fun _ _ => rfl)) pa_nil)))))))
        (pss_one (ps_ret (pv 1))))), ?_⟩
    obtain ⟨c', ys, e, hc, rc⟩ := t_at hC
    cases e
    have hy : ys.length = cond.length := by rw [rc.length, List.length_map]
    refine ⟨(by show 0 ≤ sizeLine; decide), fun R hR => ?_⟩
    refine ⟨_, rfl, c, rfl, ⟨_, SqT.of (same_new hR _ _ _ hc)⟩, for_it walk_tup (fun i σ H' => (∃ v2 v3, σ = [some (.ref c), some (.ref R), v2, v3]) ∧ H' R = some (.lst (((cond.take i).flatten.map (·.n)).map V.str)) ∧ Same H H') ⟨⟨_, _, rfl⟩, upd_same, same_new hR _⟩ (fun i σ H' _ hh => SqT.of (hh.2.2 _ _ hc)) ?_ ?_⟩
    · rintro i x σ H1 H1' hi ⟨⟨v2, v3, rfl⟩, R1, s1⟩ ⟨rfl, ex⟩
      have hil : i < cond.length := by omega
      have ec : cond[i]? = some cond[i] := List.getElem?_eq_getElem hil
      obtain ⟨v, g1, g2⟩ := rc.get' (i := i) (d := altD cond[i]) (by rw [List.getElem?_map, ec]; rfl)
      rw [ex] at g1
      cases g1
      obtain ⟨al, ws, rfl, ha, ra⟩ := t_at g2
      have hw : ws.length = cond[i].length := by rw [ra.length, List.length_map]
      refine ⟨_, rfl, al, rfl, ⟨_, SqT.of (s1 _ _ ha)⟩, for_it walk_tup (fun j σ H' => (∃ v3, σ = [some (.ref c), some (.ref R), some (.ref al), v3]) ∧ H' R = some (.lst ((((cond.take i).flatten ++ cond[i].take j).map (·.n)).map V.str)) ∧ Same H H') ⟨⟨_, rfl⟩, by rw [List.take_zero, List.append_nil]; exact R1, s1⟩ (fun j σ H' _ hh => SqT.of (hh.2.2 _ _ ha)) ?_ ?_⟩
      · rintro j y σ H2 H2' hj ⟨⟨v3, rfl⟩, R2, s2⟩ ⟨rfl, ey⟩
        have hjl : j < cond[i].length := by omega
        have ej : cond[i][j]? = some cond[i][j] := List.getElem?_eq_getElem hjl
        obtain ⟨v, g3, g4⟩ := ra.get' (i := j) (d := clD cond[i][j]) (by rw [List.getElem?_map, ej]; rfl)
        rw [ey] at g3
        cases g3
        obtain ⟨ca, rfl, hca, _⟩ := cl_at g4
        refine ⟨_, rfl, .inl ⟨rfl, _, SqL.of R2⟩, _, rfl, ca, _, 0, _, rfl, rfl, SqT.of (s2 _ _ hca), atI_nat (j := 0) rfl, R, _, _, rfl, rfl, R2, ?_, ⟨_, rfl⟩, ?_, same_upd hR _ s2⟩
        · rw [List.length_map, List.length_map]
          have := flat_len (j := j) ec
          exact small1000 (by omega)
        · rw [upd_same, flat_step ec ej, map2_snoc]
      · rintro σ H2 ⟨⟨v3, rfl⟩, R2, s2⟩
        rw [hw, List.take_length] at R2
        exact ⟨⟨_, _, rfl⟩, by rw [flat_next ec]; exact R2, s2⟩
    · rintro σ H1 ⟨⟨v2, v3, rfl⟩, R1, s1⟩
      have et : cond.take ys.length = cond := List.take_of_length_le (by omega)
      rw [et] at R1
      exact ⟨_, rfl, q R H1 R1 s1⟩)
theorem ok_mentions {f : Addr} {fd : FuncData} (k : Kn K mg "mentions" s_mentions ["condition", "name"] f fd) (z : Z mg) :
    Cal P w K mg base 1 "mentions" ["condition", "name"] (fun vs H Q _ => ∃ (c : Addr) (cond : Cond) (n : Str), vs = [.ref c, .str n] ∧ Tp H (.ref c) (condD cond) ∧ cond.flatten.length ≤ 1000 ∧ ∀ H', Same H H' → Q (.bl (mentM n cond)) H') f fd := k.cal (by
  refine k.F.ok sc_mentions (fun vs H Q E h => ?_) (fun cdv A outer s H vs Q E hr h => ?_)
  · obtain ⟨c, cond, n, rfl, _⟩ := h; rfl
  · obtain ⟨c, cond, nm, rfl, hC, hf, q⟩ := h
    refine ⟨_, (pss_one (ps_ret (pe_callB (cr_any rfl) (by rfl) z.any (by decide +kernel) (pa_cons (pe_lc2 (own := [("alternative", 2), ("clause", 3)]) (vs1 := [3]) (g := gName 2) (tt := tYes) (g1 := gName 3) (tt1 := tYes) (wi1 := iTup K (tVar 2))  (by rfl) sc_mentions.nd (pi_tup (pv 0)) (blkOk_by (own := [("alternative", 2), ("clause", 3)]) (N := ["condition", "name", "alternative", "clause"]) (sc := defScope s_mentions) (by decide +kernel)) (by decide) (fun _ _ _ _ _ => pg_name (i := 2) sc_mentions.nd rfl (Or.inl rfl)) (fun _ _ _ _ _ => pts_nil) (fun _ _ _ _ _ => (pi_tup (pv 2))) (fun _ _ _ _ _ => pg_name (i := 3) sc_mentions.nd rfl (Or.inl rfl)) (fun _ _ _ _ _ => pts_nil) (fun _ _ _ _ _ => (pe_cmpR op_eq (pe_ix (r := rIxT K) ix_tup (pv 3) pe_int (fun _ _ => rfl)) (pv 1) (nomark _)))) pa_nil)))), ?_⟩
    obtain ⟨c', ys, e, hc, rc⟩ := t_at hC
    cases e
    have hy : ys.length = cond.length := by rw [rc.length, List.length_map]
    refine ⟨_, rfl, c, rfl, ⟨_, SqT.of hc⟩, fun E hE => inner walk_tup (fun i H' => H' E = some (.lst (((cond.take i).flatten.map (fun cl => decide (cl.n = nm))).map V.bl)) ∧ Same H H') ⟨upd_same, same_new hE _⟩ (fun i H' _ hh => SqT.of (hh.2 _ _ hc)) ?_ ?_⟩
    · rintro i x H2 H2' hi ⟨hE2, s2⟩ ⟨rfl, ex⟩
      have hil : i < cond.length := by omega
      have ec : cond[i]? = some cond[i] := List.getElem?_eq_getElem hil
      obtain ⟨v, g1, g2⟩ := rc.get' (i := i) (d := altD cond[i]) (by rw [List.getElem?_map, ec]; rfl)
      rw [ex] at g1
      cases g1
      obtain ⟨al, ws, rfl, ha, ra⟩ := t_at g2
      have hw : ws.length = cond[i].length := by rw [ra.length, List.length_map]
      refine ⟨rfl, _, rfl, al, rfl, ⟨_, SqT.of (s2 _ _ ha)⟩, inner walk_tup (fun j H' => H' E = some (.lst ((((cond.take i).flatten ++ cond[i].take j).map (fun cl => decide (cl.n = nm))).map V.bl)) ∧ Same H H') ⟨by rw [List.take_zero, List.append_nil]; exact hE2, s2⟩ (fun j H' _ hh => SqT.of (hh.2 _ _ ha)) ?_ ?_⟩
      · rintro j y H3 H3' hj ⟨hE3, s3⟩ ⟨rfl, ey⟩
        have hjl : j < cond[i].length := by omega
        have ej : cond[i][j]? = some cond[i][j] := List.getElem?_eq_getElem hjl
        obtain ⟨v, g3, g4⟩ := ra.get' (i := j) (d := clD cond[i][j]) (by rw [List.getElem?_map, ej]; rfl)
        rw [ey] at g3
        cases g3
        obtain ⟨ca, rfl, hca, _⟩ := cl_at g4
        have fl : ((cond.take i).flatten ++ cond[i].take j).length ≤ 1000 := by
          have e1 : cond.flatten.length = ((cond.take i).flatten ++ cond[i] ++ (cond.drop (i + 1)).flatten).length := by
            conv => lhs; rw [← List.take_append_drop (i + 1) cond, List.flatten_append, flat_next ec]
          rw [List.length_append, List.length_append] at e1
          rw [List.length_append, List.length_take]
          omega
        refine ⟨rfl, _, rfl, ca, _, 0, _, rfl, rfl, SqT.of (s3 _ _ hca), atI_nat (j := 0) rfl, _, rfl, rfl, _, hE3, (by rw [List.length_map, List.length_map]; exact small1000 fl), ?_, same_upd hE _ s3⟩
        have ed : decide (V.str cond[i][j].n = V.str nm) = decide (cond[i][j].n = nm) := by
          by_cases h : cond[i][j].n = nm
          · rw [decide_eq_true h, decide_eq_true (congrArg V.str h)]
          · rw [decide_eq_false h, decide_eq_false (fun z => h (V.str.inj z))]
        rw [upd_same, flat_step ec ej, map2_snoc, ed]
      · rintro H3 ⟨hE3, s3⟩
        rw [hw, List.take_length] at hE3
        exact ⟨by rw [flat_next ec]; exact hE3, s3⟩
    · rintro H2 ⟨hE2, s2⟩
      have et : cond.take ys.length = cond := List.take_of_length_le (by omega)
      rw [et] at hE2
      refine ⟨E, _, rfl, SqL.of hE2, ?_⟩
      have ee : (cond.flatten.map (fun cl => decide (cl.n = nm))).any id = mentM nm cond := by rw [List.any_map]; exact any_flat cond _
      rw [ee]
      exact q _ s2)
theorem ok_renamed_clause {f : Addr} {fd : FuncData} (k : Kn K mg "renamed_clause" s_renamed_clause ["clause", "old", "new"] f fd) (z : Z mg) :
    Cal P w K mg base 1 "renamed_clause" ["clause", "old", "new"] (fun vs H Q _ => ∃ (a : Addr) (cl : Cl) (o n : Str), vs = [.ref a, .str o, .str n] ∧ Tp H (.ref a) (clD cl) ∧ ∀ v H', Tp H' v (clD (renCl o n cl)) → Same H H' → Q v H') f fd := k.cal (by
  refine k.F.ok sc_renamed_clause (fun vs H Q E h => ?_) (fun cdv A outer s H vs Q E hr h => ?_)
  · obtain ⟨a, cl, o, n, rfl, _⟩ := h; rfl
  · obtain ⟨a, cl, o, n, rfl, ha, q⟩ := h
    have ha' := ha
    obtain ⟨a', e, ha, hsc⟩ := cl_at ha
    cases e
    refine ⟨_, (pss_cons (ps_asg (pv 0) (pg_tup (by rfl) (pgs_cons (pg_name (i := 3) sc_renamed_clause.nd rfl (Or.inl rfl)) (pgs_cons (pg_name (i := 4) sc_renamed_clause.nd rfl (Or.inl rfl)) (pgs_cons (pg_name (i := 5) sc_renamed_clause.nd rfl (Or.inl rfl)) pgs_nil)))))
        (pss_cons (ps_if (pt_cmpR op_eq (pv 3) (pv 1) (nomark _)) (pss_one (ps_ret (pe_tup (pa_cons (pv 2) (pa_cons (pv 4) (pa_cons (pv 5) pa_nil)))))) pss_nil)
        (pss_one (ps_ret (pv 0))))), ?_⟩
    refine ⟨_, rfl, a, _, rfl, SqT.of ha, rfl, _, _, rfl, _, _, rfl, _, _, rfl, rfl, ?_⟩
    refine ⟨_, rfl, _, rfl, rfl, _, rfl, ?_⟩
    refine ifD (fun h1 => ?_) (fun h1 => ?_)
    · have e : renCl o n cl = ⟨n, cl.op, cl.v⟩ := by unfold renCl; rw [if_pos (V.str.inj h1)]
      rw [e] at q
      refine ⟨_, rfl, _, rfl, _, rfl, (by show 3 ≤ sizeLine; decide), fun p hp => ?_⟩
      exact q (.ref p) _ (cl_mk upd_same hsc) (same_new hp _)
    · have e : renCl o n cl = cl := by unfold renCl; rw [if_neg (fun z => h1 (congrArg V.str z))]
      rw [e] at q
      exact ⟨_, rfl, q _ _ ha' (Same.refl _)⟩)
theorem ok_renamed {f : Addr} {fd : FuncData} (k : Kn K mg "renamed" s_renamed ["condition", "old", "new"] f fd) (z : Z mg)
    {g_renamed_clause : Addr} {gd_renamed_clause : FuncData} (c_renamed_clause : Cal P w K mg base 1 "renamed_clause" ["clause", "old", "new"] (fun vs H Q _ => ∃ (a : Addr) (cl : Cl) (o n : Str), vs = [.ref a, .str o, .str n] ∧ Tp H (.ref a) (clD cl) ∧ ∀ v H', Tp H' v (clD (renCl o n cl)) → Same H H' → Q v H') g_renamed_clause gd_renamed_clause) :
    Cal P w K mg base 2 "renamed" ["condition", "old", "new"] (spRenamed) f fd := k.cal (by
  refine k.F.ok sc_renamed (fun vs H Q E h => ?_) (fun cdv A outer s H vs Q E hr h => ?_)
  · obtain ⟨c, cond, o, n, rfl, _⟩ := h; rfl
  · obtain ⟨c, cond, o, n, rfl, hC, hl1, hl2, q⟩ := h
    refine ⟨_, (pss_one (ps_ret (pe_callTy call_tuple_of (by rfl) z.tuple (by decide +kernel) (pa_cons (pe_lc (own := [("alternative", 3)]) (g := gName 3) (tt := tYes) (by rfl) sc_renamed.nd (pi_tup (pv 0)) (blkOk_by (own := [("alternative", 3)]) (N := ["condition", "old", "new", "alternative", "clause"]) (sc := defScope s_renamed) (by decide +kernel)) (fun _ _ _ _ _ => pg_name (i := 3) sc_renamed.nd rfl (Or.inl rfl)) (fun _ _ _ _ _ => pts_nil) (fun _ _ _ _ _ => (pe_callTy (r := rTup K) ct (by rfl) z.tuple (by decide +kernel) (pa_cons (pe_lc (own := [("clause", 4)]) (g := gName 4) (tt := tYes) (wi := iTup K (tVar 3)) (by rfl) sc_renamed.nd (pi_tup (pv 3)) (blkOk_by (own := [("clause", 4)]) (N := ["condition", "old", "new", "alternative", "clause"]) (sc := relS _ (defScope s_renamed)) (by decide +kernel)) (fun _ _ _ _ _ => pg_name (i := 4) sc_renamed.nd rfl (Or.inl rfl)) (fun _ _ _ _ _ => pts_nil) (fun _ _ _ _ _ => (pe_call c_renamed_clause.G (hr.mono (by decide)) (by rfl) c_renamed_clause.m c_renamed_clause.kp c_renamed_clause.b .nil pass0 (pa_cons (pv 4) (pa_cons (pv 1) (pa_cons (pv 2) pa_nil)))))) pa_nil)))) pa_nil)))), ?_⟩
    obtain ⟨c', ys, e, hc, rc⟩ := t_at hC
    cases e
    have hy : ys.length = cond.length := by rw [rc.length, List.length_map]
    refine ⟨_, rfl, c, rfl, ⟨_, SqT.of hc⟩, fun D hD => inner walk_tup (fun i H' => ∃ xs, H' D = some (.lst xs) ∧ TpL H' xs (((renM o n cond).take i).map altD) ∧ Same H H') ⟨[], upd_same, .nil, same_new hD _⟩ (fun i H' _ ⟨_, _, _, s⟩ => SqT.of (s _ _ hc)) ?_ ?_⟩
    · rintro i x H1 H1' hi ⟨xs, hD1, r1, s1⟩ ⟨rfl, ex⟩
      have hil : i < cond.length := by omega
      have ec : cond[i]? = some cond[i] := List.getElem?_eq_getElem hil
      have hm : cond[i] ∈ cond := List.getElem_mem hil
      obtain ⟨v, g1, g2⟩ := rc.get' (i := i) (d := altD cond[i]) (by rw [List.getElem?_map, ec]; rfl)
      rw [ex] at g1
      cases g1
      obtain ⟨al, ws, rfl, ha, ra⟩ := t_at g2
      have hw : ws.length = cond[i].length := by rw [ra.length, List.length_map]
      refine ⟨rfl, _, rfl, al, rfl, ⟨_, SqT.of (s1 _ _ ha)⟩, fun E hE => inner walk_tup (fun j H' => ∃ zs, H' E = some (.lst zs) ∧ TpL H' zs (((cond[i].map (renCl o n)).take j).map clD) ∧ Same H1' H') ⟨[], upd_same, .nil, same_new hE _⟩ (fun j H' _ ⟨_, _, _, s⟩ => SqT.of (s _ _ (s1 _ _ ha))) ?_ ?_⟩
      · rintro j y H2 H2' hj ⟨zs, hE2, r2, s2⟩ ⟨rfl, ey⟩
        have hjl : j < cond[i].length := by omega
        have ej : cond[i][j]? = some cond[i][j] := List.getElem?_eq_getElem hjl
        obtain ⟨v, g3, g4⟩ := ra.get' (i := j) (d := clD cond[i][j]) (by rw [List.getElem?_map, ej]; rfl)
        rw [ey] at g3
        cases g3
        obtain ⟨ca, rfl, _, _⟩ := cl_at g4
        refine ⟨rfl, _, rfl, _, rfl, _, rfl, ca, cond[i][j], o, n, rfl, (g4.mono (KeepT.of s1)).mono (KeepT.of s2), fun v H3 hv s3 => ?_⟩
        have hE3 := s3 _ _ hE2
        have lz : zs.length ≤ 1000 := by have := hl2 _ hm; rw [r2.length, List.length_map, List.length_take, List.length_map]; omega
        have ku : KeepT H3 (upd H3 E (.lst (zs ++ [v]))) := KeepT.upd (fun zs z => by rw [hE3] at z; cases z)
        refine ⟨zs, hE3, small1000 lz, zs ++ [v], upd_same, ?_, same_upd hE _ (s2.trans s3)⟩
        have et : (cond[i].map (renCl o n))[j]? = some (renCl o n cond[i][j]) := by rw [List.getElem?_map, ej]; rfl
        rw [List.take_add_one, et, List.map_append]
        exact TpL.snoc ((r2.mono (KeepT.of s3)).mono ku) (hv.mono ku)
      · rintro H2 ⟨zs, hE2, r2, s2⟩
        rw [List.take_of_length_le (by rw [List.length_map]; omega)] at r2
        refine ⟨E, zs, rfl, .inl ⟨SqL.of hE2, fun p hp => ?_⟩⟩
        have e3 := same_new hp (.tup zs)
        have hD3 := e3 _ _ (s2 _ _ hD1)
        have lx : xs.length ≤ 1000 := by rw [r1.length, List.length_map, List.length_take]; unfold renM; rw [List.length_map]; omega
        have ku : KeepT (upd H2 p (.tup zs)) (upd (upd H2 p (.tup zs)) D (.lst (xs ++ [.ref p]))) := KeepT.upd (fun zs z => by rw [hD3] at z; cases z)
        refine ⟨xs, hD3, small1000 lx, xs ++ [.ref p], upd_same, ?_, same_upd hD _ (s1.trans (s2.trans e3))⟩
        have et : (renM o n cond)[i]? = some (cond[i].map (renCl o n)) := by unfold renM; rw [List.getElem?_map, ec]; rfl
        rw [List.take_add_one, et, List.map_append]
        exact TpL.snoc (((r1.mono (KeepT.of s2)).mono (KeepT.of e3)).mono ku) (.t (ku _ _ upd_same) ((r2.mono (KeepT.of e3)).mono ku))
    · rintro H1 ⟨xs, hD1, r1, s1⟩
      rw [List.take_of_length_le (by unfold renM; rw [List.length_map]; omega)] at r1
      refine ⟨D, xs, rfl, .inl ⟨SqL.of hD1, fun p hp => ?_⟩⟩
      exact q p _ (.t upd_same (r1.mono (KeepT.new hp _))) (s1.trans (same_new hp _)))
theorem ok_law_renamed {f : Addr} {fd : FuncData} (k : Kn K mg "_law_renamed" s_law_renamed ["condition", "old", "new"] f fd) (z : Z mg) :
    Cal P w K mg base 1 "_law_renamed" ["condition", "old", "new"] (spRenamed) f fd := k.cal (by
  refine k.F.ok sc_law_renamed (fun vs H Q E h => ?_) (fun cdv A outer s H vs Q E hr h => ?_)
  · obtain ⟨c, cond, o, n, rfl, _⟩ := h; rfl
  · obtain ⟨c, cond, o, n, rfl, hC, hl1, hl2, q⟩ := h
    refine ⟨_, (pss_cons (ps_set (i := 3) sc_law_renamed.nd rfl (Or.inl rfl) (pe_lst pa_nil))
        (pss_cons (ps_for PassesOwn.never rfl (pi_tup (pv 0)) (pg_name (i := 4) sc_law_renamed.nd rfl (Or.inl rfl))
        (pss_cons (ps_set (i := 5) sc_law_renamed.nd rfl (Or.inl rfl) (pe_lst pa_nil))
        (pss_cons (ps_for PassesOwn.never rfl (pi_tup (pv 4)) (pg_tup (by rfl) (pgs_cons (pg_name (i := 6) sc_law_renamed.nd rfl (Or.inl rfl)) (pgs_cons (pg_name (i := 7) sc_law_renamed.nd rfl (Or.inl rfl)) (pgs_cons (pg_name (i := 8) sc_law_renamed.nd rfl (Or.inl rfl)) pgs_nil))))
        (pss_cut (ps_if (pt_cmpR op_eq (pv 6) (pv 1) (nomark _)) (pss_one (ps_set (i := 6) sc_law_renamed.nd rfl (Or.inl rfl) (pv 2))) pss_nil)
        (pss_one (ps_expr (pe_bm PySem.F.plainAttrs_list PySem.F.slot_list_append PySem.F.type_list_append mt_append (pv 5) (pa_cons (pe_tup (pa_cons (pv 6) (pa_cons (pv 7) (pa_cons (pv 8) pa_nil)))) pa_nil))))))
        (pss_one (ps_expr (pe_bm PySem.F.plainAttrs_list PySem.F.slot_list_append PySem.F.type_list_append mt_append (pv 3) (pa_cons (pe_callTy call_tuple_of (by rfl) z.tuple (by decide +kernel) (pa_cons (pv 5) pa_nil)) pa_nil)))))))
        (pss_one (ps_ret (pe_callTy call_tuple_of (by rfl) z.tuple (by decide +kernel) (pa_cons (pv 3) pa_nil)))))), ?_⟩
    obtain ⟨c', ys, e, hc, rc⟩ := t_at hC
    cases e
    have hy : ys.length = cond.length := by rw [rc.length, List.length_map]
    refine ⟨(by show 0 ≤ sizeLine; decide), fun D hD => ?_⟩
    refine ⟨_, rfl, c, rfl, ⟨_, SqT.of (same_new hD _ _ _ hc)⟩, for_it walk_tup (fun i σ H' => ∃ v4 v5 v6 v7 v8 xs, σ = [some (.ref c), some (.str o), some (.str n), some (.ref D), v4, v5, v6, v7, v8] ∧ H' D = some (.lst xs) ∧ TpL H' xs (((renM o n cond).take i).map altD) ∧ Same H H') ⟨_, _, _, _, _, [], rfl, upd_same, .nil, same_new hD _⟩ (fun i σ H' _ ⟨_, _, _, _, _, _, _, _, _, s⟩ => SqT.of (s _ _ hc)) ?_ ?_⟩
    · rintro i x σ H1 H1' hi ⟨v4, v5, v6, v7, v8, xs, rfl, hD1, r1, s1⟩ ⟨rfl, ex⟩
      have hil : i < cond.length := by omega
      have ec : cond[i]? = some cond[i] := List.getElem?_eq_getElem hil
      have hm : cond[i] ∈ cond := List.getElem_mem hil
      obtain ⟨v, g1, g2⟩ := rc.get' (i := i) (d := altD cond[i]) (by rw [List.getElem?_map, ec]; rfl)
      rw [ex] at g1
      cases g1
      obtain ⟨al, ws, rfl, ha, ra⟩ := t_at g2
      have hw : ws.length = cond[i].length := by rw [ra.length, List.length_map]
      refine ⟨(by show 0 ≤ sizeLine; decide), fun E hE => ?_⟩
      refine ⟨_, rfl, al, rfl, ⟨_, SqT.of (same_new hE _ _ _ (s1 _ _ ha))⟩, for_it walk_tup (fun j σ H' => ∃ v6 v7 v8 zs, σ = [some (.ref c), some (.str o), some (.str n), some (.ref D), some (.ref al), some (.ref E), v6, v7, v8] ∧ H' E = some (.lst zs) ∧ TpL H' zs (((cond[i].map (renCl o n)).take j).map clD) ∧ Same H1' H') ⟨_, _, _, [], rfl, upd_same, .nil, same_new hE _⟩ (fun j σ H' _ ⟨_, _, _, _, _, _, _, s⟩ => SqT.of (s _ _ (s1 _ _ ha))) ?_ ?_⟩
      · rintro j y σ H2 H2' hj ⟨v6, v7, v8, zs, rfl, hE2, r2, s2⟩ ⟨rfl, ey⟩
        have hjl : j < cond[i].length := by omega
        have ej : cond[i][j]? = some cond[i][j] := List.getElem?_eq_getElem hjl
        obtain ⟨v, g3, g4⟩ := ra.get' (i := j) (d := clD cond[i][j]) (by rw [List.getElem?_map, ej]; rfl)
        rw [ey] at g3
        cases g3
        obtain ⟨ca, rfl, hca, hsc⟩ := cl_at g4
        have et : (cond[i].map (renCl o n))[j]? = some (renCl o n cond[i][j]) := by rw [List.getElem?_map, ej]; rfl
        generalize cond[i][j] = cl at *
        refine ⟨ca, _, rfl, SqT.of (s2 _ _ (s1 _ _ hca)), rfl, _, _, rfl, _, _, rfl, _, _, rfl, rfl, ?_⟩
        refine ⟨fun σ' H' => σ' = [some (.ref c), some (.str o), some (.str n), some (.ref D), some (.ref al), some (.ref E), some (.str (renCl o n cl).n), some (.str cl.op), some cl.v] ∧ H' = H2', ?_, ?_⟩
        · refine ⟨_, rfl, _, rfl, rfl, _, rfl, ?_⟩
          refine ifD (fun h1 => ?_) (fun h1 => ?_)
          · refine ⟨_, rfl, ?_, rfl⟩
            unfold renCl
            rw [if_pos (V.str.inj h1)]
            rfl
          · refine ⟨?_, rfl⟩
            unfold renCl
            rw [if_neg (fun z => h1 (congrArg V.str z))]
            rfl
        · rintro σ' H' ⟨rfl, rfl⟩
          refine ⟨_, rfl, .inl ⟨rfl, _, SqL.of hE2⟩, _, rfl, _, rfl, _, rfl, (by show 3 ≤ sizeLine; decide), fun p hp => ?_⟩
          have e3 := same_new hp (.tup [.str (renCl o n cl).n, .str cl.op, cl.v])
          have hE3 := e3 _ _ hE2
          have lz : zs.length ≤ 1000 := by have := hl2 _ hm; rw [r2.length, List.length_map, List.length_take, List.length_map]; omega
          refine ⟨E, zs, _, rfl, rfl, hE3, small1000 lz, ?_⟩
          have ku : KeepT (upd H' p (.tup [.str (renCl o n cl).n, .str cl.op, cl.v])) (upd (upd H' p (.tup [.str (renCl o n cl).n, .str cl.op, cl.v])) E (.lst (zs ++ [.ref p]))) := KeepT.upd (fun zs z => by rw [hE3] at z; cases z)
          refine ⟨_, _, _, zs ++ [.ref p], rfl, upd_same, ?_, same_upd hE _ (s2.trans e3)⟩
          rw [List.take_add_one, et, List.map_append]
          refine TpL.snoc ((r2.mono (KeepT.of e3)).mono ku) ?_
          have ev : (renCl o n cl).v = cl.v ∧ (renCl o n cl).op = cl.op := by unfold renCl; split <;> exact ⟨rfl, rfl⟩
          refine cl_mk ?_ (by rw [ev.1]; exact hsc)
          rw [ev.1, ev.2]
          exact ku _ _ upd_same
      · rintro σ H2 ⟨v6, v7, v8, zs, rfl, hE2, r2, s2⟩
        rw [List.take_of_length_le (by rw [List.length_map]; omega)] at r2
        have hD2 := s2 _ _ hD1
        refine ⟨_, rfl, .inl ⟨rfl, _, SqL.of hD2⟩, _, rfl, E, zs, rfl, .inl ⟨SqL.of hE2, fun p hp => ?_⟩⟩
        have e3 := same_new hp (.tup zs)
        have hD3 := e3 _ _ hD2
        have lx : xs.length ≤ 1000 := by rw [r1.length, List.length_map, List.length_take]; unfold renM; rw [List.length_map]; omega
        refine ⟨D, xs, _, rfl, rfl, hD3, small1000 lx, ?_⟩
        have ku : KeepT (upd H2 p (.tup zs)) (upd (upd H2 p (.tup zs)) D (.lst (xs ++ [.ref p]))) := KeepT.upd (fun zs z => by rw [hD3] at z; cases z)
        refine ⟨_, _, _, _, _, xs ++ [.ref p], rfl, upd_same, ?_, same_upd hD _ (s1.trans (s2.trans e3))⟩
        have et : (renM o n cond)[i]? = some (cond[i].map (renCl o n)) := by unfold renM; rw [List.getElem?_map, ec]; rfl
        rw [List.take_add_one, et, List.map_append]
        exact TpL.snoc (((r1.mono (KeepT.of s2)).mono (KeepT.of e3)).mono ku) (.t (ku _ _ upd_same) ((r2.mono (KeepT.of e3)).mono ku))
    · rintro σ H1 ⟨v4, v5, v6, v7, v8, xs, rfl, hD1, r1, s1⟩
      rw [List.take_of_length_le (by unfold renM; rw [List.length_map]; omega)] at r1
      refine ⟨_, rfl, D, xs, rfl, .inl ⟨SqL.of hD1, fun p hp => ?_⟩⟩
      exact q p _ (.t upd_same (r1.mono (KeepT.new hp _))) (s1.trans (same_new hp _)))
theorem ok_law {f : Addr} {fd : FuncData} (k : Kn K mg "law" s_law ["script"] f fd) (z : Z mg)
    {g_law_tape : Addr} {gd_law_tape : FuncData} (c_law_tape : Cal P w K mg base 1 "_law_tape" ["script"] (spTape K) g_law_tape gd_law_tape)
    {g_law_columns : Addr} {gd_law_columns : FuncData} (c_law_columns : Cal P w K mg base 3 "_law_columns" ["tape", "used", "many"] (spColumns) g_law_columns gd_law_columns)
    {g_law_take : Addr} {gd_law_take : FuncData} (c_law_take : Cal P w K mg base 1 "_law_take" ["tape", "many"] (spTake) g_law_take gd_law_take)
    {g_law_spoil : Addr} {gd_law_spoil : FuncData} (c_law_spoil : Cal P w K mg base 4 "_law_spoil" ["tape", "condition", "columns", "used"] (spSpoil) g_law_spoil gd_law_spoil)
    {g_law_condition : Addr} {gd_law_condition : FuncData} (c_law_condition : Cal P w K mg base 6 "_law_condition" ["tape", "columns"] (spCond) g_law_condition gd_law_condition)
    {g_law_same : Addr} {gd_law_same : FuncData} (c_law_same : Cal P w K mg base 12 "_law_same" ["actual", "expected"] (spSame K 6) g_law_same gd_law_same)
    {g_law_fits : Addr} {gd_law_fits : FuncData} (c_law_fits : Cal P w K mg base 2 "_law_fits" ["condition", "columns"] (fun vs H Q _ => ∃ (c L : Addr) (cond : Cond) (cols : List Col), vs = [.ref c, .ref L] ∧ Tp H (.ref c) (condD cond) ∧ ColsAt H L cols ∧ (∀ x ∈ cols, x.k = ("int" : Str) ∨ x.k = ("text" : Str)) ∧ cols.length ≤ 100 ∧ (∀ a ∈ cond, ∀ cl ∈ a, ClG cl) ∧ ∀ H', Same H H' → Q (.bl (fitsM cols cond)) H') g_law_fits gd_law_fits)
    {g_fits : Addr} {gd_fits : FuncData} (c_fits : Cal P w K mg base 7 "fits" ["condition", "columns"] (fun vs H Q _ => ∃ (c L : Addr) (cond : Cond) (cols : List Col), vs = [.ref c, .ref L] ∧ Tp H (.ref c) (condD cond) ∧ ColsAt H L cols ∧ (colNs cols).Nodup ∧ cols.length ≤ 100 ∧ (∀ a ∈ cond, ∀ cl ∈ a, ClG cl) ∧ cond.flatten.length ≤ 1000 ∧ ∀ H', Same H H' → Q (.bl (fitsM cols cond)) H') g_fits gd_fits)
    {g_law_name : Addr} {gd_law_name : FuncData} (c_law_name : Cal P w K mg base 2 "_law_name" ["tape", "used"] (spName) g_law_name gd_law_name)
    {g_law_all_names : Addr} {gd_law_all_names : FuncData} (c_law_all_names : Cal P w K mg base 1 "_law_all_names" ["condition"] (spAllNames) g_law_all_names gd_law_all_names)
    {g_mentions : Addr} {gd_mentions : FuncData} (c_mentions : Cal P w K mg base 1 "mentions" ["condition", "name"] (fun vs H Q _ => ∃ (c : Addr) (cond : Cond) (n : Str), vs = [.ref c, .str n] ∧ Tp H (.ref c) (condD cond) ∧ cond.flatten.length ≤ 1000 ∧ ∀ H', Same H H' → Q (.bl (mentM n cond)) H') g_mentions gd_mentions)
    {g_renamed : Addr} {gd_renamed : FuncData} (c_renamed : Cal P w K mg base 2 "renamed" ["condition", "old", "new"] (spRenamed) g_renamed gd_renamed)
    {g_law_renamed : Addr} {gd_law_renamed : FuncData} (c_law_renamed : Cal P w K mg base 1 "_law_renamed" ["condition", "old", "new"] (spRenamed) g_law_renamed gd_law_renamed) :
    Cal P w K mg base 13 "law" ["script"] (spLaw K) f fd := k.cal (by
  refine k.F.ok sc_law (fun vs H Q E h => ?_) (fun cdv A outer s H vs Q E hr h => ?_)
  · obtain ⟨a, ns, rfl, _⟩ := h; rfl
  · obtain ⟨a, ns, rfl, hS, h63, q⟩ := h
    refine ⟨_, (pss_cons (ps_set (i := 1) sc_law.nd rfl (Or.inl rfl) (pe_call c_law_tape.G (hr.mono (by decide)) (by rfl) c_law_tape.m c_law_tape.kp c_law_tape.b .nil pass0 (pa_cons (pv 0) pa_nil)))
        (pss_cons (ps_set (i := 2) sc_law.nd rfl (Or.inl rfl) (pe_lst pa_nil))
        (pss_cons (ps_set (i := 3) sc_law.nd rfl (Or.inl rfl) (pe_call c_law_columns.G (hr.mono (by decide)) (by rfl) c_law_columns.m c_law_columns.kp c_law_columns.b .nil pass0 (pa_cons (pv 1) (pa_cons (pv 2) (pa_cons (pe_call c_law_take.G (hr.mono (by decide)) (by rfl) c_law_take.m c_law_take.kp c_law_take.b .nil pass0 (pa_cons (pv 1) (pa_cons pe_int pa_nil))) pa_nil)))))
        (pss_cons (ps_set (i := 4) sc_law.nd rfl (Or.inl rfl) (pe_call c_law_spoil.G (hr.mono (by decide)) (by rfl) c_law_spoil.m c_law_spoil.kp c_law_spoil.b .nil pass0 (pa_cons (pv 1) (pa_cons (pe_call c_law_condition.G (hr.mono (by decide)) (by rfl) c_law_condition.m c_law_condition.kp c_law_condition.b .nil pass0 (pa_cons (pv 1) (pa_cons (pv 3) pa_nil))) (pa_cons (pv 3) (pa_cons (pv 2) pa_nil))))))
        (pss_cons (ps_if (pt_not (pt_val (pe_call c_law_same.G (hr.mono (by decide)) (by rfl) c_law_same.m c_law_same.kp c_law_same.b .nil pass0 (pa_cons (pe_call c_fits.G (hr.mono (by decide)) (by rfl) c_fits.m c_fits.kp c_fits.b .nil pass0 (pa_cons (pv 4) (pa_cons (pe_callTy call_list_of (by rfl) z.list (by decide +kernel) (pa_cons (pv 3) pa_nil)) pa_nil))) (pa_cons (pe_call c_law_fits.G (hr.mono (by decide)) (by rfl) c_law_fits.m c_law_fits.kp c_law_fits.b .nil pass0 (pa_cons (pv 4) (pa_cons (pv 3) pa_nil))) pa_nil))))) (pss_one (ps_ret pe_bl)) pss_nil)
        (pss_cons (ps_set (i := 5) sc_law.nd rfl (Or.inl rfl) (pe_call c_law_name.G (hr.mono (by decide)) (by rfl) c_law_name.m c_law_name.kp c_law_name.b .nil pass0 (pa_cons (pv 1) (pa_cons (pv 2) pa_nil))))
        (pss_cons (ps_for PassesOwn.never rfl (pi_list (pv 2)) (pg_name (i := 6) sc_law.nd rfl (Or.inl rfl))
        (pss_cons (ps_if (pt_not (pt_val (pe_call c_law_same.G (hr.mono (by decide)) (by rfl) c_law_same.m c_law_same.kp c_law_same.b .nil pass0 (pa_cons (pe_call c_mentions.G (hr.mono (by decide)) (by rfl) c_mentions.m c_mentions.kp c_mentions.b .nil pass0 (pa_cons (pv 4) (pa_cons (pv 6) pa_nil))) (pa_cons (pe_cmpR op_in_seq (pv 6) (pe_call c_law_all_names.G (hr.mono (by decide)) (by rfl) c_law_all_names.m c_law_all_names.kp c_law_all_names.b .nil pass0 (pa_cons (pv 4) pa_nil)) (by rfl)) pa_nil))))) (pss_one (ps_ret pe_bl)) pss_nil)
        (pss_cons (ps_set (i := 7) sc_law.nd rfl (Or.inl rfl) (pe_call c_renamed.G (hr.mono (by decide)) (by rfl) c_renamed.m c_renamed.kp c_renamed.b .nil pass0 (pa_cons (pv 4) (pa_cons (pv 6) (pa_cons (pv 5) pa_nil)))))
        (pss_cons (ps_if (pt_not (pt_val (pe_call c_law_same.G (hr.mono (by decide)) (by rfl) c_law_same.m c_law_same.kp c_law_same.b .nil pass0 (pa_cons (pv 7) (pa_cons (pe_call c_law_renamed.G (hr.mono (by decide)) (by rfl) c_law_renamed.m c_law_renamed.kp c_law_renamed.b .nil pass0 (pa_cons (pv 4) (pa_cons (pv 6) (pa_cons (pv 5) pa_nil)))) pa_nil))))) (pss_one (ps_ret pe_bl)) pss_nil)
        (pss_one (ps_if (PW.pt (pw_and (pt_cmpR op_ne (pv 6) (pv 5) (nomark _)) (pw_and1 (pt_not (pt_val (pe_call c_law_same.G (hr.mono (by decide)) (by rfl) c_law_same.m c_law_same.kp c_law_same.b .nil pass0 (pa_cons (pe_call c_renamed.G (hr.mono (by decide)) (by rfl) c_renamed.m c_renamed.kp c_renamed.b .nil pass0 (pa_cons (pv 7) (pa_cons (pv 5) (pa_cons (pv 6) pa_nil)))) (pa_cons (pv 4) pa_nil)))))))) (pss_one (ps_ret pe_bl)) pss_nil))))))
        (pss_one (ps_ret pe_bl))))))))), ?_⟩
    refine ⟨_, rfl, a, ns, rfl, hS, h63, fun t c cs H1 T1 s1 _ => ?_⟩
    refine ⟨(by show 0 ≤ sizeLine; decide), fun u hu => ?_⟩
    have fu := T1.fresh hu
    refine ⟨_, rfl, _, rfl, _, rfl, t, c, cs, 5, rfl, T1.mono (same_new hu _), by decide, by decide +kernel, fun m H3 m0 m1 T3 s3 => ?_⟩
    refine ⟨t, c, u, cs, [], m, rfl, T3, s3 _ _ upd_same fu.1, fu.2.symm, m0, by omega, by show ((0 : Nat) : Int) + m ≤ 25; omega, fun L cols xs H4 hL0 hL r4 l4 C4 T4 u4 s4 => ?_⟩
    rw [List.nil_append] at u4
    have CA : ColsAt H4 L cols := ⟨xs, hL, r4⟩
    have hLt : L ≠ t := T4.notL hL
    have lcn : (colNs cols).length = cols.length := by unfold colNs; rw [List.length_map]
    refine ⟨_, rfl, _, rfl, _, rfl, t, c, L, cs, cols, rfl, T4, CA, by omega, by omega, fun v cond H5 hc kc lc mc T5 s5 => ?_⟩
    obtain ⟨ca, ys, rfl, hca, rca⟩ := t_at hc
    have hLu : L ≠ u := (ne_of_none (s3 _ _ upd_same fu.1) hL0).symm
    have hcn : ∀ x ∈ cond, ∀ cl ∈ x, ClG cl ∧ cl.n ∈ colNs cols := fun x hx cl hcl => by
      have k := kc x hx cl hcl
      refine ⟨k.g, ?_⟩
      obtain ⟨_, col, h1, h2, _⟩ := k
      rw [h2]
      exact List.mem_map.mpr ⟨col, h1, rfl⟩
    have u5 := s5 _ _ u4 (T4.notL u4)
    refine ⟨_, rfl, _, rfl, t, c, u, ca, L, cs, colNs cols, cond, rfl, T5, hc, lc, mc, hcn, u5, fu.2.symm, by omega, fun p cond' us' H6 hp lc' mc' kc' lu' u6 T6 s6 => ?_⟩
    have hL6 := s6 _ _ (s5 _ _ hL hLt) hLt hLu
    have K46 : KeepT H4 H6 := (KeepT.ofX T4 s5).trans (KeepT.ofXY T5 u5 s6)
    have C6 : ColsAt H6 L cols := ⟨xs, hL6, r4.mono K46⟩
    have fl := small_flat lc' mc'
    refine ⟨_, rfl, _, rfl, L, _, rfl, .inl (SqL.of hL6), fun M hM => ?_⟩
    have e7 := same_new hM (.lst xs)
    have C7 : ColsAt (upd H6 M (.lst xs)) M cols := ⟨xs, upd_same, (r4.mono K46).mono (KeepT.of e7)⟩
    refine ⟨p, M, cond', cols, rfl, hp.mono (KeepT.of e7), C7, C4.nd, by omega, fun x hx cl hcl => (kc' x hx cl hcl).1, by omega, fun H8 s8 => ?_⟩
    have S8 : Same H6 H8 := e7.trans s8
    refine ⟨_, rfl, _, rfl, p, L, cond', cols, rfl, hp.mono (KeepT.of S8), C6.mono (KeepT.of S8) (fun o h => S8 _ _ h), C4.kd, by omega, fun x hx cl hcl => (kc' x hx cl hcl).1, fun H9 s9 => ?_⟩
    have S9 : Same H6 H9 := S8.trans s9
    refine ⟨_, _, rfl, SameV.sc rfl, _, rfl, ?_⟩
    refine ⟨_, rfl, _, rfl, t, c, u, cs, us', rfl, T6.mono S9, S9 _ _ u6, fu.2.symm, by omega, fun z H10 nk nf T10 u10 s10 => ?_⟩
    have hp10 : Tp H10 (.ref p) (condD cond') := (hp.mono (KeepT.of S9)).mono (KeepT.ofXY (T6.mono S9) (S9 _ _ u6) s10)
    refine ⟨_, rfl, u, rfl, ⟨_, SqL.of u10⟩, for_it walk_list (fun i σ H' => (∃ v6 v7, σ = [some (.ref a), some (.ref t), some (.ref u), some (.ref L), some (.ref p), some (.str z), v6, v7]) ∧ Same H10 H') ⟨⟨_, _, rfl⟩, Same.refl _⟩ (fun i σ H' _ hh => SqL.of (hh.2 _ _ u10)) ?_ ?_⟩
    · rintro i x σ H11 H11' hi ⟨⟨v6, v7, rfl⟩, s11⟩ ⟨rfl, ex⟩
      obtain ⟨n, rfl⟩ : ∃ n : Str, x = .str n := by
        obtain ⟨n, _, e⟩ := List.mem_map.mp (List.mem_of_getElem? ex)
        exact ⟨n, e.symm⟩
      have hp11 := hp10.mono (KeepT.of s11)
      refine ⟨_, rfl, _, rfl, p, cond', n, rfl, hp11, by omega, fun H12 s12 => ?_⟩
      have hp12 := hp11.mono (KeepT.of s12)
      refine ⟨_, rfl, _, rfl, p, cond', rfl, hp12, by omega, fun P H13 hP s13 => ?_⟩
      have hp13 := hp12.mono (KeepT.of s13)
      refine ⟨P, _, rfl, .inl (SqL.of hP), rfl, flat_strs _, ?_⟩
      have em : inV (.str n) ((cond'.flatten.map (·.n)).map V.str) = mentM n cond' := by rw [inV_str, ment_names]
      refine ⟨_, _, rfl, Or.inl ⟨?_, rfl⟩, _, rfl, ?_⟩
      · exact congrArg V.bl em.symm
      refine ⟨_, rfl, _, rfl, _, rfl, p, cond', n, z, rfl, hp13, by omega, fun x hx => by have := mc' x hx; omega, fun p14 H14 t14 s14 => ?_⟩
      have hp14 := hp13.mono (KeepT.of s14)
      refine ⟨_, rfl, _, rfl, _, rfl, _, rfl, p, cond', n, z, rfl, hp14, by omega, fun x hx => by have := mc' x hx; omega, fun p15 H15 t15 s15 => ?_⟩
      have lr : (renM n z cond').length = cond'.length := by unfold renM; rw [List.length_map]
      have lr2 : ∀ x ∈ renM n z cond', x.length ≤ 4 := by
        intro x hx
        unfold renM at hx
        obtain ⟨y, hy, rfl⟩ := List.mem_map.mp hx
        rw [List.length_map]
        exact mc' y hy
      refine ⟨_, _, rfl, same_cond (n := 2) (t14.mono (KeepT.of s15)) t15 (by omega) (fun x hx => by have := lr2 x hx; omega), _, rfl, ?_⟩
      have S15 : Same H10 H15 := s11.trans (s12.trans (s13.trans (s14.trans s15)))
      refine ⟨_, rfl, _, rfl, rfl, _, rfl, ?_⟩
      refine ifN (fun hne => ?_) (fun _ => ⟨⟨_, _, rfl⟩, S15⟩)
      refine ⟨_, rfl, _, rfl, _, rfl, p14, renM n z cond', z, n, rfl, t14.mono (KeepT.of s15), by omega, fun x hx => by have := lr2 x hx; omega, fun p16 H16 t16 s16 => ?_⟩
      rw [ren_back (fun x hx cl hcl e => nf (by rw [← e]; exact (kc' x hx cl hcl).2))] at t16
      refine ⟨_, rfl, _, _, rfl, same_cond (n := 2) t16 (hp10.mono (KeepT.of (S15.trans s16))) (by omega) (fun x hx => by have := mc' x hx; omega), _, rfl, ?_⟩
      exact ⟨⟨_, _, rfl⟩, S15.trans s16⟩
    · rintro σ H11 ⟨_, s11⟩
      exact q H11)
end
end Lt
namespace Lt
open PySem L2 TL
open C8 (pss_cut)
theorem all_mk {l : PySem.W.OpenLaw} {w : World} {K : PySem.W.Frag} {h : Heap} {mg : Str → Option Value} {fa : Addr} (X : K.In h) (G : h.Ns mainGlobals mg) (hfa : mg "law" = some (.ref fa))
    {f_law_tape f_law_take f_law_name f_law_columns f_law_integer f_law_char f_law_text f_law_spoil f_law_value f_law_clause f_law_condition f_law_is_integer f_law_same_items f_law_same f_law_names f_law_fits f_kind_of f_is_text_code f_is_text_character f_is_text f_is_value f_fits_kind f_clause_fits f_fits f_law_all_names f_mentions f_renamed_clause f_renamed f_law_renamed f_law : Addr} {od_law_tape an_law_tape od_law_take an_law_take od_law_name an_law_name od_law_columns an_law_columns od_law_integer an_law_integer od_law_char an_law_char od_law_text an_law_text od_law_spoil an_law_spoil od_law_value an_law_value od_law_clause an_law_clause od_law_condition an_law_condition od_law_is_integer an_law_is_integer od_law_same_items an_law_same_items od_law_same an_law_same od_law_names an_law_names od_law_fits an_law_fits od_kind_of an_kind_of od_is_text_code an_is_text_code od_is_text_character an_is_text_character od_is_text an_is_text od_is_value an_is_value od_fits_kind an_fits_kind od_clause_fits an_clause_fits od_fits an_fits od_law_all_names an_law_all_names od_mentions an_mentions od_renamed_clause an_renamed_clause od_renamed an_renamed od_law_renamed an_law_renamed od_law an_law : Option Addr} {sl_law_tape sl_law_take sl_law_name sl_law_columns sl_law_integer sl_law_char sl_law_text sl_law_spoil sl_law_value sl_law_clause sl_law_condition sl_law_is_integer sl_law_same_items sl_law_same sl_law_names sl_law_fits sl_kind_of sl_is_text_code sl_is_text_character sl_is_text sl_is_value sl_fits_kind sl_clause_fits sl_fits sl_law_all_names sl_mentions sl_renamed_clause sl_renamed sl_law_renamed sl_law : Array (Option Value)} {oc_law_tape kV_law_tape dc_law_tape pm_law_tape cd_law_tape ct_law_tape oc_law_take kV_law_take dc_law_take pm_law_take cd_law_take ct_law_take oc_law_name kV_law_name dc_law_name pm_law_name cd_law_name ct_law_name oc_law_columns kV_law_columns dc_law_columns pm_law_columns cd_law_columns ct_law_columns oc_law_integer kV_law_integer dc_law_integer pm_law_integer cd_law_integer ct_law_integer oc_law_char kV_law_char dc_law_char pm_law_char cd_law_char ct_law_char oc_law_text kV_law_text dc_law_text pm_law_text cd_law_text ct_law_text oc_law_spoil kV_law_spoil dc_law_spoil pm_law_spoil cd_law_spoil ct_law_spoil oc_law_value kV_law_value dc_law_value pm_law_value cd_law_value ct_law_value oc_law_clause kV_law_clause dc_law_clause pm_law_clause cd_law_clause ct_law_clause oc_law_condition kV_law_condition dc_law_condition pm_law_condition cd_law_condition ct_law_condition oc_law_is_integer kV_law_is_integer dc_law_is_integer pm_law_is_integer cd_law_is_integer ct_law_is_integer oc_law_same_items kV_law_same_items dc_law_same_items pm_law_same_items cd_law_same_items ct_law_same_items oc_law_same kV_law_same dc_law_same pm_law_same cd_law_same ct_law_same oc_law_names kV_law_names dc_law_names pm_law_names cd_law_names ct_law_names oc_law_fits kV_law_fits dc_law_fits pm_law_fits cd_law_fits ct_law_fits oc_kind_of kV_kind_of dc_kind_of pm_kind_of cd_kind_of ct_kind_of oc_is_text_code kV_is_text_code dc_is_text_code pm_is_text_code cd_is_text_code ct_is_text_code oc_is_text_character kV_is_text_character dc_is_text_character pm_is_text_character cd_is_text_character ct_is_text_character oc_is_text kV_is_text dc_is_text pm_is_text cd_is_text ct_is_text oc_is_value kV_is_value dc_is_value pm_is_value cd_is_value ct_is_value oc_fits_kind kV_fits_kind dc_fits_kind pm_fits_kind cd_fits_kind ct_fits_kind oc_clause_fits kV_clause_fits dc_clause_fits pm_clause_fits cd_clause_fits ct_clause_fits oc_fits kV_fits dc_fits pm_fits cd_fits ct_fits oc_law_all_names kV_law_all_names dc_law_all_names pm_law_all_names cd_law_all_names ct_law_all_names oc_mentions kV_mentions dc_mentions pm_mentions cd_mentions ct_mentions oc_renamed_clause kV_renamed_clause dc_renamed_clause pm_renamed_clause cd_renamed_clause ct_renamed_clause oc_renamed kV_renamed dc_renamed pm_renamed cd_renamed ct_renamed oc_law_renamed kV_law_renamed dc_law_renamed pm_law_renamed cd_law_renamed ct_law_renamed oc_law kV_law dc_law pm_law cd_law ct_law : Value}
    {t_PERCENT_CODE t_LAST_CODE t_FIRST_CODE t_MOST_CHARACTERS t_GREATEST t_LEAST : Tok}
    (a_law_tape : PySem.W.nsIn K mainGlobals "_law_tape" = some (some (.ref f_law_tape)))
    (l_law_tape : K.lookup f_law_tape = some ⟨oc_law_tape, od_law_tape, .func (PySem.W.fnOf "_law_tape" "_law_tape" (defArgs s_law_tape) (defBody s_law_tape) (defScope s_law_tape) .none kV_law_tape dc_law_tape pm_law_tape an_law_tape cd_law_tape ct_law_tape), sl_law_tape⟩)
    (c_law_tape : PySem.W.codeIn K cd_law_tape "_law_tape" = true)
    (k_law_tape : PySem.W.keepIn K (.ref f_law_tape) = true)
    (a_law_take : PySem.W.nsIn K mainGlobals "_law_take" = some (some (.ref f_law_take)))
    (l_law_take : K.lookup f_law_take = some ⟨oc_law_take, od_law_take, .func (PySem.W.fnOf "_law_take" "_law_take" (defArgs s_law_take) (defBody s_law_take) (defScope s_law_take) .none kV_law_take dc_law_take pm_law_take an_law_take cd_law_take ct_law_take), sl_law_take⟩)
    (c_law_take : PySem.W.codeIn K cd_law_take "_law_take" = true)
    (k_law_take : PySem.W.keepIn K (.ref f_law_take) = true)
    (a_law_name : PySem.W.nsIn K mainGlobals "_law_name" = some (some (.ref f_law_name)))
    (l_law_name : K.lookup f_law_name = some ⟨oc_law_name, od_law_name, .func (PySem.W.fnOf "_law_name" "_law_name" (defArgs s_law_name) (defBody s_law_name) (defScope s_law_name) .none kV_law_name dc_law_name pm_law_name an_law_name cd_law_name ct_law_name), sl_law_name⟩)
    (c_law_name : PySem.W.codeIn K cd_law_name "_law_name" = true)
    (k_law_name : PySem.W.keepIn K (.ref f_law_name) = true)
    (a_law_columns : PySem.W.nsIn K mainGlobals "_law_columns" = some (some (.ref f_law_columns)))
    (l_law_columns : K.lookup f_law_columns = some ⟨oc_law_columns, od_law_columns, .func (PySem.W.fnOf "_law_columns" "_law_columns" (defArgs s_law_columns) (defBody s_law_columns) (defScope s_law_columns) .none kV_law_columns dc_law_columns pm_law_columns an_law_columns cd_law_columns ct_law_columns), sl_law_columns⟩)
    (c_law_columns : PySem.W.codeIn K cd_law_columns "_law_columns" = true)
    (k_law_columns : PySem.W.keepIn K (.ref f_law_columns) = true)
    (a_law_integer : PySem.W.nsIn K mainGlobals "_law_integer" = some (some (.ref f_law_integer)))
    (l_law_integer : K.lookup f_law_integer = some ⟨oc_law_integer, od_law_integer, .func (PySem.W.fnOf "_law_integer" "_law_integer" (defArgs s_law_integer) (defBody s_law_integer) (defScope s_law_integer) .none kV_law_integer dc_law_integer pm_law_integer an_law_integer cd_law_integer ct_law_integer), sl_law_integer⟩)
    (c_law_integer : PySem.W.codeIn K cd_law_integer "_law_integer" = true)
    (k_law_integer : PySem.W.keepIn K (.ref f_law_integer) = true)
    (a_law_char : PySem.W.nsIn K mainGlobals "_law_char" = some (some (.ref f_law_char)))
    (l_law_char : K.lookup f_law_char = some ⟨oc_law_char, od_law_char, .func (PySem.W.fnOf "_law_char" "_law_char" (defArgs s_law_char) (defBody s_law_char) (defScope s_law_char) .none kV_law_char dc_law_char pm_law_char an_law_char cd_law_char ct_law_char), sl_law_char⟩)
    (c_law_char : PySem.W.codeIn K cd_law_char "_law_char" = true)
    (k_law_char : PySem.W.keepIn K (.ref f_law_char) = true)
    (a_law_text : PySem.W.nsIn K mainGlobals "_law_text" = some (some (.ref f_law_text)))
    (l_law_text : K.lookup f_law_text = some ⟨oc_law_text, od_law_text, .func (PySem.W.fnOf "_law_text" "_law_text" (defArgs s_law_text) (defBody s_law_text) (defScope s_law_text) .none kV_law_text dc_law_text pm_law_text an_law_text cd_law_text ct_law_text), sl_law_text⟩)
    (c_law_text : PySem.W.codeIn K cd_law_text "_law_text" = true)
    (k_law_text : PySem.W.keepIn K (.ref f_law_text) = true)
    (a_law_spoil : PySem.W.nsIn K mainGlobals "_law_spoil" = some (some (.ref f_law_spoil)))
    (l_law_spoil : K.lookup f_law_spoil = some ⟨oc_law_spoil, od_law_spoil, .func (PySem.W.fnOf "_law_spoil" "_law_spoil" (defArgs s_law_spoil) (defBody s_law_spoil) (defScope s_law_spoil) .none kV_law_spoil dc_law_spoil pm_law_spoil an_law_spoil cd_law_spoil ct_law_spoil), sl_law_spoil⟩)
    (c_law_spoil : PySem.W.codeIn K cd_law_spoil "_law_spoil" = true)
    (k_law_spoil : PySem.W.keepIn K (.ref f_law_spoil) = true)
    (a_law_value : PySem.W.nsIn K mainGlobals "_law_value" = some (some (.ref f_law_value)))
    (l_law_value : K.lookup f_law_value = some ⟨oc_law_value, od_law_value, .func (PySem.W.fnOf "_law_value" "_law_value" (defArgs s_law_value) (defBody s_law_value) (defScope s_law_value) .none kV_law_value dc_law_value pm_law_value an_law_value cd_law_value ct_law_value), sl_law_value⟩)
    (c_law_value : PySem.W.codeIn K cd_law_value "_law_value" = true)
    (k_law_value : PySem.W.keepIn K (.ref f_law_value) = true)
    (a_law_clause : PySem.W.nsIn K mainGlobals "_law_clause" = some (some (.ref f_law_clause)))
    (l_law_clause : K.lookup f_law_clause = some ⟨oc_law_clause, od_law_clause, .func (PySem.W.fnOf "_law_clause" "_law_clause" (defArgs s_law_clause) (defBody s_law_clause) (defScope s_law_clause) .none kV_law_clause dc_law_clause pm_law_clause an_law_clause cd_law_clause ct_law_clause), sl_law_clause⟩)
    (c_law_clause : PySem.W.codeIn K cd_law_clause "_law_clause" = true)
    (k_law_clause : PySem.W.keepIn K (.ref f_law_clause) = true)
    (a_law_condition : PySem.W.nsIn K mainGlobals "_law_condition" = some (some (.ref f_law_condition)))
    (l_law_condition : K.lookup f_law_condition = some ⟨oc_law_condition, od_law_condition, .func (PySem.W.fnOf "_law_condition" "_law_condition" (defArgs s_law_condition) (defBody s_law_condition) (defScope s_law_condition) .none kV_law_condition dc_law_condition pm_law_condition an_law_condition cd_law_condition ct_law_condition), sl_law_condition⟩)
    (c_law_condition : PySem.W.codeIn K cd_law_condition "_law_condition" = true)
    (k_law_condition : PySem.W.keepIn K (.ref f_law_condition) = true)
    (a_law_is_integer : PySem.W.nsIn K mainGlobals "_law_is_integer" = some (some (.ref f_law_is_integer)))
    (l_law_is_integer : K.lookup f_law_is_integer = some ⟨oc_law_is_integer, od_law_is_integer, .func (PySem.W.fnOf "_law_is_integer" "_law_is_integer" (defArgs s_law_is_integer) (defBody s_law_is_integer) (defScope s_law_is_integer) .none kV_law_is_integer dc_law_is_integer pm_law_is_integer an_law_is_integer cd_law_is_integer ct_law_is_integer), sl_law_is_integer⟩)
    (c_law_is_integer : PySem.W.codeIn K cd_law_is_integer "_law_is_integer" = true)
    (k_law_is_integer : PySem.W.keepIn K (.ref f_law_is_integer) = true)
    (a_law_same_items : PySem.W.nsIn K mainGlobals "_law_same_items" = some (some (.ref f_law_same_items)))
    (l_law_same_items : K.lookup f_law_same_items = some ⟨oc_law_same_items, od_law_same_items, .func (PySem.W.fnOf "_law_same_items" "_law_same_items" (defArgs s_law_same_items) (defBody s_law_same_items) (defScope s_law_same_items) .none kV_law_same_items dc_law_same_items pm_law_same_items an_law_same_items cd_law_same_items ct_law_same_items), sl_law_same_items⟩)
    (c_law_same_items : PySem.W.codeIn K cd_law_same_items "_law_same_items" = true)
    (k_law_same_items : PySem.W.keepIn K (.ref f_law_same_items) = true)
    (a_law_same : PySem.W.nsIn K mainGlobals "_law_same" = some (some (.ref f_law_same)))
    (l_law_same : K.lookup f_law_same = some ⟨oc_law_same, od_law_same, .func (PySem.W.fnOf "_law_same" "_law_same" (defArgs s_law_same) (defBody s_law_same) (defScope s_law_same) .none kV_law_same dc_law_same pm_law_same an_law_same cd_law_same ct_law_same), sl_law_same⟩)
    (c_law_same : PySem.W.codeIn K cd_law_same "_law_same" = true)
    (k_law_same : PySem.W.keepIn K (.ref f_law_same) = true)
    (a_law_names : PySem.W.nsIn K mainGlobals "_law_names" = some (some (.ref f_law_names)))
    (l_law_names : K.lookup f_law_names = some ⟨oc_law_names, od_law_names, .func (PySem.W.fnOf "_law_names" "_law_names" (defArgs s_law_names) (defBody s_law_names) (defScope s_law_names) .none kV_law_names dc_law_names pm_law_names an_law_names cd_law_names ct_law_names), sl_law_names⟩)
    (c_law_names : PySem.W.codeIn K cd_law_names "_law_names" = true)
    (k_law_names : PySem.W.keepIn K (.ref f_law_names) = true)
    (a_law_fits : PySem.W.nsIn K mainGlobals "_law_fits" = some (some (.ref f_law_fits)))
    (l_law_fits : K.lookup f_law_fits = some ⟨oc_law_fits, od_law_fits, .func (PySem.W.fnOf "_law_fits" "_law_fits" (defArgs s_law_fits) (defBody s_law_fits) (defScope s_law_fits) .none kV_law_fits dc_law_fits pm_law_fits an_law_fits cd_law_fits ct_law_fits), sl_law_fits⟩)
    (c_law_fits : PySem.W.codeIn K cd_law_fits "_law_fits" = true)
    (k_law_fits : PySem.W.keepIn K (.ref f_law_fits) = true)
    (a_kind_of : PySem.W.nsIn K mainGlobals "kind_of" = some (some (.ref f_kind_of)))
    (l_kind_of : K.lookup f_kind_of = some ⟨oc_kind_of, od_kind_of, .func (PySem.W.fnOf "kind_of" "kind_of" (defArgs s_kind_of) (defBody s_kind_of) (defScope s_kind_of) .none kV_kind_of dc_kind_of pm_kind_of an_kind_of cd_kind_of ct_kind_of), sl_kind_of⟩)
    (c_kind_of : PySem.W.codeIn K cd_kind_of "kind_of" = true)
    (k_kind_of : PySem.W.keepIn K (.ref f_kind_of) = true)
    (a_is_text_code : PySem.W.nsIn K mainGlobals "is_text_code" = some (some (.ref f_is_text_code)))
    (l_is_text_code : K.lookup f_is_text_code = some ⟨oc_is_text_code, od_is_text_code, .func (PySem.W.fnOf "is_text_code" "is_text_code" (defArgs s_is_text_code) (defBody s_is_text_code) (defScope s_is_text_code) .none kV_is_text_code dc_is_text_code pm_is_text_code an_is_text_code cd_is_text_code ct_is_text_code), sl_is_text_code⟩)
    (c_is_text_code : PySem.W.codeIn K cd_is_text_code "is_text_code" = true)
    (k_is_text_code : PySem.W.keepIn K (.ref f_is_text_code) = true)
    (a_is_text_character : PySem.W.nsIn K mainGlobals "is_text_character" = some (some (.ref f_is_text_character)))
    (l_is_text_character : K.lookup f_is_text_character = some ⟨oc_is_text_character, od_is_text_character, .func (PySem.W.fnOf "is_text_character" "is_text_character" (defArgs s_is_text_character) (defBody s_is_text_character) (defScope s_is_text_character) .none kV_is_text_character dc_is_text_character pm_is_text_character an_is_text_character cd_is_text_character ct_is_text_character), sl_is_text_character⟩)
    (c_is_text_character : PySem.W.codeIn K cd_is_text_character "is_text_character" = true)
    (k_is_text_character : PySem.W.keepIn K (.ref f_is_text_character) = true)
    (a_is_text : PySem.W.nsIn K mainGlobals "is_text" = some (some (.ref f_is_text)))
    (l_is_text : K.lookup f_is_text = some ⟨oc_is_text, od_is_text, .func (PySem.W.fnOf "is_text" "is_text" (defArgs s_is_text) (defBody s_is_text) (defScope s_is_text) .none kV_is_text dc_is_text pm_is_text an_is_text cd_is_text ct_is_text), sl_is_text⟩)
    (c_is_text : PySem.W.codeIn K cd_is_text "is_text" = true)
    (k_is_text : PySem.W.keepIn K (.ref f_is_text) = true)
    (a_is_value : PySem.W.nsIn K mainGlobals "is_value" = some (some (.ref f_is_value)))
    (l_is_value : K.lookup f_is_value = some ⟨oc_is_value, od_is_value, .func (PySem.W.fnOf "is_value" "is_value" (defArgs s_is_value) (defBody s_is_value) (defScope s_is_value) .none kV_is_value dc_is_value pm_is_value an_is_value cd_is_value ct_is_value), sl_is_value⟩)
    (c_is_value : PySem.W.codeIn K cd_is_value "is_value" = true)
    (k_is_value : PySem.W.keepIn K (.ref f_is_value) = true)
    (a_fits_kind : PySem.W.nsIn K mainGlobals "fits_kind" = some (some (.ref f_fits_kind)))
    (l_fits_kind : K.lookup f_fits_kind = some ⟨oc_fits_kind, od_fits_kind, .func (PySem.W.fnOf "fits_kind" "fits_kind" (defArgs s_fits_kind) (defBody s_fits_kind) (defScope s_fits_kind) .none kV_fits_kind dc_fits_kind pm_fits_kind an_fits_kind cd_fits_kind ct_fits_kind), sl_fits_kind⟩)
    (c_fits_kind : PySem.W.codeIn K cd_fits_kind "fits_kind" = true)
    (k_fits_kind : PySem.W.keepIn K (.ref f_fits_kind) = true)
    (a_clause_fits : PySem.W.nsIn K mainGlobals "clause_fits" = some (some (.ref f_clause_fits)))
    (l_clause_fits : K.lookup f_clause_fits = some ⟨oc_clause_fits, od_clause_fits, .func (PySem.W.fnOf "clause_fits" "clause_fits" (defArgs s_clause_fits) (defBody s_clause_fits) (defScope s_clause_fits) .none kV_clause_fits dc_clause_fits pm_clause_fits an_clause_fits cd_clause_fits ct_clause_fits), sl_clause_fits⟩)
    (c_clause_fits : PySem.W.codeIn K cd_clause_fits "clause_fits" = true)
    (k_clause_fits : PySem.W.keepIn K (.ref f_clause_fits) = true)
    (a_fits : PySem.W.nsIn K mainGlobals "fits" = some (some (.ref f_fits)))
    (l_fits : K.lookup f_fits = some ⟨oc_fits, od_fits, .func (PySem.W.fnOf "fits" "fits" (defArgs s_fits) (defBody s_fits) (defScope s_fits) .none kV_fits dc_fits pm_fits an_fits cd_fits ct_fits), sl_fits⟩)
    (c_fits : PySem.W.codeIn K cd_fits "fits" = true)
    (k_fits : PySem.W.keepIn K (.ref f_fits) = true)
    (a_law_all_names : PySem.W.nsIn K mainGlobals "_law_all_names" = some (some (.ref f_law_all_names)))
    (l_law_all_names : K.lookup f_law_all_names = some ⟨oc_law_all_names, od_law_all_names, .func (PySem.W.fnOf "_law_all_names" "_law_all_names" (defArgs s_law_all_names) (defBody s_law_all_names) (defScope s_law_all_names) .none kV_law_all_names dc_law_all_names pm_law_all_names an_law_all_names cd_law_all_names ct_law_all_names), sl_law_all_names⟩)
    (c_law_all_names : PySem.W.codeIn K cd_law_all_names "_law_all_names" = true)
    (k_law_all_names : PySem.W.keepIn K (.ref f_law_all_names) = true)
    (a_mentions : PySem.W.nsIn K mainGlobals "mentions" = some (some (.ref f_mentions)))
    (l_mentions : K.lookup f_mentions = some ⟨oc_mentions, od_mentions, .func (PySem.W.fnOf "mentions" "mentions" (defArgs s_mentions) (defBody s_mentions) (defScope s_mentions) .none kV_mentions dc_mentions pm_mentions an_mentions cd_mentions ct_mentions), sl_mentions⟩)
    (c_mentions : PySem.W.codeIn K cd_mentions "mentions" = true)
    (k_mentions : PySem.W.keepIn K (.ref f_mentions) = true)
    (a_renamed_clause : PySem.W.nsIn K mainGlobals "renamed_clause" = some (some (.ref f_renamed_clause)))
    (l_renamed_clause : K.lookup f_renamed_clause = some ⟨oc_renamed_clause, od_renamed_clause, .func (PySem.W.fnOf "renamed_clause" "renamed_clause" (defArgs s_renamed_clause) (defBody s_renamed_clause) (defScope s_renamed_clause) .none kV_renamed_clause dc_renamed_clause pm_renamed_clause an_renamed_clause cd_renamed_clause ct_renamed_clause), sl_renamed_clause⟩)
    (c_renamed_clause : PySem.W.codeIn K cd_renamed_clause "renamed_clause" = true)
    (k_renamed_clause : PySem.W.keepIn K (.ref f_renamed_clause) = true)
    (a_renamed : PySem.W.nsIn K mainGlobals "renamed" = some (some (.ref f_renamed)))
    (l_renamed : K.lookup f_renamed = some ⟨oc_renamed, od_renamed, .func (PySem.W.fnOf "renamed" "renamed" (defArgs s_renamed) (defBody s_renamed) (defScope s_renamed) .none kV_renamed dc_renamed pm_renamed an_renamed cd_renamed ct_renamed), sl_renamed⟩)
    (c_renamed : PySem.W.codeIn K cd_renamed "renamed" = true)
    (k_renamed : PySem.W.keepIn K (.ref f_renamed) = true)
    (a_law_renamed : PySem.W.nsIn K mainGlobals "_law_renamed" = some (some (.ref f_law_renamed)))
    (l_law_renamed : K.lookup f_law_renamed = some ⟨oc_law_renamed, od_law_renamed, .func (PySem.W.fnOf "_law_renamed" "_law_renamed" (defArgs s_law_renamed) (defBody s_law_renamed) (defScope s_law_renamed) .none kV_law_renamed dc_law_renamed pm_law_renamed an_law_renamed cd_law_renamed ct_law_renamed), sl_law_renamed⟩)
    (c_law_renamed : PySem.W.codeIn K cd_law_renamed "_law_renamed" = true)
    (k_law_renamed : PySem.W.keepIn K (.ref f_law_renamed) = true)
    (a_law : PySem.W.nsIn K mainGlobals "law" = some (some (.ref f_law)))
    (l_law : K.lookup f_law = some ⟨oc_law, od_law, .func (PySem.W.fnOf "law" "law" (defArgs s_law) (defBody s_law) (defScope s_law) .none kV_law dc_law pm_law an_law cd_law ct_law), sl_law⟩)
    (c_law : PySem.W.codeIn K cd_law "law" = true)
    (k_law : PySem.W.keepIn K (.ref f_law) = true)
    (z_abs : PySem.W.nsIn K mainGlobals "abs" = some none)
    (z_int : PySem.W.nsIn K mainGlobals "int" = some none)
    (z_len : PySem.W.nsIn K mainGlobals "len" = some none)
    (z_range : PySem.W.nsIn K mainGlobals "range" = some none)
    (z_isinstance : PySem.W.nsIn K mainGlobals "isinstance" = some none)
    (z_str : PySem.W.nsIn K mainGlobals "str" = some none)
    (z_tuple : PySem.W.nsIn K mainGlobals "tuple" = some none)
    (z_bool : PySem.W.nsIn K mainGlobals "bool" = some none)
    (z_list : PySem.W.nsIn K mainGlobals "list" = some none)
    (z_dict : PySem.W.nsIn K mainGlobals "dict" = some none)
    (z_ord : PySem.W.nsIn K mainGlobals "ord" = some none)
    (z_all : PySem.W.nsIn K mainGlobals "all" = some none)
    (z_any : PySem.W.nsIn K mainGlobals "any" = some none)
    (g_PERCENT_CODE : PySem.W.nsIn K mainGlobals "PERCENT_CODE" = some (some (Value.int 37 t_PERCENT_CODE)))
    (g_LAST_CODE : PySem.W.nsIn K mainGlobals "LAST_CODE" = some (some (Value.int 126 t_LAST_CODE)))
    (g_FIRST_CODE : PySem.W.nsIn K mainGlobals "FIRST_CODE" = some (some (Value.int 32 t_FIRST_CODE)))
    (g_MOST_CHARACTERS : PySem.W.nsIn K mainGlobals "MOST_CHARACTERS" = some (some (Value.int 30 t_MOST_CHARACTERS)))
    (g_GREATEST : PySem.W.nsIn K mainGlobals "GREATEST" = some (some (Value.int 999999999 t_GREATEST)))
    (g_LEAST : PySem.W.nsIn K mainGlobals "LEAST" = some (some (Value.int (-999999999) t_LEAST)))
    : ∃ fd : FuncData, (∀ (s : Shared) (v : Value), BindsTo s fd ⟨[v], []⟩ [("script", v)]) ∧ ∀ base : Heap, K.In base → base.Ns mainGlobals mg → FnOk l.prog w K mg base CX0 13 fa fd ["script"] (spLaw K) := by
  have e := hfa.symm.trans (PySem.W.mg_of X G a_law)
  cases e
  have F_law_tape := fun_mk (st := s_law_tape) l_law_tape c_law_tape k_law_tape
  have b_law_tape := F_law_tape.binds (ps := ["script"]) fun _ _ _ _ _ _ us hl => match us, hl with | [_], _ => rfl
  have n_law_tape : Kn K mg "_law_tape" s_law_tape ["script"] f_law_tape _ := ⟨F_law_tape, b_law_tape, PySem.W.mg_of X G a_law_tape⟩
  have F_law_take := fun_mk (st := s_law_take) l_law_take c_law_take k_law_take
  have b_law_take := F_law_take.binds (ps := ["tape", "many"]) fun _ _ _ _ _ _ us hl => match us, hl with | [_, _], _ => rfl
  have n_law_take : Kn K mg "_law_take" s_law_take ["tape", "many"] f_law_take _ := ⟨F_law_take, b_law_take, PySem.W.mg_of X G a_law_take⟩
  have F_law_name := fun_mk (st := s_law_name) l_law_name c_law_name k_law_name
  have b_law_name := F_law_name.binds (ps := ["tape", "used"]) fun _ _ _ _ _ _ us hl => match us, hl with | [_, _], _ => rfl
  have n_law_name : Kn K mg "_law_name" s_law_name ["tape", "used"] f_law_name _ := ⟨F_law_name, b_law_name, PySem.W.mg_of X G a_law_name⟩
  have F_law_columns := fun_mk (st := s_law_columns) l_law_columns c_law_columns k_law_columns
  have b_law_columns := F_law_columns.binds (ps := ["tape", "used", "many"]) fun _ _ _ _ _ _ us hl => match us, hl with | [_, _, _], _ => rfl
  have n_law_columns : Kn K mg "_law_columns" s_law_columns ["tape", "used", "many"] f_law_columns _ := ⟨F_law_columns, b_law_columns, PySem.W.mg_of X G a_law_columns⟩
  have F_law_integer := fun_mk (st := s_law_integer) l_law_integer c_law_integer k_law_integer
  have b_law_integer := F_law_integer.binds (ps := ["tape"]) fun _ _ _ _ _ _ us hl => match us, hl with | [_], _ => rfl
  have n_law_integer : Kn K mg "_law_integer" s_law_integer ["tape"] f_law_integer _ := ⟨F_law_integer, b_law_integer, PySem.W.mg_of X G a_law_integer⟩
  have F_law_char := fun_mk (st := s_law_char) l_law_char c_law_char k_law_char
  have b_law_char := F_law_char.binds (ps := ["tape"]) fun _ _ _ _ _ _ us hl => match us, hl with | [_], _ => rfl
  have n_law_char : Kn K mg "_law_char" s_law_char ["tape"] f_law_char _ := ⟨F_law_char, b_law_char, PySem.W.mg_of X G a_law_char⟩
  have F_law_text := fun_mk (st := s_law_text) l_law_text c_law_text k_law_text
  have b_law_text := F_law_text.binds (ps := ["tape"]) fun _ _ _ _ _ _ us hl => match us, hl with | [_], _ => rfl
  have n_law_text : Kn K mg "_law_text" s_law_text ["tape"] f_law_text _ := ⟨F_law_text, b_law_text, PySem.W.mg_of X G a_law_text⟩
  have F_law_spoil := fun_mk (st := s_law_spoil) l_law_spoil c_law_spoil k_law_spoil
  have b_law_spoil := F_law_spoil.binds (ps := ["tape", "condition", "columns", "used"]) fun _ _ _ _ _ _ us hl => match us, hl with | [_, _, _, _], _ => rfl
  have n_law_spoil : Kn K mg "_law_spoil" s_law_spoil ["tape", "condition", "columns", "used"] f_law_spoil _ := ⟨F_law_spoil, b_law_spoil, PySem.W.mg_of X G a_law_spoil⟩
  have F_law_value := fun_mk (st := s_law_value) l_law_value c_law_value k_law_value
  have b_law_value := F_law_value.binds (ps := ["tape", "kind", "nullable"]) fun _ _ _ _ _ _ us hl => match us, hl with | [_, _, _], _ => rfl
  have n_law_value : Kn K mg "_law_value" s_law_value ["tape", "kind", "nullable"] f_law_value _ := ⟨F_law_value, b_law_value, PySem.W.mg_of X G a_law_value⟩
  have F_law_clause := fun_mk (st := s_law_clause) l_law_clause c_law_clause k_law_clause
  have b_law_clause := F_law_clause.binds (ps := ["tape", "columns"]) fun _ _ _ _ _ _ us hl => match us, hl with | [_, _], _ => rfl
  have n_law_clause : Kn K mg "_law_clause" s_law_clause ["tape", "columns"] f_law_clause _ := ⟨F_law_clause, b_law_clause, PySem.W.mg_of X G a_law_clause⟩
  have F_law_condition := fun_mk (st := s_law_condition) l_law_condition c_law_condition k_law_condition
  have b_law_condition := F_law_condition.binds (ps := ["tape", "columns"]) fun _ _ _ _ _ _ us hl => match us, hl with | [_, _], _ => rfl
  have n_law_condition : Kn K mg "_law_condition" s_law_condition ["tape", "columns"] f_law_condition _ := ⟨F_law_condition, b_law_condition, PySem.W.mg_of X G a_law_condition⟩
  have F_law_is_integer := fun_mk (st := s_law_is_integer) l_law_is_integer c_law_is_integer k_law_is_integer
  have b_law_is_integer := F_law_is_integer.binds (ps := ["actual"]) fun _ _ _ _ _ _ us hl => match us, hl with | [_], _ => rfl
  have n_law_is_integer : Kn K mg "_law_is_integer" s_law_is_integer ["actual"] f_law_is_integer _ := ⟨F_law_is_integer, b_law_is_integer, PySem.W.mg_of X G a_law_is_integer⟩
  have F_law_same_items := fun_mk (st := s_law_same_items) l_law_same_items c_law_same_items k_law_same_items
  have b_law_same_items := F_law_same_items.binds (ps := ["actual", "expected"]) fun _ _ _ _ _ _ us hl => match us, hl with | [_, _], _ => rfl
  have n_law_same_items : Kn K mg "_law_same_items" s_law_same_items ["actual", "expected"] f_law_same_items _ := ⟨F_law_same_items, b_law_same_items, PySem.W.mg_of X G a_law_same_items⟩
  have F_law_same := fun_mk (st := s_law_same) l_law_same c_law_same k_law_same
  have b_law_same := F_law_same.binds (ps := ["actual", "expected"]) fun _ _ _ _ _ _ us hl => match us, hl with | [_, _], _ => rfl
  have n_law_same : Kn K mg "_law_same" s_law_same ["actual", "expected"] f_law_same _ := ⟨F_law_same, b_law_same, PySem.W.mg_of X G a_law_same⟩
  have F_law_names := fun_mk (st := s_law_names) l_law_names c_law_names k_law_names
  have b_law_names := F_law_names.binds (ps := ["columns"]) fun _ _ _ _ _ _ us hl => match us, hl with | [_], _ => rfl
  have n_law_names : Kn K mg "_law_names" s_law_names ["columns"] f_law_names _ := ⟨F_law_names, b_law_names, PySem.W.mg_of X G a_law_names⟩
  have F_law_fits := fun_mk (st := s_law_fits) l_law_fits c_law_fits k_law_fits
  have b_law_fits := F_law_fits.binds (ps := ["condition", "columns"]) fun _ _ _ _ _ _ us hl => match us, hl with | [_, _], _ => rfl
  have n_law_fits : Kn K mg "_law_fits" s_law_fits ["condition", "columns"] f_law_fits _ := ⟨F_law_fits, b_law_fits, PySem.W.mg_of X G a_law_fits⟩
  have F_kind_of := fun_mk (st := s_kind_of) l_kind_of c_kind_of k_kind_of
  have b_kind_of := F_kind_of.binds (ps := ["value"]) fun _ _ _ _ _ _ us hl => match us, hl with | [_], _ => rfl
  have n_kind_of : Kn K mg "kind_of" s_kind_of ["value"] f_kind_of _ := ⟨F_kind_of, b_kind_of, PySem.W.mg_of X G a_kind_of⟩
  have F_is_text_code := fun_mk (st := s_is_text_code) l_is_text_code c_is_text_code k_is_text_code
  have b_is_text_code := F_is_text_code.binds (ps := ["code"]) fun _ _ _ _ _ _ us hl => match us, hl with | [_], _ => rfl
  have n_is_text_code : Kn K mg "is_text_code" s_is_text_code ["code"] f_is_text_code _ := ⟨F_is_text_code, b_is_text_code, PySem.W.mg_of X G a_is_text_code⟩
  have F_is_text_character := fun_mk (st := s_is_text_character) l_is_text_character c_is_text_character k_is_text_character
  have b_is_text_character := F_is_text_character.binds (ps := ["character"]) fun _ _ _ _ _ _ us hl => match us, hl with | [_], _ => rfl
  have n_is_text_character : Kn K mg "is_text_character" s_is_text_character ["character"] f_is_text_character _ := ⟨F_is_text_character, b_is_text_character, PySem.W.mg_of X G a_is_text_character⟩
  have F_is_text := fun_mk (st := s_is_text) l_is_text c_is_text k_is_text
  have b_is_text := F_is_text.binds (ps := ["thing"]) fun _ _ _ _ _ _ us hl => match us, hl with | [_], _ => rfl
  have n_is_text : Kn K mg "is_text" s_is_text ["thing"] f_is_text _ := ⟨F_is_text, b_is_text, PySem.W.mg_of X G a_is_text⟩
  have F_is_value := fun_mk (st := s_is_value) l_is_value c_is_value k_is_value
  have b_is_value := F_is_value.binds (ps := ["thing"]) fun _ _ _ _ _ _ us hl => match us, hl with | [_], _ => rfl
  have n_is_value : Kn K mg "is_value" s_is_value ["thing"] f_is_value _ := ⟨F_is_value, b_is_value, PySem.W.mg_of X G a_is_value⟩
  have F_fits_kind := fun_mk (st := s_fits_kind) l_fits_kind c_fits_kind k_fits_kind
  have b_fits_kind := F_fits_kind.binds (ps := ["thing", "kind", "nullable"]) fun _ _ _ _ _ _ us hl => match us, hl with | [_, _, _], _ => rfl
  have n_fits_kind : Kn K mg "fits_kind" s_fits_kind ["thing", "kind", "nullable"] f_fits_kind _ := ⟨F_fits_kind, b_fits_kind, PySem.W.mg_of X G a_fits_kind⟩
  have F_clause_fits := fun_mk (st := s_clause_fits) l_clause_fits c_clause_fits k_clause_fits
  have b_clause_fits := F_clause_fits.binds (ps := ["clause", "kinds"]) fun _ _ _ _ _ _ us hl => match us, hl with | [_, _], _ => rfl
  have n_clause_fits : Kn K mg "clause_fits" s_clause_fits ["clause", "kinds"] f_clause_fits _ := ⟨F_clause_fits, b_clause_fits, PySem.W.mg_of X G a_clause_fits⟩
  have F_fits := fun_mk (st := s_fits) l_fits c_fits k_fits
  have b_fits := F_fits.binds (ps := ["condition", "columns"]) fun _ _ _ _ _ _ us hl => match us, hl with | [_, _], _ => rfl
  have n_fits : Kn K mg "fits" s_fits ["condition", "columns"] f_fits _ := ⟨F_fits, b_fits, PySem.W.mg_of X G a_fits⟩
  have F_law_all_names := fun_mk (st := s_law_all_names) l_law_all_names c_law_all_names k_law_all_names
  have b_law_all_names := F_law_all_names.binds (ps := ["condition"]) fun _ _ _ _ _ _ us hl => match us, hl with | [_], _ => rfl
  have n_law_all_names : Kn K mg "_law_all_names" s_law_all_names ["condition"] f_law_all_names _ := ⟨F_law_all_names, b_law_all_names, PySem.W.mg_of X G a_law_all_names⟩
  have F_mentions := fun_mk (st := s_mentions) l_mentions c_mentions k_mentions
  have b_mentions := F_mentions.binds (ps := ["condition", "name"]) fun _ _ _ _ _ _ us hl => match us, hl with | [_, _], _ => rfl
  have n_mentions : Kn K mg "mentions" s_mentions ["condition", "name"] f_mentions _ := ⟨F_mentions, b_mentions, PySem.W.mg_of X G a_mentions⟩
  have F_renamed_clause := fun_mk (st := s_renamed_clause) l_renamed_clause c_renamed_clause k_renamed_clause
  have b_renamed_clause := F_renamed_clause.binds (ps := ["clause", "old", "new"]) fun _ _ _ _ _ _ us hl => match us, hl with | [_, _, _], _ => rfl
  have n_renamed_clause : Kn K mg "renamed_clause" s_renamed_clause ["clause", "old", "new"] f_renamed_clause _ := ⟨F_renamed_clause, b_renamed_clause, PySem.W.mg_of X G a_renamed_clause⟩
  have F_renamed := fun_mk (st := s_renamed) l_renamed c_renamed k_renamed
  have b_renamed := F_renamed.binds (ps := ["condition", "old", "new"]) fun _ _ _ _ _ _ us hl => match us, hl with | [_, _, _], _ => rfl
  have n_renamed : Kn K mg "renamed" s_renamed ["condition", "old", "new"] f_renamed _ := ⟨F_renamed, b_renamed, PySem.W.mg_of X G a_renamed⟩
  have F_law_renamed := fun_mk (st := s_law_renamed) l_law_renamed c_law_renamed k_law_renamed
  have b_law_renamed := F_law_renamed.binds (ps := ["condition", "old", "new"]) fun _ _ _ _ _ _ us hl => match us, hl with | [_, _, _], _ => rfl
  have n_law_renamed : Kn K mg "_law_renamed" s_law_renamed ["condition", "old", "new"] f_law_renamed _ := ⟨F_law_renamed, b_law_renamed, PySem.W.mg_of X G a_law_renamed⟩
  have F_law := fun_mk (st := s_law) l_law c_law k_law
  have b_law := F_law.binds (ps := ["script"]) fun _ _ _ _ _ _ us hl => match us, hl with | [_], _ => rfl
  have n_law : Kn K mg "law" s_law ["script"] fa _ := ⟨F_law, b_law, PySem.W.mg_of X G a_law⟩
  have z : Z mg := ⟨PySem.W.mg_none_of X G z_abs, PySem.W.mg_none_of X G z_int, PySem.W.mg_none_of X G z_len, PySem.W.mg_none_of X G z_range, PySem.W.mg_none_of X G z_isinstance, PySem.W.mg_none_of X G z_str, PySem.W.mg_none_of X G z_tuple, PySem.W.mg_none_of X G z_bool, PySem.W.mg_none_of X G z_list, PySem.W.mg_none_of X G z_dict, PySem.W.mg_none_of X G z_ord, PySem.W.mg_none_of X G z_all, PySem.W.mg_none_of X G z_any, ⟨_, PySem.W.mg_of X G g_PERCENT_CODE⟩, ⟨_, PySem.W.mg_of X G g_LAST_CODE⟩, ⟨_, PySem.W.mg_of X G g_FIRST_CODE⟩, ⟨_, PySem.W.mg_of X G g_MOST_CHARACTERS⟩, ⟨_, PySem.W.mg_of X G g_GREATEST⟩, ⟨_, PySem.W.mg_of X G g_LEAST⟩⟩
  refine ⟨PySem.W.fnOf "law" "law" (defArgs s_law) (defBody s_law) (defScope s_law) .none kV_law dc_law pm_law an_law cd_law ct_law, fun s v => .of_eq rfl, fun base _ _ => ?_⟩
  have o_law_tape := ok_law_tape (P := l.prog) (w := w) (base := base) n_law_tape z 
  have o_law_take := ok_law_take (P := l.prog) (w := w) (base := base) n_law_take z 
  have o_law_name := ok_law_name (P := l.prog) (w := w) (base := base) n_law_name z o_law_take
  have o_law_columns := ok_law_columns (P := l.prog) (w := w) (base := base) n_law_columns z o_law_take o_law_name
  have o_law_integer := ok_law_integer (P := l.prog) (w := w) (base := base) n_law_integer z o_law_take
  have o_law_char := ok_law_char (P := l.prog) (w := w) (base := base) n_law_char z o_law_take
  have o_law_text := ok_law_text (P := l.prog) (w := w) (base := base) n_law_text z o_law_take o_law_char
  have o_law_spoil := ok_law_spoil (P := l.prog) (w := w) (base := base) n_law_spoil z o_law_take o_law_name o_law_integer o_law_text
  have o_law_value := ok_law_value (P := l.prog) (w := w) (base := base) n_law_value z o_law_take o_law_integer o_law_text
  have o_law_clause := ok_law_clause (P := l.prog) (w := w) (base := base) n_law_clause z o_law_take o_law_value
  have o_law_condition := ok_law_condition (P := l.prog) (w := w) (base := base) n_law_condition z o_law_take o_law_clause
  have o_law_is_integer := ok_law_is_integer (P := l.prog) (w := w) (base := base) n_law_is_integer z 
  have _ := True.intro
  have o_law_same := ok_law_same (P := l.prog) (w := w) (base := base) n_law_same n_law_same_items z o_law_is_integer 6
  have o_law_names := ok_law_names (P := l.prog) (w := w) (base := base) n_law_names z 
  have o_law_fits := ok_law_fits (P := l.prog) (w := w) (base := base) n_law_fits z o_law_names
  have o_kind_of := ok_kind_of (P := l.prog) (w := w) (base := base) n_kind_of z 
  have o_is_text_code := ok_is_text_code (P := l.prog) (w := w) (base := base) n_is_text_code z 
  have o_is_text_character := ok_is_text_character (P := l.prog) (w := w) (base := base) n_is_text_character z o_is_text_code
  have o_is_text := ok_is_text (P := l.prog) (w := w) (base := base) n_is_text z o_is_text_character
  have o_is_value := ok_is_value (P := l.prog) (w := w) (base := base) n_is_value z o_is_text
  have o_fits_kind := ok_fits_kind (P := l.prog) (w := w) (base := base) n_fits_kind z o_kind_of o_is_value
  have o_clause_fits := ok_clause_fits (P := l.prog) (w := w) (base := base) n_clause_fits z o_fits_kind
  have o_fits := ok_fits (P := l.prog) (w := w) (base := base) n_fits z o_clause_fits
  have o_law_all_names := ok_law_all_names (P := l.prog) (w := w) (base := base) n_law_all_names z 
  have o_mentions := ok_mentions (P := l.prog) (w := w) (base := base) n_mentions z 
  have o_renamed_clause := ok_renamed_clause (P := l.prog) (w := w) (base := base) n_renamed_clause z 
  have o_renamed := ok_renamed (P := l.prog) (w := w) (base := base) n_renamed z o_renamed_clause
  have o_law_renamed := ok_law_renamed (P := l.prog) (w := w) (base := base) n_law_renamed z 
  have o_law := ok_law (P := l.prog) (w := w) (base := base) n_law z o_law_tape o_law_columns o_law_take o_law_spoil o_law_condition o_law_same o_law_fits o_fits o_law_name o_law_all_names o_mentions o_renamed o_law_renamed
  exact o_law.G
theorem walk {l : PySem.W.OpenLaw} {q : Program} {loose : List Str} {XP : (Str → Option Value) → Heap → Prop} {YP : World → Heap → Prop} {d : DefRec} {K : Params → PySem.W.Frag} (hn : l.most = some 63) (hdf : d.params.defaults = [])
    (hY : ∀ (w : World) (h : Heap), YP w h → (K w.params).In h)
    (F : ∀ (w : World) (mg : Str → Option Value) (fa : Addr) (h : Heap), (K w.params).In h → h.Ns mainGlobals mg → mg d.name = some (.ref fa) →
      ∃ fd : FuncData, (∀ (s : Shared) (u : Value), BindsTo s fd ⟨[u], []⟩ [("script", u)]) ∧ ∀ base : Heap, (K w.params).In base → base.Ns mainGlobals mg → FnOk l.prog w (K w.params) mg base CX0 13 fa fd ["script"] (spLaw (K w.params))) :
    PySem.W.WalkO q loose XP YP l.row.toRowW d [] (fun f vs => PySem.call f vs) :=
  L2.walk_of (n := 63) (k := 13) (x := "script") (CX := fun _ => CX0) (sp := fun w => spLaw (K w.params)) hn (by decide) hdf ⟨rfl, by decide, by decide⟩ hY F (fun _ _ a ns hl _ hS => ⟨a, ns, rfl, hS, hl, fun _ => rfl⟩) fun _ _ _ _ _ z => z
end Lt
open PySem PySem.W PyProof.Rows
set_option maxRecDepth 100000 in
set_option maxHeartbeats 0 in
theorem PySem.Challenge.cw_lenstree_k05_condition_columns_holds : PySem.Challenge.rw_lenstree_k05_condition_columns.Holds := by
  w_on; o_law; k_head; (case hw => w_witness2)
  k_fill
  refine Lt.walk (l := PySem.Challenge.rw_lenstree_k05_condition_columns) rfl rfl (fun w h Y => PySem.W.kIn_of Y) ?F
  case F =>
    intro w mg fa h KX G hmg
    refine' Lt.all_mk KX G hmg ?a_law_tape ?l_law_tape ?c_law_tape ?k_law_tape ?a_law_take ?l_law_take ?c_law_take ?k_law_take ?a_law_name ?l_law_name ?c_law_name ?k_law_name ?a_law_columns ?l_law_columns ?c_law_columns ?k_law_columns ?a_law_integer ?l_law_integer ?c_law_integer ?k_law_integer ?a_law_char ?l_law_char ?c_law_char ?k_law_char ?a_law_text ?l_law_text ?c_law_text ?k_law_text ?a_law_spoil ?l_law_spoil ?c_law_spoil ?k_law_spoil ?a_law_value ?l_law_value ?c_law_value ?k_law_value ?a_law_clause ?l_law_clause ?c_law_clause ?k_law_clause ?a_law_condition ?l_law_condition ?c_law_condition ?k_law_condition ?a_law_is_integer ?l_law_is_integer ?c_law_is_integer ?k_law_is_integer ?a_law_same_items ?l_law_same_items ?c_law_same_items ?k_law_same_items ?a_law_same ?l_law_same ?c_law_same ?k_law_same ?a_law_names ?l_law_names ?c_law_names ?k_law_names ?a_law_fits ?l_law_fits ?c_law_fits ?k_law_fits ?a_kind_of ?l_kind_of ?c_kind_of ?k_kind_of ?a_is_text_code ?l_is_text_code ?c_is_text_code ?k_is_text_code ?a_is_text_character ?l_is_text_character ?c_is_text_character ?k_is_text_character ?a_is_text ?l_is_text ?c_is_text ?k_is_text ?a_is_value ?l_is_value ?c_is_value ?k_is_value ?a_fits_kind ?l_fits_kind ?c_fits_kind ?k_fits_kind ?a_clause_fits ?l_clause_fits ?c_clause_fits ?k_clause_fits ?a_fits ?l_fits ?c_fits ?k_fits ?a_law_all_names ?l_law_all_names ?c_law_all_names ?k_law_all_names ?a_mentions ?l_mentions ?c_mentions ?k_mentions ?a_renamed_clause ?l_renamed_clause ?c_renamed_clause ?k_renamed_clause ?a_renamed ?l_renamed ?c_renamed ?k_renamed ?a_law_renamed ?l_law_renamed ?c_law_renamed ?k_law_renamed ?a_law ?l_law ?c_law ?k_law ?z_abs ?z_int ?z_len ?z_range ?z_isinstance ?z_str ?z_tuple ?z_bool ?z_list ?z_dict ?z_ord ?z_all ?z_any ?g_PERCENT_CODE ?g_LAST_CODE ?g_FIRST_CODE ?g_MOST_CHARACTERS ?g_GREATEST ?g_LEAST
    (case a_law_tape => k_is)
    (case l_law_tape => k_is)
    (case c_law_tape => k_is)
    (case k_law_tape => k_is)
    (case a_law_take => k_is)
    (case l_law_take => k_is)
    (case c_law_take => k_is)
    (case k_law_take => k_is)
    (case a_law_name => k_is)
    (case l_law_name => k_is)
    (case c_law_name => k_is)
    (case k_law_name => k_is)
    (case a_law_columns => k_is)
    (case l_law_columns => k_is)
    (case c_law_columns => k_is)
    (case k_law_columns => k_is)
    (case a_law_integer => k_is)
    (case l_law_integer => k_is)
    (case c_law_integer => k_is)
    (case k_law_integer => k_is)
    (case a_law_char => k_is)
    (case l_law_char => k_is)
    (case c_law_char => k_is)
    (case k_law_char => k_is)
    (case a_law_text => k_is)
    (case l_law_text => k_is)
    (case c_law_text => k_is)
    (case k_law_text => k_is)
    (case a_law_spoil => k_is)
    (case l_law_spoil => k_is)
    (case c_law_spoil => k_is)
    (case k_law_spoil => k_is)
    (case a_law_value => k_is)
    (case l_law_value => k_is)
    (case c_law_value => k_is)
    (case k_law_value => k_is)
    (case a_law_clause => k_is)
    (case l_law_clause => k_is)
    (case c_law_clause => k_is)
    (case k_law_clause => k_is)
    (case a_law_condition => k_is)
    (case l_law_condition => k_is)
    (case c_law_condition => k_is)
    (case k_law_condition => k_is)
    (case a_law_is_integer => k_is)
    (case l_law_is_integer => k_is)
    (case c_law_is_integer => k_is)
    (case k_law_is_integer => k_is)
    (case a_law_same_items => k_is)
    (case l_law_same_items => k_is)
    (case c_law_same_items => k_is)
    (case k_law_same_items => k_is)
    (case a_law_same => k_is)
    (case l_law_same => k_is)
    (case c_law_same => k_is)
    (case k_law_same => k_is)
    (case a_law_names => k_is)
    (case l_law_names => k_is)
    (case c_law_names => k_is)
    (case k_law_names => k_is)
    (case a_law_fits => k_is)
    (case l_law_fits => k_is)
    (case c_law_fits => k_is)
    (case k_law_fits => k_is)
    (case a_kind_of => k_is)
    (case l_kind_of => k_is)
    (case c_kind_of => k_is)
    (case k_kind_of => k_is)
    (case a_is_text_code => k_is)
    (case l_is_text_code => k_is)
    (case c_is_text_code => k_is)
    (case k_is_text_code => k_is)
    (case a_is_text_character => k_is)
    (case l_is_text_character => k_is)
    (case c_is_text_character => k_is)
    (case k_is_text_character => k_is)
    (case a_is_text => k_is)
    (case l_is_text => k_is)
    (case c_is_text => k_is)
    (case k_is_text => k_is)
    (case a_is_value => k_is)
    (case l_is_value => k_is)
    (case c_is_value => k_is)
    (case k_is_value => k_is)
    (case a_fits_kind => k_is)
    (case l_fits_kind => k_is)
    (case c_fits_kind => k_is)
    (case k_fits_kind => k_is)
    (case a_clause_fits => k_is)
    (case l_clause_fits => k_is)
    (case c_clause_fits => k_is)
    (case k_clause_fits => k_is)
    (case a_fits => k_is)
    (case l_fits => k_is)
    (case c_fits => k_is)
    (case k_fits => k_is)
    (case a_law_all_names => k_is)
    (case l_law_all_names => k_is)
    (case c_law_all_names => k_is)
    (case k_law_all_names => k_is)
    (case a_mentions => k_is)
    (case l_mentions => k_is)
    (case c_mentions => k_is)
    (case k_mentions => k_is)
    (case a_renamed_clause => k_is)
    (case l_renamed_clause => k_is)
    (case c_renamed_clause => k_is)
    (case k_renamed_clause => k_is)
    (case a_renamed => k_is)
    (case l_renamed => k_is)
    (case c_renamed => k_is)
    (case k_renamed => k_is)
    (case a_law_renamed => k_is)
    (case l_law_renamed => k_is)
    (case c_law_renamed => k_is)
    (case k_law_renamed => k_is)
    (case a_law => k_is)
    (case l_law => k_is)
    (case c_law => k_is)
    (case k_law => k_is)
    (case z_abs => k_is)
    (case z_int => k_is)
    (case z_len => k_is)
    (case z_range => k_is)
    (case z_isinstance => k_is)
    (case z_str => k_is)
    (case z_tuple => k_is)
    (case z_bool => k_is)
    (case z_list => k_is)
    (case z_dict => k_is)
    (case z_ord => k_is)
    (case z_all => k_is)
    (case z_any => k_is)
    (case g_PERCENT_CODE => k_is)
    (case g_LAST_CODE => k_is)
    (case g_FIRST_CODE => k_is)
    (case g_MOST_CHARACTERS => k_is)
    (case g_GREATEST => k_is)
    (case g_LEAST => k_is)
#print axioms PySem.Challenge.cw_lenstree_k05_condition_columns_holds
