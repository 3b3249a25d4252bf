import PyProof.Rows.All
import Wide.All
import OpenK.AllK
import Wide.FinOn
import HandS.ForMost
import HandS.Wide
import HandS.IsInst
import HandS.Flow
import HandS.Codes
import HandS.StrMore
import HandS.Walk
import HandS.Style
import HandS.Exc
import PySem.Challenge.RW_lenstree_k02_convert_values
set_option Elab.async false
set_option linter.all false
set_option maxRecDepth 100000
set_option maxHeartbeats 4000000
set_option autoImplicit false
set_option autoImplicit false
namespace Lt
open PySem L2 TL
open C8 (pss_cut)
/-! ## what every law of Lenstree leans on -/
/-- a def that has been walked: how it is called -/
structure Cal (P : Program) (w : World) (K : PySem.W.Frag) (mg : Str → Option Value) (base : Heap) (n : Nat) (x : Str) (ps : List Str) (sp : Sp) (g : Addr) (gd : FuncData) : Prop where
  G : FnOk P w K mg base CX0 n g gd ps sp
  m : mg x = some (.ref g)
  kp : PySem.W.keepIn K (.ref g) = true
  b : Binds K gd ps []
/-- a def as the top has made it -/
structure Kn (K : PySem.W.Frag) (mg : Str → Option Value) (x : Str) (st : Stmt) (ps : List Str) (g : Addr) (gd : FuncData) : Prop where
  F : Fun K x x st g gd
  b : Binds K gd ps []
  m : mg x = some (.ref g)
theorem Kn.cal {P : Program} {w : World} {K : PySem.W.Frag} {mg : Str → Option Value} {base : Heap} {n : Nat} {x : Str} {st : Stmt} {ps : List Str} {sp : Sp} {g : Addr} {gd : FuncData}
    (k : Kn K mg x st ps g gd) (G : FnOk P w K mg base CX0 n g gd ps sp) : Cal P w K mg base n x ps sp g gd := ⟨G, k.m, k.F.kp, k.b⟩

/-! ### heaps that differ at one place -/
def SameX (t : Addr) (H H' : Hp) : Prop := ∀ b o, H b = some o → b ≠ t → H' b = some o
theorem SameX.refl (t : Addr) (H : Hp) : SameX t H H := fun _ _ h _ => h
theorem SameX.trans {t : Addr} {H H1 H2 : Hp} (a : SameX t H H1) (b : SameX t H1 H2) : SameX t H H2 := fun c o h n => b c o (a c o h n) n
theorem SameX.of {t : Addr} {H H1 : Hp} (a : Same H H1) : SameX t H H1 := fun c o h _ => a c o h
theorem SameX.upd {t : Addr} {H : Hp} (o : HO) : SameX t H (upd H t o) := fun b u h n => by rw [upd_ne n]; exact h
theorem same_new {H : Hp} {p : Addr} (h : H p = none) (o : HO) : Same H (upd H p o) := fun b u q => by rw [upd_ne (ne_of_none q h)]; exact q
theorem SameX.free {t : Addr} {H H' : Hp} (e : SameX t H H') {l : Addr} (hl : l ≠ t) (h : H' l = none) : H l = none := by
  cases q : H l with
  | none => rfl
  | some o => rw [e l o q hl] at h; cases h

theorem iteDT {c A B : Prop} [Decidable c] (hc : c) (h : A) : if decide c = true then A else B := by
  rw [decide_eq_true hc]; exact iteT h
theorem iteDF {c A B : Prop} [Decidable c] (hc : ¬ c) (h : B) : if decide c = true then A else B := by
  rw [decide_eq_false hc]; exact iteF h
theorem iteNF {c A B : Prop} [Decidable c] (hc : ¬ c) (h : A) : if (!decide c) = true then A else B := by
  rw [decide_eq_false hc]; exact iteT h
theorem ifD {c A B : Prop} [Decidable c] (h1 : c → A) (h2 : ¬ c → B) : if decide c = true then A else B := by
  by_cases h : c
  · exact iteDT h (h1 h)
  · exact iteDF h (h2 h)
theorem ifN {c A B : Prop} [Decidable c] (h1 : ¬ c → A) (h2 : c → B) : if (!decide c) = true then A else B := by
  by_cases h : c
  · exact iteNS h (h2 h)
  · exact iteNF h (h1 h)
theorem bl_T {c : Prop} [Decidable c] {Q : VK} {H : Hp} (hc : c) (h : Q (.bl true) H) : Q (.bl (decide c)) H := by rw [decide_eq_true hc]; exact h
theorem bl_F {c : Prop} [Decidable c] {Q : VK} {H : Hp} (hc : ¬ c) (h : Q (.bl false) H) : Q (.bl (decide c)) H := by rw [decide_eq_false hc]; exact h
theorem int_at {ns : List Int} {i : Nat} {x : V} (h : (ns.map V.int)[i]? = some x) : ∃ z, x = V.int z ∧ ns[i]? = some z := by
  rw [List.getElem?_map] at h
  cases e : ns[i]? with
  | none => rw [e] at h; cases h
  | some z => rw [e] at h; exact ⟨z, (Option.some.inj h).symm, rfl⟩
theorem same_upd {H H1 : Hp} {p : Addr} (h : H p = none) (o : HO) (e : Same H H1) : Same H (upd H1 p o) := fun b u q => by rw [upd_ne (ne_of_none q h)]; exact e _ _ q
theorem samex_upd {t : Addr} {H H1 : Hp} {p : Addr} (h : H p = none) (o : HO) (e : SameX t H H1) : SameX t H (upd H1 p o) := fun b u q n => by rw [upd_ne (ne_of_none q h)]; exact e _ _ q n
/-- isinstance(x, T) -/
theorem isi {K : PySem.W.Frag} {H : Hp} {Q : VK} {x : V} {a b : String} (r : Bool) (hT : TyX K H x (.type a)) (h : kitB a b = some r) (q : Q (.bl r) H) : rIsi K [x, .ty b] H Q :=
  ⟨_, _, _, _, r, rfl, .ty _, hT, kit_ty h, q⟩
/-- xs[i] of a list or a tuple -/
theorem ixq {K : PySem.W.Frag} {H : Hp} {Q : VK} {a : Addr} {xs : List V} {i : Int} {v : V} (h : SqL K H a xs ∨ SqT K H a xs) (e : atI xs i = some v) (q : Q v H) : rIx K (.ref a) (.int i) H Q := by
  rcases h with h | h
  · exact .inl ⟨a, xs, i, v, rfl, rfl, h, e, q⟩
  · exact .inr (.inl ⟨a, xs, i, v, rfl, rfl, h, e, q⟩)
theorem at_in {α : Type} {xs : List α} {i : Int} (h0 : 0 ≤ i) (h1 : i < xs.length) : ∃ v, atI xs i = some v ∧ v ∈ xs := by
  have hk : i.toNat < xs.length := by omega
  refine ⟨xs[i.toNat], ?_, List.getElem_mem hk⟩
  have e : i = ((i.toNat : Nat) : Int) := by omega
  have q : atI xs ((i.toNat : Nat) : Int) = some xs[i.toNat] := atI_nat (List.getElem?_eq_getElem hk)
  rw [← e] at q
  exact q
/-! ### texts -/
def one (c : Nat) : Str := ⟨#[c]⟩
def chOk (c : Nat) : Prop := 32 ≤ c ∧ c ≤ 126 ∧ c ≠ 37
instance (c : Nat) : Decidable (chOk c) := by unfold chOk; exact inferInstance
theorem tl_one (c : Nat) : tl (one c) = [c] := rfl
theorem join_ones : ∀ chs : List Nat, joinL [] ((chs.map one).map tl) = chs
  | [] => rfl
  | [c] => rfl
  | c :: d :: r => by
    have q := join_ones (d :: r)
    show [c] ++ ([] ++ joinL [] (((d :: r).map one).map tl)) = c :: d :: r
    rw [q]; rfl
theorem strOk_of {x : Str} (h : ∀ c ∈ tl x, chOk c) : PyData.strOk x = true := by
  unfold PyData.strOk
  rw [← Array.all_toList, List.all_eq_true]
  intro c hc
  have := h c hc
  unfold chOk at this
  exact decide_eq_true (by omega)
theorem tl_empty : tl ("" : Str) = [] := by decide +kernel
theorem tl_joined (chs : List Nat) : tl (Txt.join ("" : Str) (chs.map one)) = chs := by
  rw [join_eq, tl_join, tl_empty, join_ones]
theorem len_joined (chs : List Nat) : (Txt.join ("" : Str) (chs.map one)).length = chs.length := by rw [len_tl, tl_joined]
theorem sum_ones (chs : List Nat) : ((chs.map one).map (·.length)).sum = chs.length := by
  induction chs with
  | nil => rfl
  | cons c r ih => rw [List.map_cons, List.map_cons, List.sum_cons, ih, List.length_cons]; show 1 + r.length = r.length + 1; omega
/-! ### the tape that a law draws from -/
theorem s_cells_at : ¬ ("cells" : Str) = ("at" : Str) := by decide +kernel
theorem n_cells_at : ¬ (Sum.inr ("cells" : Str) : Key) = Sum.inr ("at" : Str) := fun e => s_cells_at (Sum.inr.inj e)
theorem s_cells_left : ¬ ("cells" : Str) = ("left" : Str) := by decide +kernel
theorem n_cells_left : ¬ (Sum.inr ("cells" : Str) : Key) = Sum.inr ("left" : Str) := fun e => s_cells_left (Sum.inr.inj e)
theorem s_cells_seed : ¬ ("cells" : Str) = ("seed" : Str) := by decide +kernel
theorem n_cells_seed : ¬ (Sum.inr ("cells" : Str) : Key) = Sum.inr ("seed" : Str) := fun e => s_cells_seed (Sum.inr.inj e)
theorem s_cells_salt : ¬ ("cells" : Str) = ("salt" : Str) := by decide +kernel
theorem n_cells_salt : ¬ (Sum.inr ("cells" : Str) : Key) = Sum.inr ("salt" : Str) := fun e => s_cells_salt (Sum.inr.inj e)
theorem s_at_cells : ¬ ("at" : Str) = ("cells" : Str) := by decide +kernel
theorem s_at_left : ¬ ("at" : Str) = ("left" : Str) := by decide +kernel
theorem n_at_left : ¬ (Sum.inr ("at" : Str) : Key) = Sum.inr ("left" : Str) := fun e => s_at_left (Sum.inr.inj e)
theorem s_at_seed : ¬ ("at" : Str) = ("seed" : Str) := by decide +kernel
theorem n_at_seed : ¬ (Sum.inr ("at" : Str) : Key) = Sum.inr ("seed" : Str) := fun e => s_at_seed (Sum.inr.inj e)
theorem s_at_salt : ¬ ("at" : Str) = ("salt" : Str) := by decide +kernel
theorem n_at_salt : ¬ (Sum.inr ("at" : Str) : Key) = Sum.inr ("salt" : Str) := fun e => s_at_salt (Sum.inr.inj e)
theorem s_left_cells : ¬ ("left" : Str) = ("cells" : Str) := by decide +kernel
theorem s_left_at : ¬ ("left" : Str) = ("at" : Str) := by decide +kernel
theorem s_left_seed : ¬ ("left" : Str) = ("seed" : Str) := by decide +kernel
theorem n_left_seed : ¬ (Sum.inr ("left" : Str) : Key) = Sum.inr ("seed" : Str) := fun e => s_left_seed (Sum.inr.inj e)
theorem s_left_salt : ¬ ("left" : Str) = ("salt" : Str) := by decide +kernel
theorem n_left_salt : ¬ (Sum.inr ("left" : Str) : Key) = Sum.inr ("salt" : Str) := fun e => s_left_salt (Sum.inr.inj e)
theorem s_seed_cells : ¬ ("seed" : Str) = ("cells" : Str) := by decide +kernel
theorem s_seed_at : ¬ ("seed" : Str) = ("at" : Str) := by decide +kernel
theorem s_seed_left : ¬ ("seed" : Str) = ("left" : Str) := by decide +kernel
theorem s_seed_salt : ¬ ("seed" : Str) = ("salt" : Str) := by decide +kernel
theorem n_seed_salt : ¬ (Sum.inr ("seed" : Str) : Key) = Sum.inr ("salt" : Str) := fun e => s_seed_salt (Sum.inr.inj e)
theorem s_salt_cells : ¬ ("salt" : Str) = ("cells" : Str) := by decide +kernel
theorem s_salt_at : ¬ ("salt" : Str) = ("at" : Str) := by decide +kernel
theorem s_salt_left : ¬ ("salt" : Str) = ("left" : Str) := by decide +kernel
theorem s_salt_seed : ¬ ("salt" : Str) = ("seed" : Str) := by decide +kernel
def tk (c : Addr) (a l s m : Int) : List (Key × V) := [(Sum.inr "cells", .ref c), (Sum.inr "at", .int a), (Sum.inr "left", .int l), (Sum.inr "seed", .int s), (Sum.inr "salt", .int m)]
section
variable (c : Addr) (a l s m x : Int)
theorem tk_cells : valV (tk c a l s m) (Sum.inr ("cells" : Str) : Key) = some (.ref c) := valV_pos rfl
theorem tk_at : valV (tk c a l s m) (Sum.inr ("at" : Str) : Key) = some (.int a) := by unfold tk; rw [valV_neg n_cells_at, valV_pos rfl]
theorem tk_left : valV (tk c a l s m) (Sum.inr ("left" : Str) : Key) = some (.int l) := by unfold tk; rw [valV_neg n_cells_left, valV_neg n_at_left, valV_pos rfl]
theorem tk_seed : valV (tk c a l s m) (Sum.inr ("seed" : Str) : Key) = some (.int s) := by unfold tk; rw [valV_neg n_cells_seed, valV_neg n_at_seed, valV_neg n_left_seed, valV_pos rfl]
theorem tk_salt : valV (tk c a l s m) (Sum.inr ("salt" : Str) : Key) = some (.int m) := by unfold tk; rw [valV_neg n_cells_salt, valV_neg n_at_salt, valV_neg n_left_salt, valV_neg n_seed_salt, valV_pos rfl]
theorem put_at : putK (tk c a l s m) (Sum.inr ("at" : Str) : Key) (.int x) = tk c x l s m := by
  simp [putK, tk, s_at_cells, s_cells_at, s_at_left, s_left_at, s_at_seed, s_seed_at, s_at_salt, s_salt_at]
theorem put_left : putK (tk c a l s m) (Sum.inr ("left" : Str) : Key) (.int x) = tk c a x s m := by
  simp [putK, tk, s_left_cells, s_cells_left, s_left_at, s_at_left, s_left_seed, s_seed_left, s_left_salt, s_salt_left]
theorem put_salt : putK (tk c a l s m) (Sum.inr ("salt" : Str) : Key) (.int x) = tk c a l s x := by
  simp [putK, tk, s_salt_cells, s_cells_salt, s_salt_at, s_at_salt, s_salt_left, s_left_salt, s_salt_seed, s_seed_salt]
end
theorem merge_tk (c : Addr) (a l s m : Int) : mergeK [] (tk c a l s m) = tk c a l s m := by
  simp [mergeK, putK, tk, s_cells_at, s_cells_left, s_cells_seed, s_cells_salt, s_at_left, s_at_seed, s_at_salt, s_left_seed, s_left_salt, s_seed_salt]
structure TapeAt (H : Hp) (t c : Addr) (cs : List Int) : Prop where
  dk : ∃ a l s m : Int, H t = some (.dK (tk c a l s m)) ∧ 0 ≤ a ∧ 0 ≤ l
  ls : H c = some (.lst (cs.map V.int))
  nn : ∀ x ∈ cs, (0 : Int) ≤ x
theorem TapeAt.ne {H : Hp} {t c : Addr} {cs : List Int} (T : TapeAt H t c cs) : c ≠ t := by
  obtain ⟨a, l, s, m, h, _⟩ := T.dk
  exact ne_of T.ls h (by intro z; cases z)
theorem TapeAt.mono {H H' : Hp} {t c : Addr} {cs : List Int} (T : TapeAt H t c cs) (e : Same H H') : TapeAt H' t c cs := by
  obtain ⟨a, l, s, m, h, h1, h2⟩ := T.dk
  exact ⟨⟨a, l, s, m, e _ _ h, h1, h2⟩, e _ _ T.ls, T.nn⟩
theorem TapeAt.upd {H : Hp} {t c D : Addr} {cs : List Int} {o : HO} (T : TapeAt H t c cs) (h1 : D ≠ t) (h2 : c ≠ D) : TapeAt (upd H D o) t c cs := by
  obtain ⟨a, l, s, m, h, k1, k2⟩ := T.dk
  exact ⟨⟨a, l, s, m, by rw [upd_ne h1.symm]; exact h, k1, k2⟩, by rw [upd_ne h2]; exact T.ls, T.nn⟩
theorem tk_len {c : Addr} {a l s m : Int} : (tk c a l s m).length < sizeLine := by show 5 < sizeLine; decide
section
variable {H : Hp} {t c : Addr} {a l s m : Int}
theorem d_cells (h : H t = some (.dK (tk c a l s m))) : DGet H t (.str "cells") (some (.ref c)) := by have g := DGet.k (k := (Sum.inr ("cells" : Str) : Key)) h; rw [tk_cells] at g; exact g
theorem d_at (h : H t = some (.dK (tk c a l s m))) : DGet H t (.str "at") (some (.int a)) := by have g := DGet.k (k := (Sum.inr ("at" : Str) : Key)) h; rw [tk_at] at g; exact g
theorem d_left (h : H t = some (.dK (tk c a l s m))) : DGet H t (.str "left") (some (.int l)) := by have g := DGet.k (k := (Sum.inr ("left" : Str) : Key)) h; rw [tk_left] at g; exact g
theorem d_seed (h : H t = some (.dK (tk c a l s m))) : DGet H t (.str "seed") (some (.int s)) := by have g := DGet.k (k := (Sum.inr ("seed" : Str) : Key)) h; rw [tk_seed] at g; exact g
theorem d_salt (h : H t = some (.dK (tk c a l s m))) : DGet H t (.str "salt") (some (.int m)) := by have g := DGet.k (k := (Sum.inr ("salt" : Str) : Key)) h; rw [tk_salt] at g; exact g
theorem p_at (h : H t = some (.dK (tk c a l s m))) (x : Int) : DPut H t (.str "at") (.int x) (upd H t (.dK (tk c x l s m))) := by have g := DPut.k (k := (Sum.inr ("at" : Str) : Key)) (v := .int x) h tk_len; rw [put_at] at g; exact g
theorem p_left (h : H t = some (.dK (tk c a l s m))) (x : Int) : DPut H t (.str "left") (.int x) (upd H t (.dK (tk c a x s m))) := by have g := DPut.k (k := (Sum.inr ("left" : Str) : Key)) (v := .int x) h tk_len; rw [put_left] at g; exact g
theorem p_salt (h : H t = some (.dK (tk c a l s m))) (x : Int) : DPut H t (.str "salt") (.int x) (upd H t (.dK (tk c a l s x))) := by have g := DPut.k (k := (Sum.inr ("salt" : Str) : Key)) (v := .int x) h tk_len; rw [put_salt] at g; exact g
end
/-- _law_tape -/
def spTape (K : PySem.W.Frag) : Sp := fun vs H Q _ => ∃ (a : Addr) (ns : List Int), vs = [.ref a] ∧ SqL K H a (ns.map V.int) ∧ ns.length ≤ 63 ∧
  ∀ t c cs H', TapeAt H' t c cs → Same H H' → H t = none → Q (.ref t) H'
/-- _law_take -/
def spTake : Sp := fun vs H Q _ => ∃ (t c : Addr) (cs : List Int) (many : Int), vs = [.ref t, .int many] ∧ TapeAt H t c cs ∧ 0 < many ∧ many.natAbs < 2 ^ 9000 ∧
  ∀ d H', 0 ≤ d → d < many → TapeAt H' t c cs → SameX t H H' → Q (.int d) H'

/-! ### two pieces of data that are the same -/
def isScal : V → Bool
  | .non => true
  | .bl _ => true
  | .int _ => true
  | .str _ => true
  | _ => false
/-- x and y are the same data, nested less than n deep -/
def SameV (K : PySem.W.Frag) (H : Hp) : Nat → V → V → Prop
  | 0, _, _ => False
  | n + 1, x, y => (x = y ∧ isScal x = true) ∨
      (∃ (a b : Addr) (xs ys : List V), x = .ref a ∧ y = .ref b ∧ H a = some (.lst xs) ∧ H b = some (.lst ys) ∧ xs.length = ys.length ∧ xs.length ≤ 1000 ∧ ∀ (i : Nat) (u v : V), xs[i]? = some u → ys[i]? = some v → SameV K H n u v) ∨
      (∃ (a b : Addr) (xs ys : List V), x = .ref a ∧ y = .ref b ∧ H a = some (.tup xs) ∧ H b = some (.tup ys) ∧ xs.length = ys.length ∧ xs.length ≤ 1000 ∧ ∀ (i : Nat) (u v : V), xs[i]? = some u → ys[i]? = some v → SameV K H n u v)
theorem SameV.sc {K : PySem.W.Frag} {H : Hp} {n : Nat} {x : V} (h : isScal x = true) : SameV K H (n + 1) x x := Or.inl ⟨rfl, h⟩
/-- _law_same, for data that are the same -/
def spSame (K : PySem.W.Frag) (n : Nat) : Sp := fun vs H Q _ => ∃ x y, vs = [x, y] ∧ SameV K H n x y ∧ Q (.bl true) H
def spItems (K : PySem.W.Frag) (n : Nat) : Sp := fun vs H Q _ => ∃ (a b : Addr) (xs ys : List V), vs = [.ref a, .ref b] ∧ ((H a = some (.lst xs) ∧ H b = some (.lst ys)) ∨ (H a = some (.tup xs) ∧ H b = some (.tup ys))) ∧ xs.length = ys.length ∧ xs.length ≤ 1000 ∧
  (∀ (i : Nat) (u v : V), xs[i]? = some u → ys[i]? = some v → SameV K H n u v) ∧ Q (.bl true) H
def spIsInt : Sp := fun vs H Q _ => ∃ x, vs = [x] ∧ isScal x = true ∧ Q (.bl (match x with | .int _ => true | _ => false)) H
theorem ty_scal {K : PySem.W.Frag} {H : Hp} {x : V} (h : isScal x = true) : ∃ t : String, TyX K H x (.type t) ∧ (x = .non ∧ t = "NoneType" ∨ (∃ b, x = .bl b) ∧ t = "bool" ∨ (∃ i, x = .int i) ∧ t = "int" ∨ (∃ z, x = .str z) ∧ t = "str") := by
  cases x with
  | non => exact ⟨_, .base .non, .inl ⟨rfl, rfl⟩⟩
  | bl b => exact ⟨_, .base (.bl b), .inr (.inl ⟨⟨b, rfl⟩, rfl⟩)⟩
  | int i => exact ⟨_, .base (.int i), .inr (.inr (.inl ⟨⟨i, rfl⟩, rfl⟩))⟩
  | str z => exact ⟨_, .base (.str z), .inr (.inr (.inr ⟨⟨z, rfl⟩, rfl⟩))⟩
  | byt _ => cases h
  | flt _ => cases h
  | ref _ => cases h
  | ty _ => cases h
/-- a def that draws: from the tape at t, what it hands back in R -/
def spDraw (R : V → Hp → Addr → Prop) : Sp := fun vs H Q _ => ∃ (t c : Addr) (cs : List Int), vs = [.ref t] ∧ TapeAt H t c cs ∧ ∀ v H', R v H' t → TapeAt H' t c cs → SameX t H H' → Q v H'
def isChar : V → Hp → Addr → Prop := fun v _ _ => ∃ c, chOk c ∧ v = .str (one c)
def isText (n : Nat) : V → Hp → Addr → Prop := fun v _ _ => ∃ z : Str, z.length ≤ n ∧ (∀ c ∈ tl z, chOk c) ∧ v = .str z
def isInt (lo hi : Int) : V → Hp → Addr → Prop := fun v _ _ => ∃ i : Int, lo ≤ i ∧ i ≤ hi ∧ v = .int i
theorem cutS_sub {z : Str} {lo hi : Option Int} : ∀ c ∈ tl (cutS z lo hi), c ∈ tl z := by
  intro c hc
  have e : tl (cutS z lo hi) = (z.cps.toList.drop (HT.sIx z.length 0 lo)).take (HT.sIx z.length z.length hi - HT.sIx z.length 0 lo) := by simp [tl, cutS]
  rw [e] at hc
  exact List.mem_of_mem_drop (List.mem_of_mem_take hc)
theorem len_app (u v : Str) : (u ++ v).length = u.length + v.length := by rw [len_tl, tl_append, List.length_append, ← len_tl, ← len_tl]
/-- anything that is handed to is_value -/
inductive Thing (H : Hp) : V → Prop where
  | non : Thing H .non
  | bl (b : Bool) : Thing H (.bl b)
  | int (i : Int) : Thing H (.int i)
  | str (z : Str) (h : z.length ≤ 1000) : Thing H (.str z)
  | lst {a : Addr} {xs : List V} (h : H a = some (.lst xs)) : Thing H (.ref a)
  | tup {a : Addr} {xs : List V} (h : H a = some (.tup xs)) : Thing H (.ref a)
theorem Thing.mono {H H' : Hp} {v : V} (t : Thing H v) (e : Same H H') : Thing H' v := by
  cases t with
  | non => exact .non
  | bl b => exact .bl b
  | int i => exact .int i
  | str z h => exact .str z h
  | lst h => exact .lst (e _ _ h)
  | tup h => exact .tup (e _ _ h)
/-- is it a value (point 3) -/
def goodV : V → Bool
  | .non => true
  | .int i => decide (-1000000000 < i ∧ i < 1000000000)
  | .str z => decide (z.length ≤ 30 ∧ ∀ c ∈ tl z, chOk c)
  | _ => false
def kindOf : V → Str
  | .non => ""
  | .int _ => "int"
  | .bl _ => "int"
  | _ => "text"
def plainOf (k : Str) (b : Bool) : V := if b = true then .non else if k = ("int" : Str) then .int 0 else .str ""
def spIsValue : Sp := fun vs H Q _ => ∃ v, vs = [v] ∧ Thing H v ∧ ∀ H', Same H H' → Q (.bl (goodV v)) H'
def spIsText : Sp := fun vs H Q _ => ∃ z : Str, vs = [.str z] ∧ z.length ≤ 1000 ∧ ∀ H', Same H H' → Q (.bl (goodV (.str z))) H'
def spIsChar : Sp := fun vs H Q _ => ∃ c : Nat, vs = [.str (one c)] ∧ Q (.bl (decide (chOk c))) H
def spKindOf : Sp := fun vs H Q _ => ∃ v, vs = [v] ∧ isScal v = true ∧ Q (.str (kindOf v)) H
def spPlain : Sp := fun vs H Q _ => ∃ (k : Str) (b : Bool), vs = [.str k, .bl b] ∧ Q (plainOf k b) H
/-- what law(script) promises -/
def spLaw (K : PySem.W.Frag) : Sp := fun vs H Q _ => ∃ (a : Addr) (ns : List Int), vs = [.ref a] ∧ SqL K H a (ns.map V.int) ∧ ns.length ≤ 63 ∧ ∀ H', Q (.bl true) H'
end Lt

set_option autoImplicit false
namespace Lt
open PySem L2 TL
open C8 (pss_cut)
/-! ## data that stand still: tuples of tuples of plain values -/
inductive D where
  | s (v : V)
  | t (ds : List D)
mutual
inductive Tp (H : Hp) : V → D → Prop
  | s {v : V} (h : isScal v = true) : Tp H v (.s v)
  | t {a : Addr} {xs : List V} {ds : List D} (h : H a = some (.tup xs)) (r : TpL H xs ds) : Tp H (.ref a) (.t ds)
inductive TpL (H : Hp) : List V → List D → Prop
  | nil : TpL H [] []
  | cons {v : V} {d : D} {vs : List V} {ds : List D} (h : Tp H v d) (r : TpL H vs ds) : TpL H (v :: vs) (d :: ds)
end
/-- every tuple stands as it stood -/
def KeepT (H H' : Hp) : Prop := ∀ b xs, H b = some (.tup xs) → H' b = some (.tup xs)
theorem KeepT.refl (H : Hp) : KeepT H H := fun _ _ h => h
theorem KeepT.trans {H H1 H2 : Hp} (a : KeepT H H1) (b : KeepT H1 H2) : KeepT H H2 := fun c o h => b c o (a c o h)
theorem KeepT.of {H H1 : Hp} (a : Same H H1) : KeepT H H1 := fun c o h => a c _ h
theorem KeepT.ofX {t c : Addr} {cs : List Int} {H H1 : Hp} (T : TapeAt H t c cs) (a : SameX t H H1) : KeepT H H1 := fun b o h => a b _ h (by
  obtain ⟨_, _, _, _, e, _⟩ := T.dk
  exact ne_of h e (by intro z; cases z))
theorem KeepT.upd {H : Hp} {p : Addr} {o : HO} (h : ∀ xs, H p ≠ some (.tup xs)) : KeepT H (L2.upd H p o) := fun b xs e => by
  have ne : b ≠ p := by
    intro z
    subst z
    exact h xs e
  rw [upd_ne ne]; exact e
theorem KeepT.new {H : Hp} {p : Addr} (h : H p = none) (o : HO) : KeepT H (L2.upd H p o) := KeepT.of (same_new h o)
mutual
theorem Tp.mono {H H' : Hp} (k : KeepT H H') : ∀ {d : D} {v : V}, Tp H v d → Tp H' v d
  | .s _, _, h => by cases h with | s h => exact .s h
  | .t ds, _, h => by cases h with | t h r => exact .t (k _ _ h) (TpL.mono k r)
theorem TpL.mono {H H' : Hp} (k : KeepT H H') : ∀ {ds : List D} {vs : List V}, TpL H vs ds → TpL H' vs ds
  | [], _, h => by cases h; exact .nil
  | d :: ds, _, h => by cases h with | cons h r => exact .cons (Tp.mono k h) (TpL.mono k r)
end
theorem TpL.length {H : Hp} : ∀ {ds : List D} {vs : List V}, TpL H vs ds → vs.length = ds.length
  | [], _, h => by cases h; rfl
  | d :: ds, _, h => by cases h with | cons h r => rw [List.length_cons, List.length_cons, TpL.length r]
theorem TpL.get {H : Hp} : ∀ {ds : List D} {vs : List V} {i : Nat} {v : V}, TpL H vs ds → vs[i]? = some v → ∃ d, ds[i]? = some d ∧ Tp H v d
  | [], _, i, v, h, e => by cases h; simp at e
  | d :: ds, _, 0, v, h, e => by cases h with | cons h r => simp at e; subst e; exact ⟨d, rfl, h⟩
  | d :: ds, _, i + 1, v, h, e => by cases h with | cons h r => exact TpL.get (i := i) r (by simpa using e)
theorem TpL.get' {H : Hp} {ds : List D} {vs : List V} {i : Nat} {d : D} (h : TpL H vs ds) (e : ds[i]? = some d) : ∃ v, vs[i]? = some v ∧ Tp H v d := by
  have hl := h.length
  have hi : i < ds.length := (List.getElem?_eq_some_iff.mp e).1
  have ev : vs[i]? = some vs[i] := List.getElem?_eq_getElem (by omega)
  obtain ⟨d', e1, e2⟩ := h.get ev
  rw [e] at e1
  cases e1
  exact ⟨_, ev, e2⟩
theorem TpL.snoc {H : Hp} : ∀ {ds : List D} {vs : List V} {v : V} {d : D}, TpL H vs ds → Tp H v d → TpL H (vs ++ [v]) (ds ++ [d])
  | [], _, v, d, h, q => by cases h; exact .cons q .nil
  | d0 :: ds, _, v, d, h, q => by cases h with | cons h r => exact .cons h (TpL.snoc r q)
theorem TpL.scal {H : Hp} : ∀ {vs : List V}, (∀ v ∈ vs, isScal v = true) → TpL H vs (vs.map D.s)
  | [], _ => .nil
  | v :: vs, h => .cons (.s (h v List.mem_cons_self)) (TpL.scal fun x hx => h x (List.mem_cons_of_mem _ hx))

/-! ### columns, clauses, conditions -/
structure Col where
  n : Str
  k : Str
  b : Bool
def colD (c : Col) : D := .t [.s (.str c.n), .s (.str c.k), .s (.bl c.b)]
structure Cl where
  n : Str
  op : Str
  v : V
def clD (c : Cl) : D := .t [.s (.str c.n), .s (.str c.op), .s c.v]
abbrev Cond := List (List Cl)
def altD (a : List Cl) : D := .t (a.map clD)
def condD (c : Cond) : D := .t (c.map altD)
theorem col_at {H : Hp} {v : V} {c : Col} (h : Tp H v (colD c)) : ∃ a, v = .ref a ∧ H a = some (.tup [.str c.n, .str c.k, .bl c.b]) := by
  cases h with
  | t h r =>
    cases r with
    | cons h1 r => cases h1; cases r with
      | cons h2 r => cases h2; cases r with
        | cons h3 r => cases h3; cases r; exact ⟨_, rfl, h⟩
theorem col_mk {H : Hp} {a : Addr} {c : Col} (h : H a = some (.tup [.str c.n, .str c.k, .bl c.b])) : Tp H (.ref a) (colD c) :=
  .t h (.cons (.s rfl) (.cons (.s rfl) (.cons (.s rfl) .nil)))
theorem cl_at {H : Hp} {v : V} {c : Cl} (h : Tp H v (clD c)) : ∃ a, v = .ref a ∧ H a = some (.tup [.str c.n, .str c.op, c.v]) ∧ isScal c.v = true := by
  cases h with
  | t h r =>
    cases r with
    | cons h1 r => cases h1; cases r with
      | cons h2 r => cases h2; cases r with
        | cons h3 r => cases h3 with | s hs => cases r; exact ⟨_, rfl, h, hs⟩
theorem cl_mk {H : Hp} {a : Addr} {c : Cl} (h : H a = some (.tup [.str c.n, .str c.op, c.v])) (hs : isScal c.v = true) : Tp H (.ref a) (clD c) :=
  .t h (.cons (.s rfl) (.cons (.s rfl) (.cons (.s hs) .nil)))
theorem t_at {H : Hp} {v : V} {ds : List D} (h : Tp H v (.t ds)) : ∃ a xs, v = .ref a ∧ H a = some (.tup xs) ∧ TpL H xs ds := by
  cases h with
  | t h r => exact ⟨_, _, rfl, h, r⟩
/-! ### what a condition says of a row -/
def ltV : V → V → Bool
  | .int a, .int b => decide (a < b)
  | .str a, .str b => decide (tl a < tl b)
  | _, _ => false
def cmpM (v : V) (op : Str) (w : V) : Bool :=
  if op = ("=" : Str) then decide (v = w) else if op = ("!=" : Str) then !decide (v = w) else if op = ("<" : Str) then ltV v w
  else if op = ("<=" : Str) then !ltV w v else if op = (">" : Str) then ltV w v else !ltV v w
/-- two values that may be compared -/
def Alike (v w : V) : Prop := (∃ a b, v = .int a ∧ w = .int b) ∨ ∃ a b, v = .str a ∧ w = .str b
def at_ (names : List Str) (row : List V) (n : Str) : V := row.getD (names.idxOf n) .non
def clauseM (names : List Str) (row : List V) (c : Cl) : Bool :=
  if c.op = ("null" : Str) then decide (at_ names row c.n = .non) else if c.op = ("given" : Str) then !decide (at_ names row c.n = .non)
  else if at_ names row c.n = .non then false else cmpM (at_ names row c.n) c.op c.v
def altM (names : List Str) (row : List V) (a : List Cl) : Bool := a.all (clauseM names row)
def holdsM (names : List Str) (row : List V) (c : Cond) : Bool := c.any (altM names row)
/-- the clause can be asked of the row -/
def ClFit (names : List Str) (row : List V) (c : Cl) : Prop := c.n ∈ names ∧ (c.op = ("null" : Str) ∨ c.op = ("given" : Str) ∨ at_ names row c.n = .non ∨ Alike (at_ names row c.n) c.v)
theorem idx_str : ∀ {names : List Str} {n : Str}, n ∈ names → ∃ j, j = names.idxOf n ∧ j < names.length ∧ names[j]? = some n ∧ ∀ m x, m < j → names[m]? = some x → x ≠ n
  | [], n, h => by cases h
  | x :: r, n, h => by
    by_cases e : x = n
    · subst e
      exact ⟨0, by simp, by simp, rfl, fun m x hm => absurd hm (Nat.not_lt_zero _)⟩
    · have h' : n ∈ r := by
        rcases List.mem_cons.mp h with h | h
        · exact absurd h.symm e
        · exact h
      obtain ⟨j, e1, e2, e3, e4⟩ := idx_str h'
      refine ⟨j + 1, by rw [List.idxOf_cons, beq_false_of_ne e, ← e1]; rfl, by rw [List.length_cons]; omega, by simpa using e3, fun m y hm hy => ?_⟩
      match m, hm, hy with
      | 0, _, hy => simp at hy; subst hy; exact e
      | m + 1, hm, hy => exact e4 m y (by omega) (by simpa using hy)
theorem at_some {names : List Str} {row : List V} {n : Str} (h : n ∈ names) (hl : row.length = names.length) : row[names.idxOf n]? = some (at_ names row n) := by
  obtain ⟨j, e1, e2, _, _⟩ := idx_str h
  rw [← e1]
  unfold at_
  rw [← e1, List.getD_eq_getElem?_getD, List.getElem?_eq_getElem (by omega)]
  rfl
theorem list_lt (a b : List Nat) : (!decide (b < a)) = (decide (a < b) || decide (a = b)) := by
  have h : ¬ b < a ↔ (a < b ∨ a = b) := by rw [List.not_lt]; exact List.le_iff_lt_or_eq
  by_cases h1 : b < a
  · have h2 : ¬ (a < b ∨ a = b) := fun z => h.mpr z h1
    have h3 : ¬ a < b := fun z => h2 (.inl z)
    have h4 : ¬ a = b := fun z => h2 (.inr z)
    simp [h1, h3, h4]
  · rcases h.mp h1 with h2 | h2
    · simp [h1, h2]
    · simp [h1, h2]
theorem le_V {v w : V} (h : Alike v w) : (!ltV w v) = (ltV v w || decide (v = w)) := by
  rcases h with ⟨a, b, rfl, rfl⟩ | ⟨a, b, rfl, rfl⟩
  · unfold ltV
    by_cases h1 : b < a
    · have h2 : ¬ a < b := by omega
      have h3 : ¬ V.int a = V.int b := fun z => by cases z; omega
      simp [h1, h2]
      intro z; omega
    · by_cases h2 : a < b
      · simp [h1, h2]
      · have e : a = b := by omega
        simp [e]
  · unfold ltV
    rw [list_lt]
    have e : decide (tl a = tl b) = decide (V.str a = V.str b) := by
      by_cases h : a = b
      · subst h; simp
      · have h1 : ¬ tl a = tl b := fun z => h (ext_tl z)
        have h2 : ¬ V.str a = V.str b := fun z => h (V.str.inj z)
        rw [decide_eq_false h1, decide_eq_false h2]
    rw [e]
/-- one of two rules -/
theorem op_either {X : Cx} {f : Value → Value → Sem Value} {r1 r2 : R2} (h1 : OpR X f r1) (h2 : OpR X f r2) : OpR X f (fun x y H Q => r1 x y H Q ∨ r2 x y H Q) := by
  intro pins s σ H x y v u Q I rx ry h
  rcases h with h | h
  · exact h1 pins s σ H x y v u Q I rx ry h
  · exact h2 pins s σ H x y v u Q I rx ry h
/-- names.index(n) -/
theorem ix_names {names : List Str} {n : Str} (hn : n ∈ names) : ∃ z, (names.map V.str).all flatV = true ∧ (names.map V.str)[names.idxOf n]? = some z ∧ eqV z (.str n) = true ∧ ∀ (m : Nat) (z' : V), m < names.idxOf n → (names.map V.str)[m]? = some z' → eqV z' (.str n) = false := by
  obtain ⟨j, e1, e2, e3, e4⟩ := idx_str hn
  rw [← e1]
  refine ⟨.str n, ?_, ?_, ?_, ?_⟩
  · rw [List.all_eq_true]
    intro v hv
    obtain ⟨z, _, rfl⟩ := List.mem_map.mp hv
    rfl
  · rw [List.getElem?_map, e3]; rfl
  · show (n == n) = true; simp
  · intro m z hm hz
    rw [List.getElem?_map] at hz
    cases e : names[m]? with
    | none => rw [e] at hz; cases hz
    | some y =>
      rw [e] at hz
      cases hz
      have := e4 m y hm e
      show (y == n) = false
      simpa using this
/-- what a drawn value of a column is -/
def ValOf (k : Str) (b : Bool) (v : V) : Prop := (b = true ∧ v = .non) ∨ (k = ("int" : Str) ∧ ∃ i : Int, v = .int i ∧ -999999999 ≤ i ∧ i ≤ 999999999) ∨ (k ≠ ("int" : Str) ∧ ∃ z : Str, v = .str z ∧ z.length ≤ 30 ∧ ∀ c ∈ tl z, chOk c)
theorem ValOf.scal {k : Str} {b : Bool} {v : V} (h : ValOf k b v) : isScal v = true := by
  rcases h with ⟨_, rfl⟩ | ⟨_, i, rfl, _⟩ | ⟨_, z, rfl, _⟩ <;> rfl
theorem ValOf.alike {k : Str} {b : Bool} {v w : V} (h : ValOf k b v) (g : ValOf k false w) : v = .non ∨ Alike v w := by
  rcases h with ⟨_, rfl⟩ | ⟨k1, i, rfl, _⟩ | ⟨k1, z, rfl, _⟩
  · exact .inl rfl
  · rcases g with ⟨e, _⟩ | ⟨_, j, rfl, _⟩ | ⟨k2, _⟩
    · cases e
    · exact .inr (.inl ⟨_, _, rfl, rfl⟩)
    · exact absurd k1 k2
  · rcases g with ⟨e, _⟩ | ⟨k2, _⟩ | ⟨_, y, rfl, _⟩
    · cases e
    · exact absurd k2 k1
    · exact .inr (.inr ⟨_, _, rfl, rfl⟩)
end Lt

set_option autoImplicit false
namespace Lt
open PySem L2 TL
open C8 (pss_cut)
/-! ## what the laws draw -/
def SameXY (t u : Addr) (H H' : Hp) : Prop := ∀ b o, H b = some o → b ≠ t → b ≠ u → H' b = some o
theorem SameXY.refl (t u : Addr) (H : Hp) : SameXY t u H H := fun _ _ h _ _ => h
theorem SameXY.trans {t u : Addr} {H H1 H2 : Hp} (a : SameXY t u H H1) (b : SameXY t u H1 H2) : SameXY t u H H2 := fun c o h n m => b c o (a c o h n m) n m
theorem SameXY.ofX {t u : Addr} {H H1 : Hp} (a : SameX t H H1) : SameXY t u H H1 := fun c o h n _ => a c o h n
theorem SameXY.of {t u : Addr} {H H1 : Hp} (a : Same H H1) : SameXY t u H H1 := fun c o h _ _ => a c o h
theorem samexy_upd {t u : Addr} {H H1 : Hp} {p : Addr} (h : H p = none) (o : HO) (e : SameXY t u H H1) : SameXY t u H (upd H1 p o) := fun b v q n m => by rw [upd_ne (ne_of_none q h)]; exact e _ _ q n m
theorem SameXY.updY {t u : Addr} {H H1 : Hp} (o : HO) (e : SameXY t u H H1) : SameXY t u H (upd H1 u o) := fun b v q n m => by rw [upd_ne m]; exact e _ _ q n m
theorem TapeAt.fresh {H : Hp} {t c D : Addr} {cs : List Int} (T : TapeAt H t c cs) (h : H D = none) : D ≠ t ∧ c ≠ D := by
  obtain ⟨_, _, _, _, e, _⟩ := T.dk
  exact ⟨(ne_of_none e h).symm, ne_of_none T.ls h⟩
theorem TapeAt.notL {H : Hp} {t c D : Addr} {cs : List Int} {xs : List V} (T : TapeAt H t c cs) (h : H D = some (.lst xs)) : D ≠ t := by
  obtain ⟨_, _, _, _, e, _⟩ := T.dk
  exact ne_of h e (by intro z; cases z)
theorem KeepT.ofXY {t u c : Addr} {cs : List Int} {H H1 : Hp} {us : List V} (T : TapeAt H t c cs) (hu : H u = some (.lst us)) (a : SameXY t u H H1) : KeepT H H1 := fun b o h => by
  obtain ⟨_, _, _, _, e, _⟩ := T.dk
  exact a b _ h (ne_of h e (by intro z; cases z)) (ne_of h hu (by intro z; cases z))
theorem tl_int (i : Int) : tl (Str.ofString (toString i)) = if i < 0 then 45 :: numL i.natAbs else numL i.natAbs := by
  cases i with
  | ofNat n =>
    rw [if_neg (by show ¬ ((n : Int) < 0); omega)]
    exact tl_num n
  | negSucc n =>
    rw [if_pos (Int.negSucc_lt_zero n)]
    have e : toString (Int.negSucc n) = "-" ++ toString (((n + 1 : Nat) : Int)) := rfl
    rw [e, tl_ofString, String.toList_append, List.map_append, ← tl_ofString, ← tl_ofString, tl_num]
    rfl
theorem num_chars (n : Nat) : ∀ c ∈ numL n, 48 ≤ c ∧ c ≤ 57 := fun c h => numL_digits n c h
theorem int_text {i : Int} (h1 : -999999999 ≤ i) (h2 : i ≤ 999999999) : (Str.ofString (toString i)).length ≤ 10 ∧ ∀ c ∈ tl (Str.ofString (toString i)), c = 45 ∨ (48 ≤ c ∧ c ≤ 57) := by
  have hl : (numL i.natAbs).length ≤ 9 := numL_len (by decide) (by omega)
  constructor
  · rw [len_tl, tl_int]
    split
    · rw [List.length_cons]; omega
    · omega
  · intro c hc
    rw [tl_int] at hc
    split at hc
    · rcases List.mem_cons.mp hc with h | h
      · exact .inl h
      · exact .inr (num_chars _ _ h)
    · exact .inr (num_chars _ _ hc)
theorem log_small {i : Int} (h1 : -999999999 ≤ i) (h2 : i ≤ 999999999) : i.natAbs.log2 < 1920 := by
  have : i.natAbs < 2 ^ 30 := by omega
  exact Nat.lt_of_lt_of_le (PySem.Flt.log2_lt_of (by decide) this) (by decide)
theorem digit_ok {c : Nat} (h : c = 45 ∨ (48 ≤ c ∧ c ≤ 57)) : chOk c := by unfold chOk; omega
/-- _law_value -/
def spVal : Sp := fun vs H Q _ => ∃ (t c : Addr) (cs : List Int) (k : Str) (b : Bool), vs = [.ref t, .str k, .bl b] ∧ TapeAt H t c cs ∧ ∀ v H', ValOf k b v → TapeAt H' t c cs → SameX t H H' → Q v H'
/-! ### names -/
def nmCh (c : Nat) : Prop := (97 ≤ c ∧ c ≤ 122) ∨ (48 ≤ c ∧ c ≤ 57) ∨ c = 95
instance (c : Nat) : Decidable (nmCh c) := by unfold nmCh; exact inferInstance
def nameOk (z : Str) : Prop := z.length ≤ 20 ∧ (∃ c r, tl z = c :: r ∧ 97 ≤ c ∧ c ≤ 122) ∧ ∀ c ∈ tl z, nmCh c
theorem nmCh.ok {c : Nat} (h : nmCh c) : chOk c := by unfold nmCh at h; unfold chOk; omega
/-- each of i names of the list us begins with one of the first i letters, no two alike -/
def Hit (us : List Str) (i : Nat) : Prop := ∃ ws : List Str, ws.length = i ∧ ws.Nodup ∧ ∀ v ∈ ws, v ∈ us ∧ ∃ j r, j < i ∧ tl v = (97 + j) :: r
theorem Hit.step {us : List Str} {i : Nat} (h : Hit us i) {z : Str} {r : List Nat} (e : tl z = (97 + i) :: r) : z ∉ us ∨ Hit us (i + 1) := by
  obtain ⟨ws, h1, h2, h3⟩ := h
  by_cases hz : z ∈ us
  · refine .inr ⟨z :: ws, by rw [List.length_cons, h1], List.nodup_cons.mpr ⟨fun hw => ?_, h2⟩, fun v hv => ?_⟩
    · obtain ⟨_, j, r', hj, e'⟩ := h3 z hw
      rw [e] at e'
      have := (List.cons.inj e').1
      omega
    · rcases List.mem_cons.mp hv with rfl | hv
      · exact ⟨hz, i, r, by omega, e⟩
      · obtain ⟨a, j, r', hj, e'⟩ := h3 v hv
        exact ⟨a, j, r', by omega, e'⟩
  · exact .inl hz
theorem Hit.no {us : List Str} {i : Nat} (h : Hit us i) (hl : us.length < i) : False := by
  obtain ⟨ws, h1, h2, h3⟩ := h
  have := List.Nodup.length_le_of_subset h2 (fun v hv => (h3 v hv).1)
  omega
theorem inV_str (z : Str) (us : List Str) : inV (.str z) (us.map V.str) = decide (z ∈ us) := by
  unfold inV
  rw [Bool.eq_iff_iff, List.any_eq_true, decide_eq_true_iff]
  constructor
  · rintro ⟨v, hv, e⟩
    obtain ⟨y, hy, rfl⟩ := List.mem_map.mp hv
    have : y = z := by simpa [eqV] using e
    rw [← this]; exact hy
  · intro h
    exact ⟨.str z, List.mem_map.mpr ⟨z, h, rfl⟩, by simp [eqV]⟩
theorem flat_strs (us : List Str) : (us.map V.str).all flatV = true := by
  rw [List.all_eq_true]
  intro v hv
  obtain ⟨y, _, rfl⟩ := List.mem_map.mp hv
  rfl
def spName : Sp := fun vs H Q _ => ∃ (t c u : Addr) (cs : List Int) (us : List Str), vs = [.ref t, .ref u] ∧ TapeAt H t c cs ∧ H u = some (.lst (us.map V.str)) ∧ u ≠ c ∧ us.length ≤ 25 ∧
  ∀ z H', nameOk z → z ∉ us → TapeAt H' t c cs → H' u = some (.lst ((us ++ [z]).map V.str)) → SameXY t u H H' → Q (.str z) H'
/-! ### columns -/
def colNs (cols : List Col) : List Str := cols.map (·.n)
structure ColsOk (us : List Str) (cols : List Col) : Prop where
  nd : (colNs cols).Nodup
  fr : ∀ n ∈ colNs cols, n ∉ us ∧ nameOk n
  kd : ∀ c ∈ cols, c.k = ("int" : Str) ∨ c.k = ("text" : Str)
  hd : ∀ c, cols[0]? = some c → c.b = false
def spColumns : Sp := fun vs H Q _ => ∃ (t c u : Addr) (cs : List Int) (us : List Str) (many : Int), vs = [.ref t, .ref u, .int many] ∧ TapeAt H t c cs ∧ H u = some (.lst (us.map V.str)) ∧ u ≠ c ∧ 0 ≤ many ∧ many ≤ 8 ∧ (us.length : Int) + many ≤ 25 ∧
  ∀ L cols xs H', H L = none → H' L = some (.lst xs) → TpL H' xs (cols.map colD) → (cols.length : Int) = many + 1 → ColsOk us cols → TapeAt H' t c cs → H' u = some (.lst ((us ++ colNs cols).map V.str)) → SameXY t u H H' → Q (.ref L) H'
/-- a list of columns stands at L -/
def ColsAt (H : Hp) (L : Addr) (cols : List Col) : Prop := ∃ xs, H L = some (.lst xs) ∧ TpL H xs (cols.map colD)
theorem ColsAt.mono {H H' : Hp} {L : Addr} {cols : List Col} (h : ColsAt H L cols) (k : KeepT H H') (e : ∀ o, H L = some o → H' L = some o) : ColsAt H' L cols := by
  obtain ⟨xs, h1, h2⟩ := h
  exact ⟨xs, e _ h1, h2.mono k⟩
theorem ColsAt.get {H : Hp} {L : Addr} {cols : List Col} (h : ColsAt H L cols) {i : Nat} {col : Col} (e : cols[i]? = some col) : ∃ xs a, H L = some (.lst xs) ∧ xs[i]? = some (.ref a) ∧ H a = some (.tup [.str col.n, .str col.k, .bl col.b]) := by
  obtain ⟨xs, h1, h2⟩ := h
  obtain ⟨v, e1, e2⟩ := h2.get' (i := i) (d := colD col) (by rw [List.getElem?_map, e]; rfl)
  obtain ⟨a, rfl, e3⟩ := col_at e2
  exact ⟨xs, a, h1, e1, e3⟩
def spNames : Sp := fun vs H Q _ => ∃ (L : Addr) (cols : List Col), vs = [.ref L] ∧ ColsAt H L cols ∧ cols.length ≤ 100 ∧ ∀ N H', H N = none → Same H H' → H' N = some (.lst ((colNs cols).map V.str)) → Q (.ref N) H'
/-- the values of a row behind the key -/
def RestOf (cols : List Col) (vs : List V) : Prop := vs.length + 1 = cols.length ∧ ∀ (i : Nat) (col : Col) (v : V), cols[i + 1]? = some col → vs[i]? = some v → ValOf col.k col.b v
def spRest : Sp := fun vs H Q _ => ∃ (t c L : Addr) (cs : List Int) (cols : List Col), vs = [.ref t, .ref L] ∧ TapeAt H t c cs ∧ ColsAt H L cols ∧ 0 < cols.length ∧ cols.length ≤ 100 ∧
  ∀ p ws H', H p = none → H' p = some (.tup ws) → RestOf cols ws → TapeAt H' t c cs → SameX t H H' → Q (.ref p) H'
/-! ### clauses and conditions -/
def ClOk (cols : List Col) (cl : Cl) : Prop := ∃ col ∈ cols, cl.n = col.n ∧ (((cl.op = ("null" : Str) ∨ cl.op = ("given" : Str)) ∧ cl.v = .non) ∨
  ((cl.op ≠ ("null" : Str) ∧ cl.op ≠ ("given" : Str)) ∧ ValOf col.k false cl.v))
theorem ClOk.scal {cols : List Col} {cl : Cl} (h : ClOk cols cl) : isScal cl.v = true := by
  obtain ⟨col, _, _, ⟨_, e⟩ | ⟨_, e⟩⟩ := h
  · rw [e]; rfl
  · exact e.scal
def spClause : Sp := fun vs H Q _ => ∃ (t c L : Addr) (cs : List Int) (cols : List Col), vs = [.ref t, .ref L] ∧ TapeAt H t c cs ∧ ColsAt H L cols ∧ 0 < cols.length ∧ cols.length ≤ 100 ∧
  ∀ v cl H', Tp H' v (clD cl) → ClOk cols cl → TapeAt H' t c cs → SameX t H H' → Q v H'
def spCond : Sp := fun vs H Q _ => ∃ (t c L : Addr) (cs : List Int) (cols : List Col), vs = [.ref t, .ref L] ∧ TapeAt H t c cs ∧ ColsAt H L cols ∧ 0 < cols.length ∧ cols.length ≤ 100 ∧
  ∀ v cond H', Tp H' v (condD cond) → (∀ a ∈ cond, ∀ cl ∈ a, ClOk cols cl) → cond.length ≤ 4 → (∀ a ∈ cond, a.length ≤ 4) → TapeAt H' t c cs → SameX t H H' → Q v H'
theorem at_ofN {α : Type} {xs : List α} {z : Int} {j : Nat} {v : α} (e : z = (j : Int)) (h : xs[j]? = some v) : atI xs z = some v := by rw [e]; exact atI_nat h
theorem getD_some {vs : List V} {i : Nat} {v : V} (h : vs[i]? = some v) : vs.getD i .non = v := by rw [List.getD_eq_getElem?_getD, h]; rfl
theorem fit_of {cols : List Col} {row : List V} (nd : (colNs cols).Nodup) (hl : row.length = cols.length) (hv : ∀ (i : Nat) (col : Col) (v : V), cols[i]? = some col → row[i]? = some v → ValOf col.k col.b v) {cl : Cl} (h : ClOk cols cl) : ClFit (colNs cols) row cl := by
  obtain ⟨col, hc, e, h⟩ := h
  have hn : cl.n ∈ colNs cols := by rw [e]; exact List.mem_map.mpr ⟨col, hc, rfl⟩
  refine ⟨hn, ?_⟩
  rcases h with ⟨h, _⟩ | ⟨_, hw⟩
  · rcases h with h | h
    · exact .inl h
    · exact .inr (.inl h)
  · obtain ⟨j, e1, e2, e3, _⟩ := idx_str hn
    have hj : j < cols.length := by unfold colNs at e2; rwa [List.length_map] at e2
    have ec : cols[j]? = some cols[j] := List.getElem?_eq_getElem hj
    have en : cols[j].n = col.n := by
      unfold colNs at e3
      rw [List.getElem?_map, ec] at e3
      exact (Option.some.inj e3).trans e
    have eq : cols[j] = col := by
      obtain ⟨i, hi, ei⟩ := List.getElem_of_mem hc
      have a1 : (colNs cols)[i]? = some col.n := by unfold colNs; rw [List.getElem?_map, List.getElem?_eq_getElem hi, ei]; rfl
      have a2 : (colNs cols)[j]? = some col.n := by unfold colNs; rw [List.getElem?_map, ec]; exact congrArg some en
      have := nd_ix nd a1 a2
      subst this
      exact ei
    have er : row[j]? = some row[j] := List.getElem?_eq_getElem (by omega)
    have ea : at_ (colNs cols) row cl.n = row[j] := by unfold at_; rw [← e1]; exact getD_some er
    rw [ea]
    have := (hv j col row[j] (by rw [ec, eq]) er).alike hw
    exact .inr (.inr this)
theorem alike_self {v w : V} (h : Alike v w) : Alike v v := by
  rcases h with ⟨a, b, rfl, rfl⟩ | ⟨a, b, rfl, rfl⟩
  · exact .inl ⟨a, a, rfl, rfl⟩
  · exact .inr ⟨a, a, rfl, rfl⟩
theorem cut_tail (xs : List V) : cutV xs (some 1) none = xs.drop 1 := by
  unfold cutV
  have e1 : HT.sIx xs.length 0 (some 1) = min 1 xs.length := HT.sIx_nat _ _ 1
  have e2 : HT.sIx xs.length xs.length none = xs.length := rfl
  rw [e1, e2]
  cases xs with
  | nil => rfl
  | cons x r =>
    have e3 : min 1 (x :: r).length = 1 := by rw [List.length_cons]; omega
    rw [e3, List.take_of_length_le (by rw [List.length_drop]; omega)]
end Lt

set_option autoImplicit false
namespace Lt
open PySem L2 TL
open C8 (pss_cut)
/-! ## numbers as texts -/
theorem takes_no {X : Cx} : Takes X (fun _ _ _ _ => False) := fun u s' h => by
  obtain ⟨_, _, _, _, _, _, _, _, _, _, _, _, _, _, _, _, bad⟩ := h
  exact bad.elim
def dgL (L : List Nat) : List Nat := if L.head? = some 45 then L.tail else L
def numI (L : List Nat) : Int := if L.head? = some 45 then -((NumText.digitsVal (dgL L) : Nat) : Int) else ((NumText.digitsVal (dgL L) : Nat) : Int)
def shape (L : List Nat) : Prop := dgL L ≠ [] ∧ (dgL L).length ≤ 9 ∧ NumText.AllDigits (dgL L)
def canon (L : List Nat) : Prop := shape L ∧ ((dgL L).head? = some 48 → L = [48])
instance (l : List Nat) : Decidable (NumText.AllDigits l) := by unfold NumText.AllDigits; exact inferInstance
instance (L : List Nat) : Decidable (shape L) := by unfold shape; exact inferInstance
instance (L : List Nat) : Decidable (canon L) := by unfold canon; exact inferInstance
theorem val_snoc (l : List Nat) (d : Nat) : NumText.digitsVal (l ++ [d]) = NumText.digitsVal l * 10 + (d - 48) := by
  unfold NumText.digitsVal
  rw [List.foldl_append]
  rfl
theorem fold_pos : ∀ (l : List Nat) (a : Nat), 1 ≤ a → 1 ≤ l.foldl (fun acc c => acc * 10 + (c - 48)) a
  | [], a, h => h
  | c :: r, a, h => fold_pos r (a * 10 + (c - 48)) (by omega)
theorem val_pos {l : List Nat} (h : NumText.AllDigits l) (hn : l ≠ []) (h0 : l.head? ≠ some 48) : 1 ≤ NumText.digitsVal l := by
  cases l with
  | nil => exact absurd rfl hn
  | cons c r =>
    have hc := h.head
    have : c ≠ 48 := fun e => h0 (by rw [e]; rfl)
    unfold NumText.digitsVal
    rw [List.foldl_cons]
    exact fold_pos r (0 * 10 + (c - 48)) (by omega)
theorem num_of : ∀ (n : Nat) (l : List Nat), l.length = n → NumText.AllDigits l → l ≠ [] → l.head? ≠ some 48 → numL (NumText.digitsVal l) = l := by
  intro n
  induction n with
  | zero => intro l hl _ hn; exact absurd (List.eq_nil_of_length_eq_zero hl) hn
  | succ n ih =>
    intro l hl h hn h0
    have e := List.dropLast_concat_getLast hn
    generalize l.getLast hn = d at e
    generalize l.dropLast = l' at e
    subst e
    have hd : 48 ≤ d ∧ d ≤ 57 := h d (by simp)
    rw [val_snoc]
    by_cases e0 : l' = []
    · subst e0
      have hd0 : d ≠ 48 := fun z => h0 (by rw [z]; rfl)
      have ev : NumText.digitsVal [] * 10 + (d - 48) = d - 48 := by show 0 * 10 + (d - 48) = d - 48; omega
      rw [ev, numL_lt (by omega)]
      show [48 + (d - 48)] = [d]
      rw [show 48 + (d - 48) = d by omega]
    · have h' : NumText.AllDigits l' := fun c hc => h c (List.mem_append.mpr (.inl hc))
      have h0' : l'.head? ≠ some 48 := by
        cases l' with
        | nil => exact absurd rfl e0
        | cons a r => exact h0
      have pos := val_pos h' e0 h0'
      have hl' : l'.length = n := by rw [List.length_append] at hl; simpa using hl
      rw [numL_step (by omega)]
      have e1 : (NumText.digitsVal l' * 10 + (d - 48)) / 10 = NumText.digitsVal l' := by omega
      have e2 : 48 + (NumText.digitsVal l' * 10 + (d - 48)) % 10 = d := by omega
      rw [e1, e2, ih l' hl' h' e0 h0']
theorem num_head (n : Nat) (h : 1 ≤ n) : (numL n).head? ≠ some 48 := by
  induction n using Nat.strongRecOn with
  | _ n ih =>
    by_cases h1 : n < 10
    · rw [numL_lt h1]
      intro e
      have := Option.some.inj e
      omega
    · rw [numL_step (by omega)]
      have := ih (n / 10) (by omega) (by omega)
      cases e : numL (n / 10) with
      | nil => exact absurd e (numL_ne _)
      | cons a r => rw [e] at this; exact this
theorem num_zero : numL 0 = [48] := numL_lt (by decide)
/-- the number written down again is the text exactly if the text is canonical -/
theorem canon_iff {L : List Nat} (h : shape L) : tl (Str.ofString (toString (numI L))) = L ↔ canon L := by
  obtain ⟨h1, h2, h3⟩ := id h
  rw [tl_int]
  by_cases hs : L.head? = some 45
  · have eL : L = 45 :: dgL L := by
      unfold dgL
      rw [if_pos hs]
      cases L with
      | nil => cases hs
      | cons a r => cases hs; rfl
    have en : numI L = -((NumText.digitsVal (dgL L) : Nat) : Int) := by unfold numI; rw [if_pos hs]
    rw [en]
    generalize hD : dgL L = D at *
    by_cases h0 : D.head? = some 48
    · have nc : ¬ canon L := fun c => by
        have := c.2 (by rw [hD]; exact h0)
        rw [this] at hs
        cases hs
      refine iff_of_false ?_ nc
      intro e
      by_cases hv : NumText.digitsVal D = 0
      · rw [hv] at e
        rw [if_neg (by decide)] at e
        have e' : numL 0 = L := e
        rw [num_zero] at e'
        rw [← e'] at hs
        cases hs
      · rw [if_pos (by omega), Int.natAbs_neg, Int.natAbs_natCast, eL] at e
        have e1 := (List.cons.inj e).2
        exact num_head _ (by omega) (e1 ▸ h0)
    · refine iff_of_true ?_ ⟨h, fun z => absurd (by rw [hD] at z; exact z) h0⟩
      have := val_pos h3 h1 h0
      rw [if_pos (by omega), Int.natAbs_neg, Int.natAbs_natCast, num_of _ D rfl h3 h1 h0]
      exact eL.symm
  · have eL : dgL L = L := by unfold dgL; rw [if_neg hs]
    have en : numI L = ((NumText.digitsVal L : Nat) : Int) := by unfold numI; rw [if_neg hs, eL]
    rw [en, if_neg (by omega), Int.natAbs_natCast]
    unfold canon
    rw [eL] at h1 h2 h3 ⊢
    by_cases h0 : L.head? = some 48
    · constructor
      · intro e
        refine ⟨h, fun _ => ?_⟩
        by_cases hv : NumText.digitsVal L = 0
        · rw [hv, num_zero] at e; exact e.symm
        · exact absurd (e ▸ h0) (num_head _ (by omega))
      · rintro ⟨_, c⟩
        rw [c h0]
        decide +kernel
    · exact iff_of_true (num_of _ L rfl h3 h1 h0) ⟨h, fun z => absurd z h0⟩
theorem int_of {z : Str} (h : shape (tl z)) : intText? z = some (numI (tl z)) := by
  obtain ⟨h1, h2, h3⟩ := id h
  by_cases hs : (tl z).head? = some 45
  · have eL : tl z = 45 :: dgL (tl z) := by
      unfold dgL
      rw [if_pos hs]
      cases e : tl z with
      | nil => rw [e] at hs; cases hs
      | cons a r => rw [e] at hs; cases hs; rfl
    have l : z.length ≤ 4300 := by rw [len_tl, eL, List.length_cons]; omega
    have e := intText_neg (x := z) eL h3 h1 l
    rw [e]
    unfold numI
    rw [if_pos hs]
  · have eL : dgL (tl z) = tl z := by unfold dgL; rw [if_neg hs]
    rw [eL] at h1 h2 h3
    have e := intText_digits (x := z) h3 h1 (by rw [len_tl]; omega)
    rw [e]
    unfold numI
    rw [if_neg hs, eL]
theorem len_shape {z : Str} (h : shape (tl z)) : z.length ≤ 10 := by
  obtain ⟨_, h2, _⟩ := h
  rw [len_tl]
  unfold dgL at h2
  split at h2
  · rw [List.length_tail] at h2; omega
  · omega
theorem small_num {L : List Nat} (h : shape L) : -999999999 ≤ numI L ∧ numI L ≤ 999999999 := by
  obtain ⟨_, h2, h3⟩ := h
  have b : ∀ (l : List Nat), NumText.AllDigits l → NumText.digitsVal l < 10 ^ l.length := by
    intro l
    have g : ∀ (n : Nat) (l : List Nat), l.length = n → NumText.AllDigits l → NumText.digitsVal l < 10 ^ n := by
      intro n
      induction n with
      | zero => intro l hl _; rw [List.eq_nil_of_length_eq_zero hl]; decide
      | succ n ih =>
        intro l hl h
        have hn : l ≠ [] := by intro z; rw [z] at hl; cases hl
        have e := List.dropLast_concat_getLast hn
        generalize l.getLast hn = d at e
        generalize l.dropLast = l' at e
        subst e
        have hd : 48 ≤ d ∧ d ≤ 57 := h d (by simp)
        have hl' : l'.length = n := by rw [List.length_append] at hl; simpa using hl
        have := ih l' hl' (fun c hc => h c (List.mem_append.mpr (.inl hc)))
        rw [val_snoc, Nat.pow_succ]
        omega
    exact g l.length l rfl
  have h4 := b _ h3
  have h5 : (10 : Nat) ^ (dgL L).length ≤ 10 ^ 9 := Nat.pow_le_pow_right (by decide) h2
  have h6 : NumText.digitsVal (dgL L) ≤ 999999999 := by
    have : (10 : Nat) ^ 9 = 1000000000 := by decide
    omega
  unfold numI
  split <;> omega
theorem dec_ascii : ∀ c : Nat, c < 127 → Unicode.isDecimal c = decide (48 ≤ c ∧ c ≤ 57) := by decide +kernel
theorem isdec {z : Str} (h : ∀ c ∈ tl z, chOk c) : Txt.isdecimal z = decide (tl z ≠ [] ∧ NumText.AllDigits (tl z)) := by
  unfold PySem.Txt.isdecimal
  rw [← Array.all_toList, Bool.eq_iff_iff, Bool.and_eq_true, decide_eq_true_iff, List.all_eq_true, decide_eq_true_iff]
  have e : z.length = (tl z).length := len_tl z
  constructor
  · rintro ⟨a, b⟩
    refine ⟨fun z0 => by rw [z0] at e; simp at e; omega, fun c hc => ?_⟩
    have := b c hc
    rw [dec_ascii c (by have := (h c hc).2.1; omega)] at this
    exact of_decide_eq_true this
  · rintro ⟨a, b⟩
    refine ⟨by have := List.length_pos_iff.mpr a; omega, fun c hc => ?_⟩
    rw [dec_ascii c (by have := (h c hc).2.1; omega)]
    exact decide_eq_true (b c hc)
theorem tl_dash : tl ("-" : Str) = [45] := by decide +kernel
theorem tl_remove (z : Str) : tl (Txt.removeprefix z ("-" : Str)) = dgL (tl z) := by
  have l1 : ("-" : Str).length = 1 := by decide +kernel
  have hsub : Builtin.Str.subAt z ("-" : Str) 0 = decide ((tl z).head? = some 45) := by
    rw [PySem.StrLaws.subAt_eq, l1, List.drop_zero]
    show ((tl z).take 1 == tl ("-" : Str)) = _
    rw [tl_dash]
    cases e : tl z with
    | nil => simp
    | cons a r =>
      by_cases h : a = 45
      · subst h; rfl
      · simp [h]
  unfold PySem.Txt.removeprefix PySem.Txt.affix dgL
  rw [hsub, l1]
  by_cases h : (tl z).head? = some 45
  · rw [if_pos (decide_eq_true h), if_pos h]
    have hp : 0 < z.length := by
      rw [len_tl]
      cases e : tl z with
      | nil => rw [e] at h; cases h
      | cons a r => simp
    have ne : (z.length - 1 == z.length) = false := by simp; omega
    show tl (if (z.length - 1 == z.length) = true then z else Builtin.Str.strSub z 1 z.length) = _
    rw [ne, if_neg Bool.false_ne_true, tl_strSub, List.take_of_length_le (by rw [List.length_drop, len_tl]; omega)]
    exact List.drop_one
  · rw [if_neg (by simpa using h), if_neg h]
theorem tl_cut1 (z : Str) : tl (cutS z none (some 1)) = (tl z).take 1 := by
  have e : tl (cutS z none (some 1)) = ((tl z).drop (HT.sIx z.length 0 none)).take (HT.sIx z.length z.length (some 1) - HT.sIx z.length 0 none) := by simp [tl, cutS]
  have e1 : HT.sIx z.length z.length (some 1) = min 1 z.length := HT.sIx_nat _ _ 1
  rw [e, e1]
  show ((tl z).drop 0).take (min 1 z.length - 0) = _
  rw [List.drop_zero, Nat.sub_zero, len_tl]
  cases tl z with
  | nil => rfl
  | cons a r => rw [show min 1 (a :: r).length = 1 by rw [List.length_cons]; omega]
theorem tl_cut2 (z : Str) : tl (cutS z (some 1) none) = (tl z).drop 1 := by
  have e : tl (cutS z (some 1) none) = ((tl z).drop (HT.sIx z.length 0 (some 1))).take (HT.sIx z.length z.length none - HT.sIx z.length 0 (some 1)) := by simp [tl, cutS]
  have e1 : HT.sIx z.length 0 (some 1) = min 1 z.length := HT.sIx_nat _ _ 1
  rw [e, e1]
  show ((tl z).drop (min 1 z.length)).take (z.length - min 1 z.length) = _
  rw [len_tl]
  cases tl z with
  | nil => rfl
  | cons a r =>
    rw [show min 1 (a :: r).length = 1 by rw [List.length_cons]; omega, List.take_of_length_le (by rw [List.length_drop]; omega)]
theorem first_dash (z : Str) : (cutS z none (some 1) = ("-" : Str)) ↔ (tl z).head? = some 45 := by
  constructor
  · intro e
    have e1 := congrArg tl e
    rw [tl_cut1, tl_dash] at e1
    cases h : tl z with
    | nil => rw [h] at e1; cases e1
    | cons a r => rw [h] at e1; simp at e1; rw [e1]; rfl
  · intro e
    refine ext_tl ?_
    rw [tl_cut1, tl_dash]
    cases h : tl z with
    | nil => rw [h] at e; cases e
    | cons a r => rw [h] at e; cases e; rfl
theorem digit_in : ∀ k : Nat, k < 10 → Txt.index0 ("0123456789" : Str) (one (48 + k)) = some k := by decide +kernel
theorem digits_tl : ∀ c : Nat, c < 127 → (c ∈ ("0123456789" : Str).cps.toList ↔ (48 ≤ c ∧ c ≤ 57)) := by decide +kernel
end Lt
namespace Lt
open PySem L2 TL
open C8 (pss_cut)

def canV (L : List Nat) : V := if canon L then .int (numI L) else .non
theorem canV_T {L : List Nat} (h : canon L) : canV L = .int (numI L) := by unfold canV; rw [if_pos h]
theorem canV_F {L : List Nat} (h : ¬ canon L) : canV L = .non := by unfold canV; rw [if_neg h]
def spNumberOf : Sp := fun vs H Q _ => ∃ z : Str, vs = [.str z] ∧ (∀ c ∈ tl z, chOk c) ∧ z.length ≤ 1000 ∧ Q (canV (tl z)) H
/-- convert: a text or a number or null -/
def convM (v : V) (k : Str) : V := match v with
  | .int i => if k = ("int" : Str) then .int i else .str (Str.ofString (toString i))
  | .str z => if k = ("text" : Str) then .str z else canV (tl z)
  | x => x
def Given (v : V) : Prop := v = .non ∨ (∃ i : Int, v = .int i ∧ -999999999 ≤ i ∧ i ≤ 999999999) ∨ ∃ z : Str, v = .str z ∧ (∀ c ∈ tl z, chOk c) ∧ z.length ≤ 1000
def spConvert : Sp := fun vs H Q _ => ∃ (v : V) (k : Str), vs = [v, .str k] ∧ Given v ∧ (k = ("int" : Str) ∨ k = ("text" : Str)) ∧ Q (convM v k) H
def canB (L : List Nat) : Bool := decide (canon L)
theorem canB_T {L : List Nat} (h : canon L) : canB L = true := by unfold canB; exact decide_eq_true h
theorem canB_F {L : List Nat} (h : ¬ canon L) : canB L = false := by unfold canB; exact decide_eq_false h
def spCanon : Sp := fun vs H Q _ => ∃ z : Str, vs = [.str z] ∧ (∀ c ∈ tl z, chOk c) ∧ z.length ≤ 1000 ∧ Q (.bl (canB (tl z))) H
def spNumber : Sp := fun vs H Q _ => ∃ z : Str, vs = [.str z] ∧ shape (tl z) ∧ Q (.int (numI (tl z))) H
theorem ti : ¬ ("text" : Str) = ("int" : Str) := by decide +kernel
theorem it : ¬ ("int" : Str) = ("text" : Str) := by decide +kernel
theorem canon_text {i : Int} (h1 : -999999999 ≤ i) (h2 : i ≤ 999999999) : canon (tl (Str.ofString (toString i))) ∧ numI (tl (Str.ofString (toString i))) = i := by
  have hl : (numL i.natAbs).length ≤ 9 := numL_len (by decide) (by omega)
  have hd := numL_digits i.natAbs
  have hn := numL_ne i.natAbs
  have n45 : (numL i.natAbs).head? ≠ some 45 := by
    cases e : numL i.natAbs with
    | nil => exact absurd e hn
    | cons a r =>
      rw [e] at hd
      have := hd.head
      intro z
      cases z
      omega
  have main : shape (tl (Str.ofString (toString i))) ∧ numI (tl (Str.ofString (toString i))) = i := by
    rw [tl_int]
    by_cases hi : i < 0
    · rw [if_pos hi]
      have ed : dgL (45 :: numL i.natAbs) = numL i.natAbs := rfl
      refine ⟨⟨by rw [ed]; exact hn, by rw [ed]; exact hl, by rw [ed]; exact hd⟩, ?_⟩
      unfold numI
      rw [ed, numL_val, if_pos (show (45 :: numL i.natAbs).head? = some 45 from rfl)]
      omega
    · rw [if_neg hi]
      have ed : dgL (numL i.natAbs) = numL i.natAbs := by unfold dgL; rw [if_neg n45]
      refine ⟨⟨by rw [ed]; exact hn, by rw [ed]; exact hl, by rw [ed]; exact hd⟩, ?_⟩
      unfold numI
      rw [ed, numL_val, if_neg n45]
      omega
  refine ⟨(canon_iff main.1).mp ?_, main.2⟩
  rw [main.2]
def topS (i : Nat) : Stmt := PySem.Challenge.pw_lenstree_k02_convert_values.main.body.getD i (.Pass ⟨0, 0, 0, 0⟩)
structure Z (mg : Str → Option Value) : Prop where
  abs : mg "abs" = none
  int : mg "int" = none
  len : mg "len" = none
  range : mg "range" = none
  str : mg "str" = none
  isinstance : mg "isinstance" = none
  bool : mg "bool" = none
  tuple : mg "tuple" = none
  list : mg "list" = none
  dict : mg "dict" = none
  c_MOST_DIGITS : ∃ t, mg "MOST_DIGITS" = some (Value.int 9 t)
abbrev s_law_tape : Stmt := topS 6
theorem sc_law_tape : FnScope ["script", "cell", "cells", "seed"] ["script"] (defScope s_law_tape) := ⟨rfl, rfl, rfl, by decide +kernel, rfl, by decide +kernel, by decide +kernel⟩
abbrev s_law_take : Stmt := topS 7
theorem sc_law_take : FnScope ["tape", "many", "drawn", "mixed"] ["tape", "many"] (defScope s_law_take) := ⟨rfl, rfl, rfl, by decide +kernel, rfl, by decide +kernel, by decide +kernel⟩
abbrev s_law_integer : Stmt := topS 13
theorem sc_law_integer : FnScope ["tape", "choice"] ["tape"] (defScope s_law_integer) := ⟨rfl, rfl, rfl, by decide +kernel, rfl, by decide +kernel, by decide +kernel⟩
abbrev s_law_char : Stmt := topS 11
theorem sc_law_char : FnScope ["tape", "chars"] ["tape"] (defScope s_law_char) := ⟨rfl, rfl, rfl, by decide +kernel, rfl, by decide +kernel, by decide +kernel⟩
abbrev s_law_text : Stmt := topS 12
theorem sc_law_text : FnScope ["tape", "size", "k"] ["tape"] (defScope s_law_text) := ⟨rfl, rfl, rfl, by decide +kernel, rfl, by decide +kernel, by decide +kernel⟩
abbrev s_law_spoilt : Stmt := topS 15
theorem sc_law_spoilt : FnScope ["tape", "digits", "at"] ["tape"] (defScope s_law_spoilt) := ⟨rfl, rfl, rfl, by decide +kernel, rfl, by decide +kernel, by decide +kernel⟩
abbrev s_law_canonical : Stmt := topS 16
theorem sc_law_canonical : FnScope ["text", "digits", "char"] ["text"] (defScope s_law_canonical) := ⟨rfl, rfl, rfl, by decide +kernel, rfl, by decide +kernel, by decide +kernel⟩
abbrev s_law_number : Stmt := topS 17
theorem sc_law_number : FnScope ["text", "total", "char"] ["text"] (defScope s_law_number) := ⟨rfl, rfl, rfl, by decide +kernel, rfl, by decide +kernel, by decide +kernel⟩
abbrev s_law_is_integer : Stmt := topS 8
theorem sc_law_is_integer : FnScope ["actual"] ["actual"] (defScope s_law_is_integer) := ⟨rfl, rfl, rfl, by decide +kernel, rfl, by decide +kernel, by decide +kernel⟩
abbrev s_law_same_items : Stmt := topS 9
theorem sc_law_same_items : FnScope ["actual", "expected", "k"] ["actual", "expected"] (defScope s_law_same_items) := ⟨rfl, rfl, rfl, by decide +kernel, rfl, by decide +kernel, by decide +kernel⟩
abbrev s_law_same : Stmt := topS 10
theorem sc_law_same : FnScope ["actual", "expected", "key"] ["actual", "expected"] (defScope s_law_same) := ⟨rfl, rfl, rfl, by decide +kernel, rfl, by decide +kernel, by decide +kernel⟩
abbrev s_kind_of : Stmt := topS 2
theorem sc_kind_of : FnScope ["value"] ["value"] (defScope s_kind_of) := ⟨rfl, rfl, rfl, by decide +kernel, rfl, by decide +kernel, by decide +kernel⟩
abbrev s_number_of : Stmt := topS 3
theorem sc_number_of : FnScope ["text", "digits", "number"] ["text"] (defScope s_number_of) := ⟨rfl, rfl, rfl, by decide +kernel, rfl, by decide +kernel, by decide +kernel⟩
abbrev s_convert : Stmt := topS 4
theorem sc_convert : FnScope ["value", "kind"] ["value", "kind"] (defScope s_convert) := ⟨rfl, rfl, rfl, by decide +kernel, rfl, by decide +kernel, by decide +kernel⟩
abbrev s_law : Stmt := topS 18
theorem sc_law : FnScope ["script", "tape", "k", "number", "text", "expected", "written"] ["script"] (defScope s_law) := ⟨rfl, rfl, rfl, by decide +kernel, rfl, by decide +kernel, by decide +kernel⟩
section
variable {P : Program} {w : World} {K : PySem.W.Frag} {mg : Str → Option Value} {base : Heap}
theorem ok_law_tape {f : Addr} {fd : FuncData} (k : Kn K mg "_law_tape" s_law_tape ["script"] f fd) (z : Z mg) :
    Cal P w K mg base 1 "_law_tape" ["script"] (spTape K) f fd := k.cal (by
  refine k.F.ok sc_law_tape (fun vs H Q E h => ?_) (fun cdv A outer s H vs Q E hr h => ?_)
  · obtain ⟨a, ns, rfl, _⟩ := h; rfl
  · obtain ⟨a, ns, rfl, hS, h63, q⟩ := h
    have hu := hu_of hr
    refine ⟨_, (pss_cons (ps_setLc (i := 2) (own := [("cell", 1)]) (g := gName 1) (tt := tYes) (by rfl) sc_law_tape.nd rfl rfl (sw_true rfl rfl rfl (by decide +kernel)) (pi_list (pv 0)) (blkOk_by (own := [("cell", 1)]) (N := ["script", "cell", "cells", "seed"]) (sc := defScope s_law_tape) (by decide +kernel)) (fun _ _ _ _ _ => pg_name (i := 1) sc_law_tape.nd rfl (Or.inl rfl)) (fun _ _ _ _ _ => pts_nil) (fun _ _ _ _ _ => (pe_callB call_abs (by rfl) z.abs (by decide +kernel) (pa_cons (pe_callTy call_int1 (by rfl) z.int (by decide +kernel) (pa_cons (pv 1) pa_nil)) pa_nil))))
        (pss_cons (ps_set (i := 3) sc_law_tape.nd rfl (Or.inl rfl) pe_int)
        (pss_cons (ps_for PassesOwn.never rfl (pi_list (pv 2)) (pg_name (i := 1) sc_law_tape.nd rfl (Or.inl rfl))
        (pss_one (ps_set (i := 3) sc_law_tape.nd rfl (Or.inl rfl) (pe_op op_mod (pe_callTy call_int1 (by rfl) z.int (by decide +kernel) (pa_cons (pe_op op_add (pe_op op_mul (pv 3) pe_int) (pv 1)) pa_nil)) pe_int))))
        (pss_one (ps_ret (pe_disp (pps_cons pe_str (pv 2) (pps_cons pe_str pe_int (pps_cons pe_str pe_int (pps_cons pe_str (pv 3) (pps_cons pe_str pe_int pps_nil))))) (by rfl) (by rfl) (fun z => by cases z) (by decide))))))), ?_⟩
    refine ⟨_, rfl, a, rfl, ⟨_, hS⟩, fun D hD => lc_list (K := K) (a := a) (xs := ns.map V.int) (fun i H' => ∃ cs : List Int, H' D = some (.lst (cs.map V.int)) ∧ cs.length = i ∧ (∀ x ∈ cs, (0 : Int) ≤ x) ∧ Same H H') ⟨[], upd_same, rfl, (by intro x hx; cases hx), same_new hD _⟩ (fun i H' _ ⟨_, _, _, _, s1⟩ => s1.seq hS) ?_ ?_⟩
    · rintro i x H1 hi ⟨cs, hc, hl, hn, s1⟩
      obtain ⟨z, rfl, hz⟩ := int_at hi
      have hi63 : i < ns.length := (List.getElem?_eq_some_iff.mp hz).1
      refine ⟨rfl, _, rfl, .inl ⟨z, rfl, z, rfl, _, hc, (by rw [List.length_map]; exact small1000 (by omega)), cs ++ [if z < 0 then -z else z], ?_, by simp [hl], ?_, same_upd hD _ s1⟩⟩
      · rw [upd_same, List.map_append]; rfl
      · intro y hy
        rcases List.mem_append.mp hy with hy | hy
        · exact hn y hy
        · rw [List.mem_singleton.mp hy]
          by_cases h0 : z < 0
          · rw [if_pos h0]; omega
          · rw [if_neg h0]; omega
    · rintro H1 ⟨cs, hc, hl, hn, s1⟩
      refine ⟨_, rfl, D, rfl, ⟨_, SqL.of hc⟩, for_list (K := K) (a := D) (xs := cs.map V.int) (fun i σ H2 => ∃ v s, σ = [some (.ref a), v, some (.ref D), some (.int s)] ∧ H2 = H1) ⟨none, 7, rfl, rfl⟩ (fun i σ H2 _ ⟨_, _, _, e⟩ => by rw [e]; exact SqL.of hc) ?_ ?_⟩
      · rintro i x σ H2 hi ⟨v, s, rfl, rfl⟩
        obtain ⟨z, rfl, hz⟩ := int_at hi
        refine ⟨_, rfl, _, _, rfl, rfl, .inr ⟨by decide, by decide⟩, _, rfl, _, _, rfl, rfl, .inl ⟨_, rfl, _, _, rfl, rfl, (by show (0 : Int) < 2147483647; decide), ?_⟩⟩
        exact ⟨_, _, rfl, rfl⟩
      · rintro σ H2 ⟨v, s, rfl, rfl⟩
        refine fun p hp => ⟨_, rfl, _, rfl, upd_same, tk D 0 0 s 0, rfl, (by show 5 ≤ 15; decide), ?_⟩
        have hp0 : H p = none := s1.free hp
        refine q p D cs _ ⟨⟨0, 0, s, 0, by rw [upd_same, merge_tk], Int.le_refl _, Int.le_refl _⟩, ?_, hn⟩ (same_upd hp0 _ (same_upd hp0 _ s1)) hp0
        rw [upd_ne (ne_of_none hc hp), upd_ne (ne_of_none hc hp)]
        exact hc)
theorem ok_law_take {f : Addr} {fd : FuncData} (k : Kn K mg "_law_take" s_law_take ["tape", "many"] f fd) (z : Z mg) :
    Cal P w K mg base 1 "_law_take" ["tape", "many"] (spTake) f fd := k.cal (by
  refine k.F.ok sc_law_take (fun vs H Q E h => ?_) (fun cdv A outer s H vs Q E hr h => ?_)
  · obtain ⟨t, c, cs, many, rfl, _⟩ := h; rfl
  · obtain ⟨t, c, cs, many, rfl, T, h0, h9, q⟩ := h
    have hu := hu_of hr
    have cne : c ≠ t := T.ne
    obtain ⟨⟨a, l, s0, m, hd, ha, hl⟩, hc, hn⟩ := id T
    refine ⟨_, (pss_cut (ps_if (PW.pt (pw_and (pt_cmpR op_eq (pe_dget hu (pv 0) pe_str (fun _ _ => rfl)) pe_int (nomark _)) (pw_and1 (pt_cmpR op_lt (pe_dget hu (pv 0) pe_str (fun _ _ => rfl)) (pe_callB call_len_seq (by rfl) z.len (by decide +kernel) (pa_cons (pe_dget hu (pv 0) pe_str (fun _ _ => rfl)) pa_nil)) (nomark _))))) (pss_cons (ps_dput hu (pv 0) pe_str (pe_ix ix_list (pe_dget hu (pv 0) pe_str (fun _ _ => rfl)) (pe_dget hu (pv 0) pe_str (fun _ _ => rfl)) (fun _ _ => rfl)) rfl)
        (pss_one (ps_dput hu (pv 0) pe_str (pe_op op_add (pe_dget hu (pv 0) pe_str (fun _ _ => rfl)) pe_int) rfl))) pss_nil)
        (pss_cons (ps_if (pt_cmpR op_gt (pe_dget hu (pv 0) pe_str (fun _ _ => rfl)) pe_int (nomark _)) (pss_cons (ps_set (i := 2) sc_law_take.nd rfl (Or.inl rfl) (pe_op op_mod (pe_callTy call_int1 (by rfl) z.int (by decide +kernel) (pa_cons (pe_dget hu (pv 0) pe_str (fun _ _ => rfl)) pa_nil)) (pv 1)))
        (pss_cons (ps_dput hu (pv 0) pe_str (pe_op op_fdivW (pe_dget hu (pv 0) pe_str (fun _ _ => rfl)) (pv 1)) rfl)
        (pss_one (ps_ret (pv 2))))) pss_nil)
        (pss_cons (ps_dput hu (pv 0) pe_str (pe_op op_add (pe_dget hu (pv 0) pe_str (fun _ _ => rfl)) pe_int) rfl)
        (pss_cons (ps_set (i := 3) sc_law_take.nd rfl (Or.inl rfl) (pe_op op_mod (pe_callTy call_int1 (by rfl) z.int (by decide +kernel) (pa_cons (pe_op op_add (pe_op op_mul (pe_dget hu (pv 0) pe_str (fun _ _ => rfl)) pe_int) (pe_op op_mul (pe_dget hu (pv 0) pe_str (fun _ _ => rfl)) pe_int)) pa_nil)) pe_int))
        (pss_cons (ps_set (i := 3) sc_law_take.nd rfl (Or.inl rfl) (pe_op op_mod (pe_callTy call_int1 (by rfl) z.int (by decide +kernel) (pa_cons (pe_op op_add (pe_op op_add (pe_op op_mul (pv 3) (pv 3)) (pe_op op_mul (pe_dget hu (pv 0) pe_str (fun _ _ => rfl)) pe_int)) pe_int) pa_nil)) pe_int))
        (pss_one (ps_ret (pe_op op_mod (pe_callTy call_int1 (by rfl) z.int (by decide +kernel) (pa_cons (pv 3) pa_nil)) (pv 1))))))))), ?_⟩
    refine ⟨fun σ' H' => ∃ a l m : Int, σ' = [some (.ref t), some (.int many), none, none] ∧ H' t = some (.dK (tk c a l s0 m)) ∧ 0 ≤ a ∧ 0 ≤ l ∧ SameX t H H', ?_, ?_⟩
    · refine ⟨_, rfl, t, .int l, rfl, d_left hd, rfl, _, rfl, ?_⟩
      refine ite2 (fun e0 => ?_) (fun e0 => ?_)
      · refine ⟨_, rfl, t, .int a, rfl, d_at hd, _, rfl, t, .ref c, rfl, d_cells hd, c, _, rfl, .inl (SqL.of hc), _, _, rfl, rfl, _, rfl, ?_⟩
        refine ite2 (fun e1 => ?_) (fun e1 => ?_)
        · have e2 : a < (((cs.map V.int).length : Nat) : Int) := of_decide_eq_true e1
          rw [List.length_map] at e2
          have hk : a.toNat < cs.length := by omega
          have hat : atI (cs.map V.int) a = some (.int cs[a.toNat]) := at_of (j := a.toNat) (by omega) (by rw [List.getElem?_map, List.getElem?_eq_getElem hk]; rfl)
          have hx : 0 ≤ cs[a.toNat] := hn _ (List.getElem_mem hk)
          refine ⟨_, rfl, t, .ref c, rfl, d_cells hd, _, rfl, t, .int a, rfl, d_at hd, c, _, a, _, rfl, rfl, SqL.of hc, hat, _, rfl, t, _, rfl, p_left hd _, ?_⟩
          refine ⟨_, rfl, t, .int a, rfl, d_at upd_same, _, _, rfl, rfl, _, rfl, t, _, rfl, p_at upd_same _, ?_⟩
          exact ⟨a + 1, _, m, rfl, upd_same, by omega, hx, (SameX.upd _).trans (SameX.upd _)⟩
        · exact ⟨a, l, m, rfl, hd, ha, hl, SameX.refl _ _⟩
      · exact ⟨a, l, m, rfl, hd, ha, hl, SameX.refl _ _⟩
    · rintro σ1 H1 ⟨a, l, m, rfl, hd, ha, hl, S1⟩
      have hc1 : H1 c = some (.lst (cs.map V.int)) := S1 _ _ hc cne
      refine ⟨_, rfl, t, .int l, rfl, d_left hd, _, _, rfl, rfl, _, rfl, ?_⟩
      refine ite2 (fun e0 => ?_) (fun e0 => ?_)
      · refine ⟨_, rfl, t, .int l, rfl, d_left hd, .inl ⟨_, rfl, _, rfl, _, _, rfl, rfl, h0, ?_⟩⟩
        refine ⟨_, rfl, t, .int l, rfl, d_left hd, _, rfl, _, _, rfl, rfl, wide_div h0 h9 (by decide) (by decide), _, rfl, t, _, rfl, p_left hd _, ?_⟩
        refine ⟨_, rfl, ?_⟩
        refine q _ _ (Int.emod_nonneg _ (by omega)) (Int.emod_lt_of_pos _ h0) ⟨⟨a, _, s0, m, upd_same, ha, Int.ediv_nonneg hl (by omega)⟩, by rw [upd_ne cne]; exact hc1, hn⟩ (S1.trans (SameX.upd _))
      · refine ⟨_, rfl, t, .int m, rfl, d_salt hd, _, _, rfl, rfl, _, rfl, t, _, rfl, p_salt hd _, ?_⟩
        have hd2 : upd H1 t (.dK (tk c a l s0 (m + 1))) t = some (.dK (tk c a l s0 (m + 1))) := upd_same
        refine ⟨_, rfl, t, .int s0, rfl, d_seed hd2, _, _, rfl, rfl, .inr ⟨by decide, by decide⟩, _, rfl, t, .int _, rfl, d_salt hd2, _, _, rfl, rfl, .inr ⟨by decide, by decide⟩, _, _, rfl, rfl, .inl ⟨_, rfl, _, _, rfl, rfl, (by show (0 : Int) < 2147483647; decide), ?_⟩⟩
        generalize hmx : (s0 * 48271 + (m + 1) * 69621) % 2147483647 = mx
        have b1 : 0 ≤ mx := by rw [← hmx]; exact Int.emod_nonneg _ (by decide)
        have b2 : mx < 2147483647 := by rw [← hmx]; exact Int.emod_lt_of_pos _ (by decide)
        refine ⟨_, rfl, _, rfl, _, _, rfl, rfl, .inl ⟨by omega, by omega⟩, _, rfl, t, .int _, rfl, d_salt hd2, _, _, rfl, rfl, .inr ⟨by decide, by decide⟩, _, _, rfl, rfl, _, _, rfl, rfl, .inl ⟨_, rfl, _, _, rfl, rfl, (by show (0 : Int) < 2147483399; decide), ?_⟩⟩
        refine ⟨_, rfl, .inl ⟨_, rfl, _, rfl, _, _, rfl, rfl, h0, ?_⟩⟩
        exact q _ _ (Int.emod_nonneg _ (by omega)) (Int.emod_lt_of_pos _ h0) ⟨⟨a, l, s0, m + 1, hd2, ha, hl⟩, by rw [upd_ne cne]; exact hc1, hn⟩ (S1.trans (SameX.upd _)))
theorem ok_law_integer {f : Addr} {fd : FuncData} (k : Kn K mg "_law_integer" s_law_integer ["tape"] f fd) (z : Z mg)
    {g_law_take : Addr} {gd_law_take : FuncData} (c_law_take : Cal P w K mg base 1 "_law_take" ["tape", "many"] (spTake) g_law_take gd_law_take) :
    Cal P w K mg base 2 "_law_integer" ["tape"] (spDraw (isInt (-999999999) 999999999)) f fd := k.cal (by
  refine k.F.ok sc_law_integer (fun vs H Q E h => ?_) (fun cdv A outer s H vs Q E hr h => ?_)
  · obtain ⟨t, c, cs, rfl, _⟩ := h; rfl
  · obtain ⟨t, c, cs, rfl, T, q⟩ := h
    refine ⟨_, (pss_cons (ps_set (i := 1) sc_law_integer.nd rfl (Or.inl rfl) (pe_call c_law_take.G (hr.mono (by decide)) (by rfl) c_law_take.m c_law_take.kp c_law_take.b .nil pass0 (pa_cons (pv 0) (pa_cons pe_int pa_nil))))
        (pss_cons (ps_if (pt_cmpR op_eq (pv 1) pe_int (nomark _)) (pss_one (ps_ret (pe_op op_sub (pe_call c_law_take.G (hr.mono (by decide)) (by rfl) c_law_take.m c_law_take.kp c_law_take.b .nil pass0 (pa_cons (pv 0) (pa_cons pe_int pa_nil))) pe_int))) pss_nil)
        (pss_cons (ps_if (pt_cmpR op_eq (pv 1) pe_int (nomark _)) (pss_one (ps_ret (pe_ix ix_list (pe_lst (pa_cons pe_int (pa_cons (pe_un un_neg pe_int) (pa_cons pe_int (pa_cons pe_int pa_nil))))) (pe_call c_law_take.G (hr.mono (by decide)) (by rfl) c_law_take.m c_law_take.kp c_law_take.b .nil pass0 (pa_cons (pv 0) (pa_cons pe_int pa_nil))) (fun _ _ => rfl)))) pss_nil)
        (pss_cons (ps_if (pt_cmpR op_eq (pv 1) pe_int (nomark _)) (pss_one (ps_ret (pe_un un_neg (pe_call c_law_take.G (hr.mono (by decide)) (by rfl) c_law_take.m c_law_take.kp c_law_take.b .nil pass0 (pa_cons (pv 0) (pa_cons pe_int pa_nil)))))) pss_nil)
        (pss_one (ps_ret (pe_call c_law_take.G (hr.mono (by decide)) (by rfl) c_law_take.m c_law_take.kp c_law_take.b .nil pass0 (pa_cons (pv 0) (pa_cons pe_int pa_nil))))))))), ?_⟩
    refine ⟨_, rfl, t, c, cs, 8, rfl, T, by decide, by decide +kernel, fun d H1 d0 d1 T1 s1 => ?_⟩
    refine ⟨_, rfl, rfl, _, rfl, ?_⟩
    refine ifD (fun _ => ?_) (fun _ => ?_)
    · refine ⟨_, rfl, t, c, cs, 1999999999, rfl, T1, by decide, by decide +kernel, fun e H2 e0 e1 T2 s2 => ⟨_, _, rfl, rfl, ?_⟩⟩
      exact q _ H2 ⟨_, by omega, by omega, rfl⟩ T2 (s1.trans s2)
    refine ⟨_, rfl, rfl, _, rfl, ?_⟩
    refine ifD (fun _ => ?_) (fun _ => ?_)
    · refine ⟨_, rfl, (by show 4 ≤ sizeLine; decide), fun L hL => ?_⟩
      refine ⟨_, rfl, t, c, cs, 4, rfl, T1.mono (same_new hL _), by decide, by decide +kernel, fun e H2 e0 e1 T2 s2 => ?_⟩
      obtain ⟨v, h1, h2⟩ := at_in (xs := [V.int 999999999, V.int (-999999999), V.int 999999998, V.int 0]) e0 (by simpa using e1)
      obtain ⟨n, rfl, n0, n1⟩ : ∃ n : Int, v = V.int n ∧ -999999999 ≤ n ∧ n ≤ 999999999 := by
        simp only [List.mem_cons, List.not_mem_nil, or_false] at h2
        rcases h2 with rfl | rfl | rfl | rfl <;> exact ⟨_, rfl, by decide, by decide⟩
      refine ⟨L, _, e, _, rfl, rfl, SqL.of (s2 _ _ upd_same (T1.fresh hL).1), h1, ?_⟩
      exact q _ H2 ⟨n, n0, n1, rfl⟩ T2 (s1.trans ((SameX.of (same_new hL _)).trans s2))
    refine ⟨_, rfl, rfl, _, rfl, ?_⟩
    refine ifD (fun _ => ?_) (fun _ => ?_)
    · refine ⟨_, rfl, t, c, cs, 12, rfl, T1, by decide, by decide +kernel, fun e H2 e0 e1 T2 s2 => ⟨_, rfl, ?_⟩⟩
      exact q _ H2 ⟨_, by omega, by omega, rfl⟩ T2 (s1.trans s2)
    · refine ⟨_, rfl, t, c, cs, 6, rfl, T1, by decide, by decide +kernel, fun e H2 e0 e1 T2 s2 => ?_⟩
      exact q _ H2 ⟨_, by omega, by omega, rfl⟩ T2 (s1.trans s2))

theorem chars_len : (((" !\"#$&'()*+,-./0123456789:;<=>?@ABCDEFGHIJKLMNOPQRSTUVWXYZ[\\]^" : Str) ++ ("_`abcdefghijklmnopqrstuvwxyz{|}~" : Str)).cps.toList).length = 94 := by decide +kernel
theorem chars_ok : ∀ c ∈ ((" !\"#$&'()*+,-./0123456789:;<=>?@ABCDEFGHIJKLMNOPQRSTUVWXYZ[\\]^" : Str) ++ ("_`abcdefghijklmnopqrstuvwxyz{|}~" : Str)).cps.toList, chOk c := by decide +kernel
theorem few_len : ("ab -07" : Str).cps.toList.length = 6 := by decide +kernel
theorem few_ok : ∀ c ∈ ("ab -07" : Str).cps.toList, chOk c := by decide +kernel
theorem ok_law_char {f : Addr} {fd : FuncData} (k : Kn K mg "_law_char" s_law_char ["tape"] f fd) (z : Z mg)
    {g_law_take : Addr} {gd_law_take : FuncData} (c_law_take : Cal P w K mg base 1 "_law_take" ["tape", "many"] (spTake) g_law_take gd_law_take) :
    Cal P w K mg base 2 "_law_char" ["tape"] (spDraw isChar) f fd := k.cal (by
  refine k.F.ok sc_law_char (fun vs H Q E h => ?_) (fun cdv A outer s H vs Q E hr h => ?_)
  · obtain ⟨t, c, cs, rfl, _⟩ := h; rfl
  · obtain ⟨t, c, cs, rfl, T, q⟩ := h
    refine ⟨_, (pss_cons (ps_set (i := 1) sc_law_char.nd rfl (Or.inl rfl) pe_str)
        (pss_cons (ps_set (i := 1) sc_law_char.nd rfl (Or.inl rfl) (pe_op op_add_str (pv 1) pe_str))
        (pss_cons (ps_if (pt_cmpR op_eq (pe_call c_law_take.G (hr.mono (by decide)) (by rfl) c_law_take.m c_law_take.kp c_law_take.b .nil pass0 (pa_cons (pv 0) (pa_cons pe_int pa_nil))) pe_int (nomark _)) (pss_one (ps_ret (pe_ix ix_str (pv 1) (pe_call c_law_take.G (hr.mono (by decide)) (by rfl) c_law_take.m c_law_take.kp c_law_take.b .nil pass0 (pa_cons (pv 0) (pa_cons pe_int pa_nil))) (fun _ _ => rfl)))) pss_nil)
        (pss_one (ps_ret (pe_ix ix_str pe_str (pe_call c_law_take.G (hr.mono (by decide)) (by rfl) c_law_take.m c_law_take.kp c_law_take.b .nil pass0 (pa_cons (pv 0) (pa_cons pe_int pa_nil))) (fun _ _ => rfl))))))), ?_⟩
    refine ⟨_, rfl, _, _, rfl, rfl, (by decide +kernel), ?_⟩
    refine ⟨_, rfl, t, c, cs, 3, rfl, T, by decide, by decide +kernel, fun d H1 d0 d1 T1 s1 => ⟨rfl, _, rfl, ?_⟩⟩
    refine ite2 (fun _ => ?_) (fun _ => ?_)
    · refine ⟨_, rfl, _, rfl, t, c, cs, 94, rfl, T1, by decide, by decide +kernel, fun e H2 e0 e1 T2 s2 => ?_⟩
      obtain ⟨ch, h1, h2⟩ := at_in (xs := ((" !\"#$&'()*+,-./0123456789:;<=>?@ABCDEFGHIJKLMNOPQRSTUVWXYZ[\\]^" : Str) ++ ("_`abcdefghijklmnopqrstuvwxyz{|}~" : Str)).cps.toList) e0 (by rw [chars_len]; exact e1)
      exact ⟨_, _, _, rfl, rfl, (by decide +kernel), h1, q _ H2 ⟨ch, chars_ok _ h2, rfl⟩ T2 (s1.trans s2)⟩
    · refine ⟨_, rfl, t, c, cs, 6, rfl, T1, by decide, by decide +kernel, fun e H2 e0 e1 T2 s2 => ?_⟩
      obtain ⟨ch, h1, h2⟩ := at_in (xs := ("ab -07" : Str).cps.toList) e0 (by rw [few_len]; exact e1)
      exact ⟨_, _, _, rfl, rfl, (by decide +kernel), h1, q _ H2 ⟨ch, few_ok _ h2, rfl⟩ T2 (s1.trans s2)⟩)
theorem ok_law_text {f : Addr} {fd : FuncData} (k : Kn K mg "_law_text" s_law_text ["tape"] f fd) (z : Z mg)
    {g_law_take : Addr} {gd_law_take : FuncData} (c_law_take : Cal P w K mg base 1 "_law_take" ["tape", "many"] (spTake) g_law_take gd_law_take)
    {g_law_char : Addr} {gd_law_char : FuncData} (c_law_char : Cal P w K mg base 2 "_law_char" ["tape"] (spDraw isChar) g_law_char gd_law_char) :
    Cal P w K mg base 3 "_law_text" ["tape"] (spDraw (isText 30)) f fd := k.cal (by
  refine k.F.ok sc_law_text (fun vs H Q E h => ?_) (fun cdv A outer s H vs Q E hr h => ?_)
  · obtain ⟨t, c, cs, rfl, _⟩ := h; rfl
  · obtain ⟨t, c, cs, rfl, T, q⟩ := h
    have ht : ∃ o, H t = some o := by obtain ⟨_, _, _, _, e, _⟩ := T.dk; exact ⟨_, e⟩
    refine ⟨_, (pss_cons (ps_set (i := 1) sc_law_text.nd rfl (Or.inl rfl) (pe_call c_law_take.G (hr.mono (by decide)) (by rfl) c_law_take.m c_law_take.kp c_law_take.b .nil pass0 (pa_cons (pv 0) (pa_cons pe_int pa_nil))))
        (pss_cut (ps_if (pt_cmpR op_eq (pe_call c_law_take.G (hr.mono (by decide)) (by rfl) c_law_take.m c_law_take.kp c_law_take.b .nil pass0 (pa_cons (pv 0) (pa_cons pe_int pa_nil))) pe_int (nomark _)) (pss_one (ps_set (i := 1) sc_law_text.nd rfl (Or.inl rfl) (pe_op op_add pe_int (pe_call c_law_take.G (hr.mono (by decide)) (by rfl) c_law_take.m c_law_take.kp c_law_take.b .nil pass0 (pa_cons (pv 0) (pa_cons pe_int pa_nil)))))) pss_nil)
        (pss_one (ps_ret (pe_join pe_str (pe_lc (own := [("k", 2)]) (g := gName 2) (tt := tYes) (by rfl) sc_law_text.nd (pi_range1 (by rfl) z.range (pa_cons (pv 1) pa_nil)) (blkOk_by (own := [("k", 2)]) (N := ["tape", "size", "k"]) (sc := defScope s_law_text) (by decide +kernel)) (fun _ _ _ _ _ => pg_name (i := 2) sc_law_text.nd rfl (Or.inl rfl)) (fun _ _ _ _ _ => pts_nil) (fun _ _ _ _ _ => (pe_call c_law_char.G (hr.mono (by decide)) (by rfl) c_law_char.m c_law_char.kp c_law_char.b .nil pass0 (pa_cons (pv 0) pa_nil))))))))), ?_⟩
    refine ⟨_, rfl, t, c, cs, 6, rfl, T, by decide, by decide +kernel, fun d H1 d0 d1 T1 s1 => ?_⟩
    refine ⟨fun σ H' => ∃ n : Int, σ = [some (.ref t), some (.int n), none] ∧ 0 ≤ n ∧ n ≤ 30 ∧ TapeAt H' t c cs ∧ SameX t H H', ?_, ?_⟩
    · refine ⟨_, rfl, t, c, cs, 12, rfl, T1, by decide, by decide +kernel, fun e H2 e0 e1 T2 s2 => ⟨rfl, _, rfl, ?_⟩⟩
      refine ite2 (fun _ => ?_) (fun _ => ?_)
      · refine ⟨_, rfl, t, c, cs, 6, rfl, T2, by decide, by decide +kernel, fun g H3 g0 g1 T3 s3 => ⟨_, _, rfl, rfl, _, rfl, by omega, by omega, T3, s1.trans (s2.trans s3)⟩⟩
      · exact ⟨d, rfl, d0, by omega, T2, s1.trans s2⟩
    · rintro σ H2 ⟨n, rfl, n0, n1, T2, s2⟩
      refine ⟨⟨_, rfl⟩, _, rfl, n, rfl, by omega, by omega, fun D hD => lc_range (lo := 0) (n := n.toNat) (fun i H' => ∃ chs : List Nat, H' D = some (.lst ((chs.map one).map V.str)) ∧ chs.length = i ∧ (∀ x ∈ chs, chOk x) ∧ TapeAt H' t c cs ∧ SameX t H H' ∧ (∀ b o, H2 b = some o → b ≠ t → H' b = some o)) ?_ ?_ ?_⟩
      · exact ⟨[], upd_same, rfl, (by intro x hx; cases hx), T2.mono (same_new hD _), s2.trans (SameX.of (same_new hD _)), fun b o e _ => same_new hD _ b o e⟩
      · rintro i H3 hi ⟨chs, hc, hl, hn, T3, s3, s3'⟩
        have hDt : D ≠ t := by
          obtain ⟨_, _, _, _, e, _⟩ := T2.dk
          intro z; subst z; rw [hD] at e; cases e
        refine ⟨rfl, _, rfl, t, c, cs, rfl, T3, fun v H4 ⟨ch, hch, e⟩ T4 s4 => ?_⟩
        subst e
        refine ⟨_, s4 _ _ hc hDt, (by rw [List.length_map, List.length_map]; exact small1000 (by omega)), chs ++ [ch], ?_, by simp [hl], ?_, ?_, ?_, ?_⟩
        · rw [upd_same, List.map_append, List.map_append]; rfl
        · intro y hy
          rcases List.mem_append.mp hy with hy | hy
          · exact hn y hy
          · rw [List.mem_singleton.mp hy]; exact hch
        · obtain ⟨a, l, s, m, h1, h2, h3⟩ := T4.dk
          have hDc : c ≠ D := by
            intro z; subst z
            have h5 := T2.ls
            rw [hD] at h5; cases h5
          exact ⟨⟨a, l, s, m, by rw [upd_ne hDt.symm]; exact h1, h2, h3⟩, by rw [upd_ne hDc]; exact T4.ls, T4.nn⟩
        · intro b o e ne
          have hb : b ≠ D := by
            intro z; subst z
            have := s2 _ _ e ne
            rw [hD] at this; cases this
          rw [upd_ne hb]; exact s4 _ _ (s3 _ _ e ne) ne
        · intro b o e ne
          rw [upd_ne (ne_of_none e hD)]; exact s4 _ _ (s3' _ _ e ne) ne
      · rintro H3 ⟨chs, hc, hl, hn, T3, s3, _⟩
        have hsum : ((chs.map one).map (·.length)).sum + (chs.map one).length * ("" : Str).length ≤ 16777216 := by
          have e0 : ("" : Str).length = 0 := by decide +kernel
          rw [sum_ones, e0, Nat.mul_zero]; omega
        refine ⟨_, D, _, rfl, rfl, .inl (SqL.of hc), hsum, ?_⟩
        exact q _ H3 ⟨_, by rw [len_joined]; omega, by rw [tl_joined]; exact hn, rfl⟩ T3 s3)
theorem ok_law_spoilt {f : Addr} {fd : FuncData} (k : Kn K mg "_law_spoilt" s_law_spoilt ["tape"] f fd) (z : Z mg)
    {g_law_integer : Addr} {gd_law_integer : FuncData} (c_law_integer : Cal P w K mg base 2 "_law_integer" ["tape"] (spDraw (isInt (-999999999) 999999999)) g_law_integer gd_law_integer)
    {g_law_take : Addr} {gd_law_take : FuncData} (c_law_take : Cal P w K mg base 1 "_law_take" ["tape", "many"] (spTake) g_law_take gd_law_take) :
    Cal P w K mg base 3 "_law_spoilt" ["tape"] (spDraw (isText 30)) f fd := k.cal (by
  refine k.F.ok sc_law_spoilt (fun vs H Q E h => ?_) (fun cdv A outer s H vs Q E hr h => ?_)
  · obtain ⟨t, c, cs, rfl, _⟩ := h; rfl
  · obtain ⟨t, c, cs, rfl, T, q⟩ := h
    refine ⟨_, (pss_cons (ps_set (i := 1) sc_law_spoilt.nd rfl (Or.inl rfl) (pe_callTy call_str_int (by rfl) z.str (by decide +kernel) (pa_cons (pe_call c_law_integer.G (hr.mono (by decide)) (by rfl) c_law_integer.m c_law_integer.kp c_law_integer.b .nil pass0 (pa_cons (pv 0) pa_nil)) pa_nil)))
        (pss_cons (ps_set (i := 2) sc_law_spoilt.nd rfl (Or.inl rfl) (pe_call c_law_take.G (hr.mono (by decide)) (by rfl) c_law_take.m c_law_take.kp c_law_take.b .nil pass0 (pa_cons (pv 0) (pa_cons (pe_op op_add (pe_callB call_len_str (by rfl) z.len (by decide +kernel) (pa_cons (pv 1) pa_nil)) pe_int) pa_nil))))
        (pss_one (ps_ret (pe_op op_add_str (pe_op op_add_str (pe_slice sl_str (pv 1) po_none (po_some (pv 2))) (pe_ix ix_list (pe_lst (pa_cons pe_str (pa_cons pe_str (pa_cons pe_str (pa_cons pe_str (pa_cons pe_str (pa_cons pe_str (pa_cons pe_str pa_nil)))))))) (pe_call c_law_take.G (hr.mono (by decide)) (by rfl) c_law_take.m c_law_take.kp c_law_take.b .nil pass0 (pa_cons (pv 0) (pa_cons pe_int pa_nil))) (fun _ _ => rfl))) (pe_slice sl_str (pv 1) (po_some (pv 2)) po_none)))))), ?_⟩
    refine ⟨_, rfl, t, c, cs, rfl, T, fun v H1 hv T1 s1 => ?_⟩
    obtain ⟨i, i0, i1, rfl⟩ := hv
    obtain ⟨l1, l2⟩ := int_text i0 i1
    refine ⟨i, rfl, log_small i0 i1, ?_⟩
    generalize Str.ofString (toString i) = x at l1 l2
    refine ⟨_, rfl, _, rfl, x, rfl, Nat.le_of_lt (small1000 (by omega)), _, _, rfl, rfl, t, c, cs, _, rfl, T1, by omega, ?_, fun e H2 e0 e1 T2 s2 => ?_⟩
    · have b9 : (2 : Nat) ^ 9000 = 2 ^ 7 * 2 ^ 8993 := by rw [← Nat.pow_add]
      have b8 : 0 < (2 : Nat) ^ 8993 := Nat.pow_pos (by decide)
      rw [b9]
      have : ((x.length : Int) + 1).natAbs = x.length + 1 := by omega
      omega
    refine ⟨_, rfl, _, rfl, _, rfl, _, rfl, Nat.le_of_lt (small1000 (by omega)), ?_⟩
    refine ⟨(by show 7 ≤ sizeLine; decide), fun L hL => ?_⟩
    refine ⟨_, rfl, t, c, cs, 7, rfl, T2.mono (same_new hL _), by decide, by decide +kernel, fun g H4 g0 g1 T4 s4 => ?_⟩
    obtain ⟨v, h1, h2⟩ := at_in (xs := [V.str ("" : Str), V.str (" " : Str), V.str ("-" : Str), V.str ("+" : Str), V.str ("0" : Str), V.str ("a" : Str), V.str ("9" : Str)]) g0 (by simpa using g1)
    obtain ⟨y, rfl, hy, hyo⟩ : ∃ y : Str, v = V.str y ∧ y.length ≤ 1 ∧ ∀ c ∈ tl y, chOk c := by
      simp only [List.mem_cons, List.not_mem_nil, or_false] at h2
      rcases h2 with rfl | rfl | rfl | rfl | rfl | rfl | rfl
      · exact ⟨_, rfl, by decide +kernel, by decide +kernel⟩
      · exact ⟨_, rfl, by decide +kernel, by decide +kernel⟩
      · exact ⟨_, rfl, by decide +kernel, by decide +kernel⟩
      · exact ⟨_, rfl, by decide +kernel, by decide +kernel⟩
      · exact ⟨_, rfl, by decide +kernel, by decide +kernel⟩
      · exact ⟨_, rfl, by decide +kernel, by decide +kernel⟩
      · exact ⟨_, rfl, by decide +kernel, by decide +kernel⟩
    have m1 := cutS_length x none (some e)
    have m2 := cutS_length x (some e) none
    refine ⟨L, _, g, _, rfl, rfl, SqL.of (s4 _ _ upd_same (T2.fresh hL).1), h1, _, _, rfl, rfl, Nat.le_of_lt (small1000 (by omega)), ?_⟩
    refine ⟨_, rfl, _, rfl, _, rfl, _, rfl, Nat.le_of_lt (small1000 (by omega)), _, _, rfl, rfl, Nat.le_of_lt (small1000 (by rw [len_app]; omega)), ?_⟩
    refine q _ H4 ⟨_, by rw [len_app, len_app]; omega, fun ch hch => ?_, rfl⟩ T4 (s1.trans (s2.trans ((SameX.of (same_new hL _)).trans s4)))
    rw [tl_append, tl_append, List.mem_append, List.mem_append] at hch
    rcases hch with (hch | hch) | hch
    · exact digit_ok (l2 _ (cutS_sub _ hch))
    · exact hyo _ hch
    · exact digit_ok (l2 _ (cutS_sub _ hch)))
theorem ok_law_canonical {f : Addr} {fd : FuncData} (k : Kn K mg "_law_canonical" s_law_canonical ["text"] f fd) (z : Z mg) :
    Cal P w K mg base 1 "_law_canonical" ["text"] (spCanon) f fd := k.cal (by
  refine k.F.ok sc_law_canonical (fun vs H Q E h => ?_) (fun cdv A outer s H vs Q E hr h => ?_)
  · obtain ⟨z, rfl, _⟩ := h; rfl
  · obtain ⟨zz, rfl, ho, hl, q⟩ := h
    refine ⟨_, (pss_cons (ps_set (i := 1) sc_law_canonical.nd rfl (Or.inl rfl) (pv 0))
        (pss_cut (ps_if (pt_cmpR op_eq (pe_slice sl_str (pv 0) po_none (po_some pe_int)) pe_str (nomark _)) (pss_one (ps_set (i := 1) sc_law_canonical.nd rfl (Or.inl rfl) (pe_slice sl_str (pv 0) (po_some pe_int) po_none))) pss_nil)
        (pss_cons (ps_if (PW.pt (pw_or (pt_cmpR op_lt (pe_callB call_len_str (by rfl) z.len (by decide +kernel) (pa_cons (pv 1) pa_nil)) pe_int (nomark _)) (pw_or1 (pt_cmpR op_gt (pe_callB call_len_str (by rfl) z.len (by decide +kernel) (pa_cons (pv 1) pa_nil)) pe_int (nomark _))))) (pss_one (ps_ret pe_bl)) pss_nil)
        (pss_cons (ps_for PassesOwn.never rfl (pi_str (pv 1)) (pg_name (i := 2) sc_law_canonical.nd rfl (Or.inl rfl))
        (pss_one (ps_if (pt_cmpR op_notIn_sign (pv 2) pe_str rfl) (pss_one (ps_ret pe_bl)) pss_nil)))
        (pss_cons (ps_if (pt_cmpR op_eq (pe_ix ix_str (pv 1) pe_int (fun _ _ => rfl)) pe_str (nomark _)) (pss_one (ps_ret (pe_cmpR op_eq (pv 0) pe_str (nomark _)))) pss_nil)
        (pss_one (ps_ret pe_bl))))))), ?_⟩
    refine ⟨_, rfl, ?_⟩
    refine ⟨fun σ' H' => ∃ d : Str, σ' = [some (.str zz), some (.str d), none] ∧ H' = H ∧ tl d = dgL (tl zz), ?_, ?_⟩
    · refine ⟨_, rfl, _, rfl, zz, rfl, Nat.le_of_lt (small1000 hl), rfl, _, rfl, ?_⟩
      refine ifD (fun h1 => ?_) (fun h1 => ?_)
      · have h2 := (first_dash zz).mp (V.str.inj h1)
        refine ⟨_, rfl, _, rfl, zz, rfl, Nat.le_of_lt (small1000 hl), ?_⟩
        refine ⟨_, rfl, rfl, ?_⟩
        rw [tl_cut2]
        unfold dgL
        rw [if_pos h2, List.drop_one]
      · refine ⟨zz, rfl, rfl, ?_⟩
        unfold dgL
        rw [if_neg (fun z => h1 (congrArg V.str ((first_dash zz).mpr z)))]
    rintro σ' H' ⟨d, rfl, rfl, ed⟩
    have hod : ∀ c ∈ tl d, chOk c := by
      rw [ed]
      intro c hc
      unfold dgL at hc
      split at hc
      · exact ho c (List.mem_of_mem_tail hc)
      · exact ho c hc
    have ld2 : d.length = (dgL (tl zz)).length := by rw [len_tl, ed]
    have ld : d.length ≤ 1000 := by
      rw [ld2]
      unfold dgL
      split
      · rw [List.length_tail, ← len_tl]; omega
      · rw [← len_tl]; omega
    refine ⟨_, rfl, d, rfl, Nat.le_of_lt (small1000 ld), _, _, rfl, rfl, _, rfl, ?_⟩
    have neg : ∀ {p : Prop}, (canon (tl zz) → ¬ p) → p → Q (.bl false) H' := fun f hp => by
      rw [canB_F (fun c => f c hp)] at q
      exact q
    refine ifD (fun h1 => neg (p := (d.length : Int) < 1) (fun cc z => by have := List.length_pos_iff.mpr cc.1.1; omega) h1) (fun h1 => ?_)
    refine ⟨_, rfl, d, rfl, Nat.le_of_lt (small1000 ld), _, _, rfl, rfl, _, rfl, ?_⟩
    refine ifD (fun h2 => neg (p := (d.length : Int) > 9) (fun cc z => by have := cc.1.2.1; omega) h2) (fun h2 => ?_)
    refine ⟨_, rfl, d, rfl, for_it walk_str (fun i σ H2 => (∃ v, σ = [some (.str zz), some (.str d), v]) ∧ H2 = H' ∧ ∀ c ∈ (tl d).take i, 48 ≤ c ∧ c ≤ 57) ⟨⟨_, rfl⟩, rfl, (by intro c hc; cases hc)⟩ (fun _ _ _ _ _ => True.intro) ?_ ?_⟩
    · rintro i x σ H2 H3 hi ⟨⟨v, rfl⟩, rfl, hd⟩ ⟨rfl, ch, e2, rfl⟩
      have ec : (tl d)[i]? = some ch := by rw [← e2]; exact Array.getElem?_toList
      have hm : ch ∈ tl d := List.mem_of_getElem? ec
      refine ⟨_, rfl, ch, ("0123456789" : Str), rfl, rfl, _, rfl, ?_⟩
      refine ifN (fun h3 => ?_) (fun h3 => ?_)
      · refine neg (p := ¬ (48 ≤ ch ∧ ch ≤ 57)) (fun cc z => z (cc.1.2.2 ch (by rw [← ed]; exact hm))) (fun z => h3 ((digits_tl ch (by have := (hod ch hm).2.1; omega)).mpr z))
      · refine ⟨⟨_, rfl⟩, rfl, fun c hc => ?_⟩
        rw [List.take_add_one, ec] at hc
        rcases List.mem_append.mp hc with hc | hc
        · exact hd c hc
        · have : c = ch := by simpa using hc
          subst this
          exact (digits_tl c (by have := (hod c hm).2.1; omega)).mp h3
    · rintro σ H2 ⟨⟨v, rfl⟩, rfl, hd⟩
      have hall : (tl d).take d.cps.size = tl d := List.take_of_length_le (by simp [tl])
      rw [hall] at hd
      have hs : shape (tl zz) := ⟨by rw [← ed]; intro z; rw [len_tl, z] at h1; simp at h1, by omega, by rw [← ed]; exact hd⟩
      obtain ⟨a, r, ea⟩ : ∃ a r, tl d = a :: r := by
        cases e : tl d with
        | nil => exact absurd (ed ▸ e) hs.1
        | cons a r => exact ⟨a, r, rfl⟩
      have hat : atI (tl d) 0 = some a := at_ofN (j := 0) rfl (by rw [ea]; rfl)
      refine ⟨_, rfl, d, 0, a, rfl, rfl, Nat.le_of_lt (small1000 ld), hat, rfl, _, rfl, ?_⟩
      have z0 : ("0" : Str) = one 48 := by decide +kernel
      have eq0 : V.str (one a) = V.str ("0" : Str) ↔ a = 48 := by
        rw [z0]
        constructor
        · intro e
          have := congrArg tl (V.str.inj e)
          exact (List.cons.inj this).1
        · intro e; rw [e]
      have hh : (dgL (tl zz)).head? = some a := by rw [← ed, ea]; rfl
      refine ifD (fun h3 => ?_) (fun h3 => ?_)
      · have a48 := eq0.mp h3
        refine ⟨_, rfl, rfl, ?_⟩
        have e : decide (V.str zz = V.str ("0" : Str)) = canB (tl zz) := by
          by_cases h4 : zz = ("0" : Str)
          · rw [decide_eq_true (congrArg V.str h4)]
            refine (canB_T ⟨hs, fun _ => ?_⟩).symm
            rw [h4, z0]; rfl
          · rw [decide_eq_false (fun z => h4 (V.str.inj z))]
            refine (canB_F fun cc => h4 ?_).symm
            have := cc.2 (by rw [hh, a48])
            rw [z0]
            exact ext_tl this
        rw [e]
        exact q
      · rw [canB_T ⟨hs, fun z => by rw [hh] at z; exact absurd (eq0.mpr (Option.some.inj z)) h3⟩] at q
        exact q)

def step (t : Int) (c : Nat) : Int := if c = 45 then t else t * 10 + ((c : Int) - 48)
theorem step_fold : ∀ (l : List Nat) (a : Nat), NumText.AllDigits l → l.foldl step (a : Int) = ((l.foldl (fun acc c => acc * 10 + (c - 48)) a : Nat) : Int)
  | [], a, _ => rfl
  | c :: r, a, h => by
    have hc := h.head
    rw [List.foldl_cons, List.foldl_cons, ← step_fold r _ h.tail]
    have e : step (a : Int) c = ((a * 10 + (c - 48) : Nat) : Int) := by unfold step; rw [if_neg (by omega)]; omega
    rw [e]
theorem step_all {L : List Nat} (h : shape L) : L.foldl step 0 = ((NumText.digitsVal (dgL L) : Nat) : Int) := by
  by_cases hs : L.head? = some 45
  · have eL : L = 45 :: dgL L := by
      unfold dgL
      rw [if_pos hs]
      cases L with
      | nil => cases hs
      | cons a r => cases hs; rfl
    conv => lhs; rw [eL]
    rw [List.foldl_cons]
    exact step_fold (dgL L) 0 h.2.2
  · have eL : dgL L = L := by unfold dgL; rw [if_neg hs]
    have hd := h.2.2
    rw [eL] at hd ⊢
    exact step_fold L 0 hd
theorem sign_in {L : List Nat} (h : shape L) : ∀ c ∈ L, c = 45 ∨ (48 ≤ c ∧ c ≤ 57) := by
  intro c hc
  by_cases hs : L.head? = some 45
  · cases L with
    | nil => cases hs
    | cons a r =>
      cases hs
      rcases List.mem_cons.mp hc with e | hc
      · exact .inl e
      · exact .inr (h.2.2 c hc)
  · have eL : dgL L = L := by unfold dgL; rw [if_neg hs]
    have hd := h.2.2
    rw [eL] at hd
    exact .inr (hd c hc)
theorem dash_one : ("-" : Str) = one 45 := by decide +kernel
theorem ok_law_number {f : Addr} {fd : FuncData} (k : Kn K mg "_law_number" s_law_number ["text"] f fd) (z : Z mg) :
    Cal P w K mg base 1 "_law_number" ["text"] (spNumber) f fd := k.cal (by
  refine k.F.ok sc_law_number (fun vs H Q E h => ?_) (fun cdv A outer s H vs Q E hr h => ?_)
  · obtain ⟨z, rfl, _⟩ := h; rfl
  · obtain ⟨zz, rfl, hs, q⟩ := h
    refine ⟨_, (pss_cons (ps_set (i := 1) sc_law_number.nd rfl (Or.inl rfl) pe_int)
        (pss_cons (ps_for PassesOwn.never rfl (pi_str (pv 0)) (pg_name (i := 2) sc_law_number.nd rfl (Or.inl rfl))
        (pss_one (ps_if (pt_cmpR op_ne (pv 2) pe_str (nomark _)) (pss_one (ps_set (i := 1) sc_law_number.nd rfl (Or.inl rfl) (pe_op op_add (pe_op op_mul (pv 1) pe_int) (pe_bmS PySem.F.plainAttrs_str PySem.F.slot_str_index PySem.F.type_str_index (mt_indexX rfl takes_no) pe_str (pa_cons (pv 2) pa_nil))))) pss_nil)))
        (pss_cons (ps_if (pt_cmpR op_eq (pe_slice sl_str (pv 0) po_none (po_some pe_int)) pe_str (nomark _)) (pss_one (ps_ret (pe_un un_neg (pv 1)))) pss_nil)
        (pss_one (ps_ret (pv 1)))))), ?_⟩
    have l10 := len_shape hs
    refine ⟨_, rfl, zz, rfl, for_it walk_str (fun i σ H2 => (∃ v, σ = [some (.str zz), some (.int (((tl zz).take i).foldl step 0)), v]) ∧ H2 = H) ⟨⟨_, rfl⟩, rfl⟩ (fun _ _ _ _ _ => True.intro) ?_ ?_⟩
    · rintro i x σ H2 H3 hi ⟨⟨v, rfl⟩, rfl⟩ ⟨rfl, ch, e2, rfl⟩
      have ec : (tl zz)[i]? = some ch := by rw [← e2]; exact Array.getElem?_toList
      have hm : ch ∈ tl zz := List.mem_of_getElem? ec
      have et : ((tl zz).take (i + 1)).foldl step 0 = step (((tl zz).take i).foldl step 0) ch := by
        rw [List.take_add_one, ec, List.foldl_append]; rfl
      refine ⟨_, rfl, rfl, _, rfl, ?_⟩
      refine ifN (fun h1 => ?_) (fun h1 => ?_)
      · have n45 : ch ≠ 45 := fun z => h1 (by rw [z, dash_one]; rfl)
        have hd : 48 ≤ ch ∧ ch ≤ 57 := by
          rcases sign_in hs ch hm with z | z
          · exact absurd z n45
          · exact z
        refine ⟨_, rfl, _, _, rfl, rfl, .inr ⟨by decide, by decide⟩, rfl, _, rfl, ("0123456789" : Str), one ch, rfl, rfl, ?_, ?_⟩
        · intro k hk
          have e0 := digit_in (ch - 48) (by omega)
          rw [show 48 + (ch - 48) = ch by omega] at e0
          rw [e0] at hk
          cases hk
          refine ⟨_, _, rfl, rfl, ⟨some (.str (one ch)), ?_⟩, rfl⟩
          rw [et]
          unfold step
          rw [if_neg n45]
          have ez : ((ch - 48 : Nat) : Int) = (ch : Int) - 48 := by omega
          rw [ez]
          rfl
        · intro hk
          have e0 := digit_in (ch - 48) (by omega)
          rw [show 48 + (ch - 48) = ch by omega] at e0
          rw [e0] at hk
          cases hk
      · have e45 : ch = 45 := by
          rw [dash_one] at h1
          have := congrArg tl (V.str.inj h1)
          exact (List.cons.inj this).1
        refine ⟨⟨some (.str (one ch)), ?_⟩, rfl⟩
        rw [et]
        unfold step
        rw [if_pos e45]
        rfl
    · rintro σ H2 ⟨⟨v, rfl⟩, rfl⟩
      have hall : (tl zz).take zz.cps.size = tl zz := List.take_of_length_le (by simp [tl])
      rw [hall, step_all hs]
      refine ⟨_, rfl, _, rfl, zz, rfl, Nat.le_of_lt (small1000 (by omega)), rfl, _, rfl, ?_⟩
      refine ifD (fun h1 => ?_) (fun h1 => ?_)
      · have h2 := (first_dash zz).mp (V.str.inj h1)
        have e : numI (tl zz) = -((NumText.digitsVal (dgL (tl zz)) : Nat) : Int) := by unfold numI; rw [if_pos h2]
        rw [e] at q
        exact ⟨_, rfl, _, rfl, q⟩
      · have e : numI (tl zz) = ((NumText.digitsVal (dgL (tl zz)) : Nat) : Int) := by unfold numI; rw [if_neg (fun z => h1 (congrArg V.str ((first_dash zz).mpr z)))]
        rw [e] at q
        exact ⟨_, rfl, q⟩)
theorem ok_law_is_integer {f : Addr} {fd : FuncData} (k : Kn K mg "_law_is_integer" s_law_is_integer ["actual"] f fd) (z : Z mg) :
    Cal P w K mg base 1 "_law_is_integer" ["actual"] (spIsInt) f fd := k.cal (by
  refine k.F.ok sc_law_is_integer (fun vs H Q E h => ?_) (fun cdv A outer s H vs Q E hr h => ?_)
  · obtain ⟨x, rfl, _⟩ := h; rfl
  · obtain ⟨x, rfl, hx, q⟩ := h
    refine ⟨_, (pss_one (ps_ret (pe_and (pe_callB call_isi (by rfl) z.isinstance (by decide +kernel) (pa_cons (pv 0) (pa_cons (pe_bltn (v := .ty "int") (u := .type "int") (by rfl) z.int (by decide +kernel) rfl) pa_nil))) (pe_one (pe_not (pe_callB call_isi (by rfl) z.isinstance (by decide +kernel) (pa_cons (pv 0) (pa_cons (pe_bltn (v := .ty "bool") (u := .type "bool") (by rfl) z.bool (by decide +kernel) rfl) pa_nil)))))))), ?_⟩
    obtain ⟨t, hT, c⟩ := ty_scal (K := K) (H := H) hx
    rcases c with ⟨rfl, rfl⟩ | ⟨⟨b, rfl⟩, rfl⟩ | ⟨⟨i, rfl⟩, rfl⟩ | ⟨⟨y, rfl⟩, rfl⟩
    · exact ⟨_, rfl, _, _, _, _, false, rfl, .ty _, hT, kit_ty (by decide +kernel), ⟨_, rfl, q⟩⟩
    · exact ⟨_, rfl, _, _, _, _, true, rfl, .ty _, hT, kit_ty (by decide +kernel), ⟨_, rfl, ⟨_, rfl, _, _, _, _, true, rfl, .ty _, hT, kit_ty (by decide +kernel), ⟨_, rfl, q⟩⟩⟩⟩
    · exact ⟨_, rfl, _, _, _, _, true, rfl, .ty _, hT, kit_ty (by decide +kernel), ⟨_, rfl, ⟨_, rfl, _, _, _, _, false, rfl, .ty _, hT, kit_ty (by decide +kernel), ⟨_, rfl, q⟩⟩⟩⟩
    · exact ⟨_, rfl, _, _, _, _, false, rfl, .ty _, hT, kit_ty (by decide +kernel), ⟨_, rfl, q⟩⟩)

theorem no_same {f : Addr} {fd : FuncData} : FnOk P w K mg base CX0 0 f fd ["actual", "expected"] (spSame K 0) := by
  have no : ∀ vs H Q E, ¬ spSame K 0 vs H Q E := fun vs H Q E h => by
    obtain ⟨x, y, _, h1, _⟩ := h
    exact h1
  exact ⟨fun vs H Q E h => absurd h (no vs H Q E), fun A outer s H args us vs Q E _ _ _ _ h => absurd h (no vs H Q E)⟩
theorem ok_items {n : Nat} {f g : Addr} {fd gd : FuncData} (k : Kn K mg "_law_same_items" s_law_same_items ["actual", "expected"] f fd) (z : Z mg)
    (c_law_same : Cal P w K mg base (2 * n) "_law_same" ["actual", "expected"] (spSame K n) g gd) : Cal P w K mg base (2 * n + 1) "_law_same_items" ["actual", "expected"] (spItems K n) f fd := k.cal (by
  refine k.F.ok sc_law_same_items (fun vs H Q E h => ?_) (fun cdv A outer s H vs Q E hr h => ?_)
  · obtain ⟨a, b, xs, ys, rfl, _⟩ := h; rfl
  · obtain ⟨a, b, xs, ys, rfl, hk, hl, h1, hs, q⟩ := h
    have A1 : SqL K H a xs ∨ SqT K H a xs := by rcases hk with hk | hk; exact .inl (SqL.of hk.1); exact .inr (SqT.of hk.1)
    have B1 : SqL K H b ys ∨ SqT K H b ys := by rcases hk with hk | hk; exact .inl (SqL.of hk.2); exact .inr (SqT.of hk.2)
    refine ⟨_, (pss_cons (ps_if (pt_cmpR op_ne (pe_callB call_len_seq (by rfl) z.len (by decide +kernel) (pa_cons (pv 0) pa_nil)) (pe_callB call_len_seq (by rfl) z.len (by decide +kernel) (pa_cons (pv 1) pa_nil)) (nomark _)) (pss_one (ps_ret pe_bl)) pss_nil)
    (pss_cons (ps_for PassesOwn.never rfl (pi_range1 (by rfl) z.range (pa_cons (pe_callB call_len_seq (by rfl) z.len (by decide +kernel) (pa_cons (pv 1) pa_nil)) pa_nil)) (pg_name (i := 2) sc_law_same_items.nd rfl (Or.inl rfl))
    (pss_one (ps_if (pt_not (pt_val (pe_call c_law_same.G (hr.mono (by omega)) (by rfl) c_law_same.m c_law_same.kp c_law_same.b .nil pass0 (pa_cons (pe_ix ix_seq (pv 0) (pv 2) (fun _ _ => rfl)) (pa_cons (pe_ix ix_seq (pv 1) (pv 2) (fun _ _ => rfl)) pa_nil))))) (pss_one (ps_ret pe_bl)) pss_nil)))
    (pss_one (ps_ret pe_bl)))), ?_⟩
    refine ⟨_, rfl, a, _, rfl, A1, _, rfl, b, _, rfl, B1, rfl, _, rfl, ?_⟩
    refine iteNS (by rw [hl]) ?_
    refine ⟨_, rfl, b, _, rfl, B1, _, rfl, (by omega), (by omega), for_range (lo := 0) (n := ys.length) (fun i σ H2 => (∃ v, σ = [some (.ref a), some (.ref b), v]) ∧ H2 = H) ⟨⟨none, rfl⟩, rfl⟩ ?_ ?_⟩
    · rintro i σ H2 hi ⟨⟨v, rfl⟩, rfl⟩
      have hx : xs[i]? = some xs[i] := List.getElem?_eq_getElem (by omega)
      have hy : ys[i]? = some ys[i] := List.getElem?_eq_getElem hi
      refine ⟨_, rfl, _, rfl, ixq A1 (at_of (by omega) hx) ⟨_, rfl, _, rfl, ixq B1 (at_of (by omega) hy) ⟨_, _, rfl, hs i _ _ hx hy, ⟨_, rfl, ?_⟩⟩⟩⟩
      exact iteF ⟨⟨_, rfl⟩, rfl⟩
    · rintro σ H2 ⟨⟨v, rfl⟩, rfl⟩
      exact q)
theorem ok_same {n : Nat} {f g i : Addr} {fd gd ii : FuncData} (k : Kn K mg "_law_same" s_law_same ["actual", "expected"] f fd) (z : Z mg)
    (c_law_same : Cal P w K mg base (2 * n) "_law_same" ["actual", "expected"] (spSame K n) f fd)
    (c_law_is_integer : Cal P w K mg base 1 "_law_is_integer" ["actual"] spIsInt i ii)
    (c_law_same_items : Cal P w K mg base (2 * n + 1) "_law_same_items" ["actual", "expected"] (spItems K n) g gd) : Cal P w K mg base (2 * n + 2) "_law_same" ["actual", "expected"] (spSame K (n + 1)) f fd := k.cal (by
  refine k.F.ok sc_law_same (fun vs H Q E h => ?_) (fun cdv A outer s H vs Q E hr h => ?_)
  · obtain ⟨x, y, rfl, _⟩ := h; rfl
  · obtain ⟨x, y, rfl, hs, q⟩ := h
    refine ⟨_, (pss_cons (ps_if (pt_cmpR op_isN (pv 1) pe_non (nomark _)) (pss_one (ps_ret (pe_cmpR op_isN (pv 0) pe_non (nomark _)))) pss_nil)
    (pss_cons (ps_if (pt_val (pe_callB call_isi (by rfl) z.isinstance (by decide +kernel) (pa_cons (pv 1) (pa_cons (pe_bltn (v := .ty "bool") (u := .type "bool") (by rfl) z.bool (by decide +kernel) rfl) pa_nil)))) (pss_one (ps_ret (pe_and (pe_callB call_isi (by rfl) z.isinstance (by decide +kernel) (pa_cons (pv 0) (pa_cons (pe_bltn (v := .ty "bool") (u := .type "bool") (by rfl) z.bool (by decide +kernel) rfl) pa_nil))) (pe_one (pe_cmpR op_eq (pv 0) (pv 1) (nomark _)))))) pss_nil)
    (pss_cons (ps_if (pt_val (pe_callB call_isi (by rfl) z.isinstance (by decide +kernel) (pa_cons (pv 1) (pa_cons (pe_bltn (v := .ty "int") (u := .type "int") (by rfl) z.int (by decide +kernel) rfl) pa_nil)))) (pss_one (ps_ret (pe_and (pe_call c_law_is_integer.G (hr.mono (by omega)) (by rfl) c_law_is_integer.m c_law_is_integer.kp c_law_is_integer.b .nil pass0 (pa_cons (pv 0) pa_nil)) (pe_one (pe_cmpR op_eq (pv 0) (pv 1) (nomark _)))))) pss_nil)
    (pss_cons (ps_if (pt_val (pe_callB call_isi (by rfl) z.isinstance (by decide +kernel) (pa_cons (pv 1) (pa_cons (pe_bltn (v := .ty "str") (u := .type "str") (by rfl) z.str (by decide +kernel) rfl) pa_nil)))) (pss_one (ps_ret (pe_and (pe_callB call_isi (by rfl) z.isinstance (by decide +kernel) (pa_cons (pv 0) (pa_cons (pe_bltn (v := .ty "str") (u := .type "str") (by rfl) z.str (by decide +kernel) rfl) pa_nil))) (pe_one (pe_cmpR op_eq (pv 0) (pv 1) (nomark _)))))) pss_nil)
    (pss_cons (ps_if (pt_val (pe_callB call_isi (by rfl) z.isinstance (by decide +kernel) (pa_cons (pv 1) (pa_cons (pe_bltn (v := .ty "tuple") (u := .type "tuple") (by rfl) z.tuple (by decide +kernel) rfl) pa_nil)))) (pss_one (ps_ret (pe_and (pe_callB call_isi (by rfl) z.isinstance (by decide +kernel) (pa_cons (pv 0) (pa_cons (pe_bltn (v := .ty "tuple") (u := .type "tuple") (by rfl) z.tuple (by decide +kernel) rfl) pa_nil))) (pe_one (pe_call c_law_same_items.G (hr.mono (by omega)) (by rfl) c_law_same_items.m c_law_same_items.kp c_law_same_items.b .nil pass0 (pa_cons (pv 0) (pa_cons (pv 1) pa_nil))))))) pss_nil)
    (pss_cons (ps_if (pt_val (pe_callB call_isi (by rfl) z.isinstance (by decide +kernel) (pa_cons (pv 1) (pa_cons (pe_bltn (v := .ty "list") (u := .type "list") (by rfl) z.list (by decide +kernel) rfl) pa_nil)))) (pss_one (ps_ret (pe_and (pe_callB call_isi (by rfl) z.isinstance (by decide +kernel) (pa_cons (pv 0) (pa_cons (pe_bltn (v := .ty "list") (u := .type "list") (by rfl) z.list (by decide +kernel) rfl) pa_nil))) (pe_one (pe_call c_law_same_items.G (hr.mono (by omega)) (by rfl) c_law_same_items.m c_law_same_items.kp c_law_same_items.b .nil pass0 (pa_cons (pv 0) (pa_cons (pv 1) pa_nil))))))) pss_nil)
    (pss_cons (ps_if (PW.pt (pw_or (pt_not (pt_val (pe_callB call_isi (by rfl) z.isinstance (by decide +kernel) (pa_cons (pv 0) (pa_cons (pe_bltn (v := .ty "dict") (u := .type "dict") (by rfl) z.dict (by decide +kernel) rfl) pa_nil))))) (pw_or1 (pt_cmpR op_ne (pe_callB call_len_seq (by rfl) z.len (by decide +kernel) (pa_cons (pv 0) pa_nil)) (pe_callB call_len_seq (by rfl) z.len (by decide +kernel) (pa_cons (pv 1) pa_nil)) (nomark _))))) (pss_one (ps_ret pe_bl)) pss_nil)
    (pss_cons ps_never
    (pss_cons ps_never
    (pss_one (ps_ret pe_bl))))))))))), ?_⟩
    rcases hs with ⟨rfl, hx⟩ | ⟨a, b, xs, ys, rfl, rfl, ha, hb, hl, h1, he⟩ | ⟨a, b, xs, ys, rfl, rfl, ha, hb, hl, h1, he⟩
    · obtain ⟨t, hT, c⟩ := ty_scal (K := K) (H := H) hx
      rcases c with ⟨rfl, rfl⟩ | ⟨⟨b, rfl⟩, rfl⟩ | ⟨⟨i, rfl⟩, rfl⟩ | ⟨⟨y, rfl⟩, rfl⟩
      · exact ⟨_, rfl, rfl, _, rfl, iteDT rfl ⟨_, rfl, rfl, bl_T rfl q⟩⟩
      · refine ⟨_, rfl, rfl, _, rfl, iteDF (fun e => nomatch e) ⟨_, rfl, _, _, _, _, true, rfl, .ty _, hT, kit_ty (by decide +kernel), ⟨_, rfl, ?_⟩⟩⟩
        exact ⟨_, rfl, _, _, _, _, true, rfl, .ty _, hT, kit_ty (by decide +kernel), ⟨_, rfl, ⟨_, rfl, _, rfl, rfl, bl_T rfl q⟩⟩⟩
      · refine ⟨_, rfl, rfl, _, rfl, iteDF (fun e => nomatch e) ⟨_, rfl, _, _, _, _, false, rfl, .ty _, hT, kit_ty (by decide +kernel), ⟨_, rfl, ?_⟩⟩⟩
        refine ⟨_, rfl, _, _, _, _, true, rfl, .ty _, hT, kit_ty (by decide +kernel), ⟨_, rfl, ?_⟩⟩
        exact ⟨_, rfl, _, rfl, rfl, ⟨_, rfl, ⟨_, rfl, _, rfl, rfl, bl_T rfl q⟩⟩⟩
      · refine ⟨_, rfl, rfl, _, rfl, iteDF (fun e => nomatch e) ⟨_, rfl, _, _, _, _, false, rfl, .ty _, hT, kit_ty (by decide +kernel), ⟨_, rfl, ?_⟩⟩⟩
        refine ⟨_, rfl, _, _, _, _, false, rfl, .ty _, hT, kit_ty (by decide +kernel), ⟨_, rfl, ?_⟩⟩
        refine ⟨_, rfl, _, _, _, _, true, rfl, .ty _, hT, kit_ty (by decide +kernel), ⟨_, rfl, ?_⟩⟩
        exact ⟨_, rfl, _, _, _, _, true, rfl, .ty _, hT, kit_ty (by decide +kernel), ⟨_, rfl, ⟨_, rfl, _, rfl, rfl, bl_T rfl q⟩⟩⟩
    · have hA : TyX K H (.ref a) (.type "list") := .base (.lst ha)
      have hB : TyX K H (.ref b) (.type "list") := .base (.lst hb)
      refine ⟨_, rfl, rfl, _, rfl, iteDF (fun e => nomatch e) ⟨_, rfl, _, _, _, _, false, rfl, .ty _, hB, kit_ty (by decide +kernel), ⟨_, rfl, ?_⟩⟩⟩
      refine ⟨_, rfl, _, _, _, _, false, rfl, .ty _, hB, kit_ty (by decide +kernel), ⟨_, rfl, ?_⟩⟩
      refine ⟨_, rfl, _, _, _, _, false, rfl, .ty _, hB, kit_ty (by decide +kernel), ⟨_, rfl, ?_⟩⟩
      refine ⟨_, rfl, _, _, _, _, false, rfl, .ty _, hB, kit_ty (by decide +kernel), ⟨_, rfl, ?_⟩⟩
      refine ⟨_, rfl, _, _, _, _, true, rfl, .ty _, hB, kit_ty (by decide +kernel), ⟨_, rfl, ?_⟩⟩
      exact ⟨_, rfl, _, _, _, _, true, rfl, .ty _, hA, kit_ty (by decide +kernel), ⟨_, rfl, ⟨_, rfl, _, rfl, a, b, xs, ys, rfl, .inl ⟨ha, hb⟩, hl, h1, he, q⟩⟩⟩
    · have hA : TyX K H (.ref a) (.type "tuple") := .base (.tup ha)
      have hB : TyX K H (.ref b) (.type "tuple") := .base (.tup hb)
      refine ⟨_, rfl, rfl, _, rfl, iteDF (fun e => nomatch e) ⟨_, rfl, _, _, _, _, false, rfl, .ty _, hB, kit_ty (by decide +kernel), ⟨_, rfl, ?_⟩⟩⟩
      refine ⟨_, rfl, _, _, _, _, false, rfl, .ty _, hB, kit_ty (by decide +kernel), ⟨_, rfl, ?_⟩⟩
      refine ⟨_, rfl, _, _, _, _, false, rfl, .ty _, hB, kit_ty (by decide +kernel), ⟨_, rfl, ?_⟩⟩
      refine ⟨_, rfl, _, _, _, _, true, rfl, .ty _, hB, kit_ty (by decide +kernel), ⟨_, rfl, ?_⟩⟩
      exact ⟨_, rfl, _, _, _, _, true, rfl, .ty _, hA, kit_ty (by decide +kernel), ⟨_, rfl, ⟨_, rfl, _, rfl, a, b, xs, ys, rfl, .inr ⟨ha, hb⟩, hl, h1, he, q⟩⟩⟩)
theorem ok_law_same {f g i : Addr} {fd gd ii : FuncData} (k : Kn K mg "_law_same" s_law_same ["actual", "expected"] f fd) (kI : Kn K mg "_law_same_items" s_law_same_items ["actual", "expected"] g gd) (z : Z mg)
    (c_law_is_integer : Cal P w K mg base 1 "_law_is_integer" ["actual"] spIsInt i ii) : ∀ n : Nat, Cal P w K mg base (2 * n) "_law_same" ["actual", "expected"] (spSame K n) f fd
  | 0 => k.cal no_same
  | n + 1 => by
    have h := ok_law_same k kI z c_law_is_integer n
    exact ok_same k z h c_law_is_integer (ok_items kI z h)
theorem ok_kind_of {f : Addr} {fd : FuncData} (k : Kn K mg "kind_of" s_kind_of ["value"] f fd) (z : Z mg) :
    Cal P w K mg base 1 "kind_of" ["value"] (spKindOf) f fd := k.cal (by
  refine k.F.ok sc_kind_of (fun vs H Q E h => ?_) (fun cdv A outer s H vs Q E hr h => ?_)
  · obtain ⟨v, rfl, _⟩ := h; rfl
  · obtain ⟨v, rfl, hv, q⟩ := h
    refine ⟨_, (pss_cons (ps_if (pt_cmpR op_isN (pv 0) pe_non (nomark _)) (pss_one (ps_ret pe_str)) pss_nil)
        (pss_cons (ps_if (pt_val (pe_callB call_isi (by rfl) z.isinstance (by decide +kernel) (pa_cons (pv 0) (pa_cons (pe_bltn (v := .ty "int") (u := .type "int") (by rfl) z.int (by decide +kernel) rfl) pa_nil)))) (pss_one (ps_ret pe_str)) pss_nil)
        (pss_one (ps_ret pe_str)))), ?_⟩
    refine ⟨_, rfl, rfl, _, rfl, ?_⟩
    cases v with
    | non => exact iteDT rfl q
    | bl b => exact iteDF (fun e => nomatch e) ⟨_, rfl, _, _, _, _, true, rfl, .ty _, .base (.bl b), kit_ty (by decide +kernel), _, rfl, q⟩
    | int i => exact iteDF (fun e => nomatch e) ⟨_, rfl, _, _, _, _, true, rfl, .ty _, .base (.int i), kit_ty (by decide +kernel), _, rfl, q⟩
    | str y => exact iteDF (fun e => nomatch e) ⟨_, rfl, _, _, _, _, false, rfl, .ty _, .base (.str y), kit_ty (by decide +kernel), _, rfl, q⟩
    | byt _ => cases hv
    | flt _ => cases hv
    | ref _ => cases hv
    | ty _ => cases hv)
theorem ok_number_of {f : Addr} {fd : FuncData} (k : Kn K mg "number_of" s_number_of ["text"] f fd) (z : Z mg) :
    Cal P w K mg base 1 "number_of" ["text"] (spNumberOf) f fd := k.cal (by
  obtain ⟨t_MOST_DIGITS, k_MOST_DIGITS⟩ := z.c_MOST_DIGITS
  refine k.F.ok sc_number_of (fun vs H Q E h => ?_) (fun cdv A outer s H vs Q E hr h => ?_)
  · obtain ⟨z, rfl, _⟩ := h; rfl
  · obtain ⟨zz, rfl, ho, hl, q⟩ := h
    refine ⟨_, (pss_cons (ps_set (i := 1) sc_number_of.nd rfl (Or.inl rfl) (pe_bm PySem.F.plainAttrs_str PySem.F.slot_str_removeprefix PySem.F.type_str_removeprefix mt_removeprefix (pv 0) (pa_cons pe_str pa_nil)))
        (pss_cons (ps_if (PW.pt (pw_or (pt_not (pt_val (pe_bm0 PySem.F.plainAttrs_str PySem.F.slot_str_isdecimal PySem.F.type_str_isdecimal mt_isdecimal (pv 1)))) (pw_or1 (pt_cmpR op_gt (pe_callB call_len_str (by rfl) z.len (by decide +kernel) (pa_cons (pv 1) pa_nil)) (pe_glob (v := .int (9)) rfl k_MOST_DIGITS ⟨_, rfl⟩) (nomark _))))) (pss_one (ps_ret pe_non)) pss_nil)
        (pss_cons (ps_set (i := 2) sc_number_of.nd rfl (Or.inl rfl) (pe_callTy call_int_str (by rfl) z.int (by decide +kernel) (pa_cons (pv 0) pa_nil)))
        (pss_cons (ps_if (pt_cmpR op_ne (pe_callTy call_str_int (by rfl) z.str (by decide +kernel) (pa_cons (pv 2) pa_nil)) (pv 0) (nomark _)) (pss_one (ps_ret pe_non)) pss_nil)
        (pss_one (ps_ret (pv 2))))))), ?_⟩
    refine ⟨_, rfl, rfl, zz, ("-" : Str), rfl, rfl, Nat.le_of_lt (small1000 hl), ?_⟩
    have et := tl_remove zz
    generalize Txt.removeprefix zz ("-" : Str) = dd at et
    have hod : ∀ c ∈ tl dd, chOk c := by
      rw [et]
      intro c hc
      unfold dgL at hc
      split at hc
      · exact ho c (List.mem_of_mem_tail hc)
      · exact ho c hc
    have ld : dd.length ≤ 1000 := by
      rw [len_tl, et]
      unfold dgL
      split
      · rw [List.length_tail, ← len_tl]; omega
      · rw [← len_tl]; omega
    refine ⟨_, rfl, rfl, dd, rfl, rfl, True.intro, _, rfl, ?_⟩
    rw [isdec hod, et]
    by_cases h1 : dgL (tl zz) ≠ [] ∧ NumText.AllDigits (dgL (tl zz))
    · rw [decide_eq_true h1]
      refine ⟨_, rfl, dd, rfl, Nat.le_of_lt (small1000 ld), _, _, rfl, rfl, _, rfl, ?_⟩
      have ld2 : dd.length = (dgL (tl zz)).length := by rw [len_tl, et]
      refine ifD (fun h2 => ?_) (fun h2 => ?_)
      · rw [canV_F (fun z => by have := z.1.2.1; omega)] at q
        exact q
      · have hs : shape (tl zz) := ⟨h1.1, by omega, h1.2⟩
        obtain ⟨b1, b2⟩ := small_num hs
        have l10 := len_shape hs
        refine ⟨_, rfl, zz, _, rfl, int_of hs, by omega, ?_⟩
        refine ⟨_, rfl, _, rfl, log_small b1 b2, _, rfl, rfl, _, rfl, ?_⟩
        refine ifN (fun h3 => ?_) (fun h3 => ?_)
        · rw [canV_F (fun z => h3 (congrArg V.str (ext_tl ((canon_iff hs).mpr z))))] at q
          exact q
        · have e := congrArg tl (V.str.inj h3)
          rw [canV_T ((canon_iff hs).mp e)] at q
          exact ⟨_, rfl, q⟩
    · rw [decide_eq_false h1]
      rw [canV_F (fun z => h1 ⟨z.1.1, z.1.2.2⟩)] at q
      exact q)
theorem ok_convert {f : Addr} {fd : FuncData} (k : Kn K mg "convert" s_convert ["value", "kind"] f fd) (z : Z mg)
    {g_kind_of : Addr} {gd_kind_of : FuncData} (c_kind_of : Cal P w K mg base 1 "kind_of" ["value"] (spKindOf) g_kind_of gd_kind_of)
    {g_number_of : Addr} {gd_number_of : FuncData} (c_number_of : Cal P w K mg base 1 "number_of" ["text"] (spNumberOf) g_number_of gd_number_of) :
    Cal P w K mg base 2 "convert" ["value", "kind"] (spConvert) f fd := k.cal (by
  refine k.F.ok sc_convert (fun vs H Q E h => ?_) (fun cdv A outer s H vs Q E hr h => ?_)
  · obtain ⟨v, kk, rfl, _⟩ := h; rfl
  · obtain ⟨v, kk, rfl, hv, hk, q⟩ := h
    refine ⟨_, (pss_cons (ps_if (PW.pt (pw_or (pt_cmpR op_isN (pv 0) pe_non (nomark _)) (pw_or1 (pt_cmpR op_eq (pe_call c_kind_of.G (hr.mono (by decide)) (by rfl) c_kind_of.m c_kind_of.kp c_kind_of.b .nil pass0 (pa_cons (pv 0) pa_nil)) (pv 1) (nomark _))))) (pss_one (ps_ret (pv 0))) pss_nil)
        (pss_cons (ps_if (pt_cmpR op_eq (pv 1) pe_str (nomark _)) (pss_one (ps_ret (pe_callTy call_str_int (by rfl) z.str (by decide +kernel) (pa_cons (pv 0) pa_nil)))) pss_nil)
        (pss_one (ps_ret (pe_call c_number_of.G (hr.mono (by decide)) (by rfl) c_number_of.m c_number_of.kp c_number_of.b .nil pass0 (pa_cons (pv 0) pa_nil)))))), ?_⟩
    refine ⟨_, rfl, rfl, _, rfl, ?_⟩
    rcases hv with rfl | ⟨i, rfl, i0, i1⟩ | ⟨y, rfl, hy, ly⟩
    · exact iteDT rfl ⟨_, rfl, q⟩
    · refine iteDF (fun e => nomatch e) ⟨_, rfl, _, rfl, rfl, _, rfl, rfl, _, rfl, ?_⟩
      rcases hk with rfl | rfl
      · refine iteDT rfl ⟨_, rfl, ?_⟩
        have e : convM (.int i) ("int" : Str) = .int i := by unfold convM; exact if_pos rfl
        rw [e] at q
        exact q
      · refine iteDF (fun e => it (V.str.inj e)) ⟨_, rfl, rfl, _, rfl, ?_⟩
        refine iteDT rfl ⟨_, rfl, i, rfl, log_small i0 i1, ?_⟩
        have e : convM (.int i) ("text" : Str) = .str (Str.ofString (toString i)) := by unfold convM; exact if_neg ti
        rw [e] at q
        exact q
    · refine iteDF (fun e => nomatch e) ⟨_, rfl, _, rfl, rfl, _, rfl, rfl, _, rfl, ?_⟩
      rcases hk with rfl | rfl
      · refine iteDF (fun e => ti (V.str.inj e)) ⟨_, rfl, rfl, _, rfl, ?_⟩
        refine iteDF (fun e => it (V.str.inj e)) ⟨_, rfl, y, rfl, hy, ly, ?_⟩
        have e : convM (.str y) ("int" : Str) = canV (tl y) := by unfold convM; exact if_neg it
        rw [e] at q
        exact q
      · refine iteDT rfl ⟨_, rfl, ?_⟩
        have e : convM (.str y) ("text" : Str) = .str y := by unfold convM; exact if_pos rfl
        rw [e] at q
        exact q)
theorem ok_law {f : Addr} {fd : FuncData} (k : Kn K mg "law" s_law ["script"] f fd) (z : Z mg)
    {g_law_tape : Addr} {gd_law_tape : FuncData} (c_law_tape : Cal P w K mg base 1 "_law_tape" ["script"] (spTape K) g_law_tape gd_law_tape)
    {g_law_integer : Addr} {gd_law_integer : FuncData} (c_law_integer : Cal P w K mg base 2 "_law_integer" ["tape"] (spDraw (isInt (-999999999) 999999999)) g_law_integer gd_law_integer)
    {g_law_text : Addr} {gd_law_text : FuncData} (c_law_text : Cal P w K mg base 3 "_law_text" ["tape"] (spDraw (isText 30)) g_law_text gd_law_text)
    {g_law_take : Addr} {gd_law_take : FuncData} (c_law_take : Cal P w K mg base 1 "_law_take" ["tape", "many"] (spTake) g_law_take gd_law_take)
    {g_law_spoilt : Addr} {gd_law_spoilt : FuncData} (c_law_spoilt : Cal P w K mg base 3 "_law_spoilt" ["tape"] (spDraw (isText 30)) g_law_spoilt gd_law_spoilt)
    {g_law_canonical : Addr} {gd_law_canonical : FuncData} (c_law_canonical : Cal P w K mg base 1 "_law_canonical" ["text"] (spCanon) g_law_canonical gd_law_canonical)
    {g_law_number : Addr} {gd_law_number : FuncData} (c_law_number : Cal P w K mg base 1 "_law_number" ["text"] (spNumber) g_law_number gd_law_number)
    {g_law_same : Addr} {gd_law_same : FuncData} (c_law_same : Cal P w K mg base 12 "_law_same" ["actual", "expected"] (spSame K 6) g_law_same gd_law_same)
    {g_convert : Addr} {gd_convert : FuncData} (c_convert : Cal P w K mg base 2 "convert" ["value", "kind"] (spConvert) g_convert gd_convert) :
    Cal P w K mg base 13 "law" ["script"] (spLaw K) f fd := k.cal (by
  refine k.F.ok sc_law (fun vs H Q E h => ?_) (fun cdv A outer s H vs Q E hr h => ?_)
  · obtain ⟨a, ns, rfl, _⟩ := h; rfl
  · obtain ⟨a, ns, rfl, hS, h63, q⟩ := h
    refine ⟨_, (pss_cons (ps_set (i := 1) sc_law.nd rfl (Or.inl rfl) (pe_call c_law_tape.G (hr.mono (by decide)) (by rfl) c_law_tape.m c_law_tape.kp c_law_tape.b .nil pass0 (pa_cons (pv 0) pa_nil)))
        (pss_cons (ps_for PassesOwn.never rfl (pi_range1 (by rfl) z.range (pa_cons pe_int pa_nil)) (pg_name (i := 2) sc_law.nd rfl (Or.inl rfl))
        (pss_cons (ps_set (i := 3) sc_law.nd rfl (Or.inl rfl) (pe_call c_law_integer.G (hr.mono (by decide)) (by rfl) c_law_integer.m c_law_integer.kp c_law_integer.b .nil pass0 (pa_cons (pv 1) pa_nil)))
        (pss_cons (ps_set (i := 4) sc_law.nd rfl (Or.inl rfl) (pe_call c_law_text.G (hr.mono (by decide)) (by rfl) c_law_text.m c_law_text.kp c_law_text.b .nil pass0 (pa_cons (pv 1) pa_nil)))
        (pss_cut (ps_if (pt_cmpR op_eq (pe_call c_law_take.G (hr.mono (by decide)) (by rfl) c_law_take.m c_law_take.kp c_law_take.b .nil pass0 (pa_cons (pv 1) (pa_cons pe_int pa_nil))) pe_int (nomark _)) (pss_one (ps_set (i := 4) sc_law.nd rfl (Or.inl rfl) (pe_call c_law_spoilt.G (hr.mono (by decide)) (by rfl) c_law_spoilt.m c_law_spoilt.kp c_law_spoilt.b .nil pass0 (pa_cons (pv 1) pa_nil)))) pss_nil)
        (pss_cons (ps_set (i := 5) sc_law.nd rfl (Or.inl rfl) pe_non)
        (pss_cut (ps_if (pt_val (pe_call c_law_canonical.G (hr.mono (by decide)) (by rfl) c_law_canonical.m c_law_canonical.kp c_law_canonical.b .nil pass0 (pa_cons (pv 4) pa_nil))) (pss_one (ps_set (i := 5) sc_law.nd rfl (Or.inl rfl) (pe_call c_law_number.G (hr.mono (by decide)) (by rfl) c_law_number.m c_law_number.kp c_law_number.b .nil pass0 (pa_cons (pv 4) pa_nil)))) pss_nil)
        (pss_cons (ps_if (PW.pt (pw_or (pt_not (pt_val (pe_call c_law_same.G (hr.mono (by decide)) (by rfl) c_law_same.m c_law_same.kp c_law_same.b .nil pass0 (pa_cons (pe_call c_convert.G (hr.mono (by decide)) (by rfl) c_convert.m c_convert.kp c_convert.b .nil pass0 (pa_cons (pv 4) (pa_cons pe_str pa_nil))) (pa_cons (pv 5) pa_nil))))) (pw_or1 (pt_not (pt_val (pe_call c_law_same.G (hr.mono (by decide)) (by rfl) c_law_same.m c_law_same.kp c_law_same.b .nil pass0 (pa_cons (pe_call c_convert.G (hr.mono (by decide)) (by rfl) c_convert.m c_convert.kp c_convert.b .nil pass0 (pa_cons (pv 4) (pa_cons pe_str pa_nil))) (pa_cons (pv 4) pa_nil)))))))) (pss_one (ps_ret pe_bl)) pss_nil)
        (pss_cons (ps_set (i := 6) sc_law.nd rfl (Or.inl rfl) (pe_call c_convert.G (hr.mono (by decide)) (by rfl) c_convert.m c_convert.kp c_convert.b .nil pass0 (pa_cons (pv 3) (pa_cons pe_str pa_nil))))
        (pss_cons (ps_if (PW.pt (pw_or (pt_not (pt_val (pe_callB call_isi (by rfl) z.isinstance (by decide +kernel) (pa_cons (pv 6) (pa_cons (pe_bltn (v := .ty "str") (u := .type "str") (by rfl) z.str (by decide +kernel) rfl) pa_nil))))) (pw_or (pt_not (pt_val (pe_call c_law_canonical.G (hr.mono (by decide)) (by rfl) c_law_canonical.m c_law_canonical.kp c_law_canonical.b .nil pass0 (pa_cons (pv 6) pa_nil)))) (pw_or1 (pt_cmpR op_ne (pe_call c_law_number.G (hr.mono (by decide)) (by rfl) c_law_number.m c_law_number.kp c_law_number.b .nil pass0 (pa_cons (pv 6) pa_nil)) (pv 3) (nomark _)))))) (pss_one (ps_ret pe_bl)) pss_nil)
        (pss_one (ps_if (PW.pt (pw_or (pt_not (pt_val (pe_call c_law_same.G (hr.mono (by decide)) (by rfl) c_law_same.m c_law_same.kp c_law_same.b .nil pass0 (pa_cons (pe_call c_convert.G (hr.mono (by decide)) (by rfl) c_convert.m c_convert.kp c_convert.b .nil pass0 (pa_cons (pv 3) (pa_cons pe_str pa_nil))) (pa_cons (pv 3) pa_nil))))) (pw_or1 (pt_not (pt_val (pe_call c_law_same.G (hr.mono (by decide)) (by rfl) c_law_same.m c_law_same.kp c_law_same.b .nil pass0 (pa_cons (pe_call c_convert.G (hr.mono (by decide)) (by rfl) c_convert.m c_convert.kp c_convert.b .nil pass0 (pa_cons (pv 6) (pa_cons pe_str pa_nil))) (pa_cons (pv 3) pa_nil)))))))) (pss_one (ps_ret pe_bl)) pss_nil)))))))))))
        (pss_one (ps_ret (pe_and (pe_cmpR op_isN (pe_call c_convert.G (hr.mono (by decide)) (by rfl) c_convert.m c_convert.kp c_convert.b .nil pass0 (pa_cons pe_non (pa_cons pe_str pa_nil))) pe_non (nomark _)) (pe_one (pe_cmpR op_isN (pe_call c_convert.G (hr.mono (by decide)) (by rfl) c_convert.m c_convert.kp c_convert.b .nil pass0 (pa_cons pe_non (pa_cons pe_str pa_nil))) pe_non (nomark _)))))))), ?_⟩
    refine ⟨_, rfl, a, ns, rfl, hS, h63, fun t c cs H1 T1 s1 _ => ?_⟩
    refine ⟨4, rfl, by decide, by decide, for_range (lo := 0) (n := 4) (fun i σ H2 => (∃ v2 v3 v4 v5 v6, σ = [some (.ref a), some (.ref t), v2, v3, v4, v5, v6]) ∧ TapeAt H2 t c cs) ⟨⟨_, _, _, _, _, rfl⟩, T1⟩ ?_ ?_⟩
    · rintro i σ H2 hi ⟨⟨v2, v3, v4, v5, v6, rfl⟩, T2⟩
      refine ⟨_, rfl, t, c, cs, rfl, T2, fun v H3 hv T3 s3 => ?_⟩
      obtain ⟨n, n0, n1, rfl⟩ := hv
      refine ⟨_, rfl, t, c, cs, rfl, T3, fun v H4 hv T4 s4 => ?_⟩
      obtain ⟨x, hx, hxo, rfl⟩ := hv
      refine ⟨fun σ' H' => ∃ x : Str, σ' = [some (.ref a), some (.ref t), some (.int (0 + i)), some (.int n), some (.str x), v5, v6] ∧ x.length ≤ 30 ∧ (∀ c ∈ tl x, chOk c) ∧ TapeAt H' t c cs, ?_, ?_⟩
      · refine ⟨_, rfl, t, c, cs, 2, rfl, T4, by decide, by decide +kernel, fun d H5 d0 d1 T5 s5 => ⟨rfl, _, rfl, ?_⟩⟩
        refine ifD (fun _ => ?_) (fun _ => ⟨x, rfl, hx, hxo, T5⟩)
        refine ⟨_, rfl, t, c, cs, rfl, T5, fun v H6 hv T6 s6 => ?_⟩
        obtain ⟨y, hy, hyo, rfl⟩ := hv
        exact ⟨y, rfl, hy, hyo, T6⟩
      clear hx hxo x
      rintro σ' H5 ⟨x, rfl, hx, hxo, T5⟩
      have gx : Given (.str x) := .inr (.inr ⟨x, rfl, hxo, by omega⟩)
      have gn : Given (.int n) := .inr (.inl ⟨n, rfl, n0, n1⟩)
      obtain ⟨cw, ew⟩ := canon_text n0 n1
      obtain ⟨lw, dw⟩ := int_text n0 n1
      have okw : ∀ c ∈ tl (Str.ofString (toString n)), chOk c := fun c hc => digit_ok (dw c hc)
      have gw : Given (.str (Str.ofString (toString n))) := .inr (.inr ⟨_, rfl, okw, by omega⟩)
      have e1 : convM (.str x) ("int" : Str) = canV (tl x) := by unfold convM; exact if_neg it
      have e2 : convM (.str x) ("text" : Str) = .str x := by unfold convM; exact if_pos rfl
      have e3 : convM (.int n) ("text" : Str) = .str (Str.ofString (toString n)) := by unfold convM; exact if_neg ti
      have e4 : convM (.int n) ("int" : Str) = .int n := by unfold convM; exact if_pos rfl
      have e5 : convM (.str (Str.ofString (toString n))) ("int" : Str) = .int n := by
        have : convM (.str (Str.ofString (toString n))) ("int" : Str) = canV (tl (Str.ofString (toString n))) := by unfold convM; exact if_neg it
        rw [this, canV_T cw, ew]
      refine ⟨fun σ' H' => ∃ i' : Int, σ' = [some (.ref a), some (.ref t), some (.int (0 + i)), some (.int n), some (.str x), some (canV (tl x)), v6] ∧ H' = H5, ?_, ?_⟩
      · refine ⟨_, rfl, x, rfl, hxo, by omega, _, rfl, ?_⟩
        by_cases hc : canon (tl x)
        · rw [canB_T hc]
          refine ⟨_, rfl, x, rfl, hc.1, 0, ?_, rfl⟩
          rw [canV_T hc]
          rfl
        · rw [canB_F hc]
          refine ⟨0, ?_, rfl⟩
          rw [canV_F hc]
          rfl
      rintro σ' H' ⟨_, rfl, rfl⟩
      have hsc : isScal (canV (tl x)) = true := by
        by_cases hc : canon (tl x)
        · rw [canV_T hc]; rfl
        · rw [canV_F hc]; rfl
      refine ⟨_, rfl, _, _, rfl, gx, .inl rfl, ?_⟩
      rw [e1]
      refine ⟨_, rfl, _, _, rfl, SameV.sc hsc, _, rfl, ?_⟩
      refine ⟨_, rfl, _, _, rfl, gx, .inr rfl, ?_⟩
      rw [e2]
      refine ⟨_, rfl, _, _, rfl, SameV.sc rfl, _, rfl, ?_⟩
      refine ⟨_, rfl, _, _, rfl, gn, .inr rfl, ?_⟩
      rw [e3]
      refine ⟨_, rfl, _, _, _, _, true, rfl, .ty _, .base (.str _), kit_ty (by decide +kernel), _, rfl, ?_⟩
      refine ⟨_, rfl, _, rfl, okw, by omega, _, rfl, ?_⟩
      rw [canB_T cw]
      refine ⟨_, rfl, _, rfl, cw.1, _, rfl, rfl, _, rfl, ?_⟩
      rw [ew]
      refine iteNS rfl ?_
      refine ⟨_, rfl, _, _, rfl, gn, .inl rfl, ?_⟩
      rw [e4]
      refine ⟨_, rfl, _, _, rfl, SameV.sc rfl, _, rfl, ?_⟩
      refine ⟨_, rfl, _, _, rfl, gw, .inl rfl, ?_⟩
      rw [e5]
      exact ⟨_, rfl, _, _, rfl, SameV.sc rfl, _, rfl, ⟨_, _, _, _, _, rfl⟩, T5⟩
    · rintro σ H2 ⟨_, T2⟩
      refine ⟨_, _, rfl, .inl rfl, .inl rfl, rfl, _, rfl, ?_⟩
      exact ⟨_, _, rfl, .inl rfl, .inr rfl, rfl, q H2⟩)
end
end Lt
namespace Lt
open PySem L2 TL
open C8 (pss_cut)
theorem all_mk {l : PySem.W.OpenLaw} {w : World} {K : PySem.W.Frag} {h : Heap} {mg : Str → Option Value} {fa : Addr} (X : K.In h) (G : h.Ns mainGlobals mg) (hfa : mg "law" = some (.ref fa))
    {f_law_tape f_law_take f_law_integer f_law_char f_law_text f_law_spoilt f_law_canonical f_law_number f_law_is_integer f_law_same_items f_law_same f_kind_of f_number_of f_convert f_law : Addr} {od_law_tape an_law_tape od_law_take an_law_take od_law_integer an_law_integer od_law_char an_law_char od_law_text an_law_text od_law_spoilt an_law_spoilt od_law_canonical an_law_canonical od_law_number an_law_number od_law_is_integer an_law_is_integer od_law_same_items an_law_same_items od_law_same an_law_same od_kind_of an_kind_of od_number_of an_number_of od_convert an_convert od_law an_law : Option Addr} {sl_law_tape sl_law_take sl_law_integer sl_law_char sl_law_text sl_law_spoilt sl_law_canonical sl_law_number sl_law_is_integer sl_law_same_items sl_law_same sl_kind_of sl_number_of sl_convert sl_law : Array (Option Value)} {oc_law_tape kV_law_tape dc_law_tape pm_law_tape cd_law_tape ct_law_tape oc_law_take kV_law_take dc_law_take pm_law_take cd_law_take ct_law_take oc_law_integer kV_law_integer dc_law_integer pm_law_integer cd_law_integer ct_law_integer oc_law_char kV_law_char dc_law_char pm_law_char cd_law_char ct_law_char oc_law_text kV_law_text dc_law_text pm_law_text cd_law_text ct_law_text oc_law_spoilt kV_law_spoilt dc_law_spoilt pm_law_spoilt cd_law_spoilt ct_law_spoilt oc_law_canonical kV_law_canonical dc_law_canonical pm_law_canonical cd_law_canonical ct_law_canonical oc_law_number kV_law_number dc_law_number pm_law_number cd_law_number ct_law_number oc_law_is_integer kV_law_is_integer dc_law_is_integer pm_law_is_integer cd_law_is_integer ct_law_is_integer oc_law_same_items kV_law_same_items dc_law_same_items pm_law_same_items cd_law_same_items ct_law_same_items oc_law_same kV_law_same dc_law_same pm_law_same cd_law_same ct_law_same oc_kind_of kV_kind_of dc_kind_of pm_kind_of cd_kind_of ct_kind_of oc_number_of kV_number_of dc_number_of pm_number_of cd_number_of ct_number_of oc_convert kV_convert dc_convert pm_convert cd_convert ct_convert oc_law kV_law dc_law pm_law cd_law ct_law : Value}
    {t_MOST_DIGITS : Tok}
    (a_law_tape : PySem.W.nsIn K mainGlobals "_law_tape" = some (some (.ref f_law_tape)))
    (l_law_tape : K.lookup f_law_tape = some ⟨oc_law_tape, od_law_tape, .func (PySem.W.fnOf "_law_tape" "_law_tape" (defArgs s_law_tape) (defBody s_law_tape) (defScope s_law_tape) .none kV_law_tape dc_law_tape pm_law_tape an_law_tape cd_law_tape ct_law_tape), sl_law_tape⟩)
    (c_law_tape : PySem.W.codeIn K cd_law_tape "_law_tape" = true)
    (k_law_tape : PySem.W.keepIn K (.ref f_law_tape) = true)
    (a_law_take : PySem.W.nsIn K mainGlobals "_law_take" = some (some (.ref f_law_take)))
    (l_law_take : K.lookup f_law_take = some ⟨oc_law_take, od_law_take, .func (PySem.W.fnOf "_law_take" "_law_take" (defArgs s_law_take) (defBody s_law_take) (defScope s_law_take) .none kV_law_take dc_law_take pm_law_take an_law_take cd_law_take ct_law_take), sl_law_take⟩)
    (c_law_take : PySem.W.codeIn K cd_law_take "_law_take" = true)
    (k_law_take : PySem.W.keepIn K (.ref f_law_take) = true)
    (a_law_integer : PySem.W.nsIn K mainGlobals "_law_integer" = some (some (.ref f_law_integer)))
    (l_law_integer : K.lookup f_law_integer = some ⟨oc_law_integer, od_law_integer, .func (PySem.W.fnOf "_law_integer" "_law_integer" (defArgs s_law_integer) (defBody s_law_integer) (defScope s_law_integer) .none kV_law_integer dc_law_integer pm_law_integer an_law_integer cd_law_integer ct_law_integer), sl_law_integer⟩)
    (c_law_integer : PySem.W.codeIn K cd_law_integer "_law_integer" = true)
    (k_law_integer : PySem.W.keepIn K (.ref f_law_integer) = true)
    (a_law_char : PySem.W.nsIn K mainGlobals "_law_char" = some (some (.ref f_law_char)))
    (l_law_char : K.lookup f_law_char = some ⟨oc_law_char, od_law_char, .func (PySem.W.fnOf "_law_char" "_law_char" (defArgs s_law_char) (defBody s_law_char) (defScope s_law_char) .none kV_law_char dc_law_char pm_law_char an_law_char cd_law_char ct_law_char), sl_law_char⟩)
    (c_law_char : PySem.W.codeIn K cd_law_char "_law_char" = true)
    (k_law_char : PySem.W.keepIn K (.ref f_law_char) = true)
    (a_law_text : PySem.W.nsIn K mainGlobals "_law_text" = some (some (.ref f_law_text)))
    (l_law_text : K.lookup f_law_text = some ⟨oc_law_text, od_law_text, .func (PySem.W.fnOf "_law_text" "_law_text" (defArgs s_law_text) (defBody s_law_text) (defScope s_law_text) .none kV_law_text dc_law_text pm_law_text an_law_text cd_law_text ct_law_text), sl_law_text⟩)
    (c_law_text : PySem.W.codeIn K cd_law_text "_law_text" = true)
    (k_law_text : PySem.W.keepIn K (.ref f_law_text) = true)
    (a_law_spoilt : PySem.W.nsIn K mainGlobals "_law_spoilt" = some (some (.ref f_law_spoilt)))
    (l_law_spoilt : K.lookup f_law_spoilt = some ⟨oc_law_spoilt, od_law_spoilt, .func (PySem.W.fnOf "_law_spoilt" "_law_spoilt" (defArgs s_law_spoilt) (defBody s_law_spoilt) (defScope s_law_spoilt) .none kV_law_spoilt dc_law_spoilt pm_law_spoilt an_law_spoilt cd_law_spoilt ct_law_spoilt), sl_law_spoilt⟩)
    (c_law_spoilt : PySem.W.codeIn K cd_law_spoilt "_law_spoilt" = true)
    (k_law_spoilt : PySem.W.keepIn K (.ref f_law_spoilt) = true)
    (a_law_canonical : PySem.W.nsIn K mainGlobals "_law_canonical" = some (some (.ref f_law_canonical)))
    (l_law_canonical : K.lookup f_law_canonical = some ⟨oc_law_canonical, od_law_canonical, .func (PySem.W.fnOf "_law_canonical" "_law_canonical" (defArgs s_law_canonical) (defBody s_law_canonical) (defScope s_law_canonical) .none kV_law_canonical dc_law_canonical pm_law_canonical an_law_canonical cd_law_canonical ct_law_canonical), sl_law_canonical⟩)
    (c_law_canonical : PySem.W.codeIn K cd_law_canonical "_law_canonical" = true)
    (k_law_canonical : PySem.W.keepIn K (.ref f_law_canonical) = true)
    (a_law_number : PySem.W.nsIn K mainGlobals "_law_number" = some (some (.ref f_law_number)))
    (l_law_number : K.lookup f_law_number = some ⟨oc_law_number, od_law_number, .func (PySem.W.fnOf "_law_number" "_law_number" (defArgs s_law_number) (defBody s_law_number) (defScope s_law_number) .none kV_law_number dc_law_number pm_law_number an_law_number cd_law_number ct_law_number), sl_law_number⟩)
    (c_law_number : PySem.W.codeIn K cd_law_number "_law_number" = true)
    (k_law_number : PySem.W.keepIn K (.ref f_law_number) = true)
    (a_law_is_integer : PySem.W.nsIn K mainGlobals "_law_is_integer" = some (some (.ref f_law_is_integer)))
    (l_law_is_integer : K.lookup f_law_is_integer = some ⟨oc_law_is_integer, od_law_is_integer, .func (PySem.W.fnOf "_law_is_integer" "_law_is_integer" (defArgs s_law_is_integer) (defBody s_law_is_integer) (defScope s_law_is_integer) .none kV_law_is_integer dc_law_is_integer pm_law_is_integer an_law_is_integer cd_law_is_integer ct_law_is_integer), sl_law_is_integer⟩)
    (c_law_is_integer : PySem.W.codeIn K cd_law_is_integer "_law_is_integer" = true)
    (k_law_is_integer : PySem.W.keepIn K (.ref f_law_is_integer) = true)
    (a_law_same_items : PySem.W.nsIn K mainGlobals "_law_same_items" = some (some (.ref f_law_same_items)))
    (l_law_same_items : K.lookup f_law_same_items = some ⟨oc_law_same_items, od_law_same_items, .func (PySem.W.fnOf "_law_same_items" "_law_same_items" (defArgs s_law_same_items) (defBody s_law_same_items) (defScope s_law_same_items) .none kV_law_same_items dc_law_same_items pm_law_same_items an_law_same_items cd_law_same_items ct_law_same_items), sl_law_same_items⟩)
    (c_law_same_items : PySem.W.codeIn K cd_law_same_items "_law_same_items" = true)
    (k_law_same_items : PySem.W.keepIn K (.ref f_law_same_items) = true)
    (a_law_same : PySem.W.nsIn K mainGlobals "_law_same" = some (some (.ref f_law_same)))
    (l_law_same : K.lookup f_law_same = some ⟨oc_law_same, od_law_same, .func (PySem.W.fnOf "_law_same" "_law_same" (defArgs s_law_same) (defBody s_law_same) (defScope s_law_same) .none kV_law_same dc_law_same pm_law_same an_law_same cd_law_same ct_law_same), sl_law_same⟩)
    (c_law_same : PySem.W.codeIn K cd_law_same "_law_same" = true)
    (k_law_same : PySem.W.keepIn K (.ref f_law_same) = true)
    (a_kind_of : PySem.W.nsIn K mainGlobals "kind_of" = some (some (.ref f_kind_of)))
    (l_kind_of : K.lookup f_kind_of = some ⟨oc_kind_of, od_kind_of, .func (PySem.W.fnOf "kind_of" "kind_of" (defArgs s_kind_of) (defBody s_kind_of) (defScope s_kind_of) .none kV_kind_of dc_kind_of pm_kind_of an_kind_of cd_kind_of ct_kind_of), sl_kind_of⟩)
    (c_kind_of : PySem.W.codeIn K cd_kind_of "kind_of" = true)
    (k_kind_of : PySem.W.keepIn K (.ref f_kind_of) = true)
    (a_number_of : PySem.W.nsIn K mainGlobals "number_of" = some (some (.ref f_number_of)))
    (l_number_of : K.lookup f_number_of = some ⟨oc_number_of, od_number_of, .func (PySem.W.fnOf "number_of" "number_of" (defArgs s_number_of) (defBody s_number_of) (defScope s_number_of) .none kV_number_of dc_number_of pm_number_of an_number_of cd_number_of ct_number_of), sl_number_of⟩)
    (c_number_of : PySem.W.codeIn K cd_number_of "number_of" = true)
    (k_number_of : PySem.W.keepIn K (.ref f_number_of) = true)
    (a_convert : PySem.W.nsIn K mainGlobals "convert" = some (some (.ref f_convert)))
    (l_convert : K.lookup f_convert = some ⟨oc_convert, od_convert, .func (PySem.W.fnOf "convert" "convert" (defArgs s_convert) (defBody s_convert) (defScope s_convert) .none kV_convert dc_convert pm_convert an_convert cd_convert ct_convert), sl_convert⟩)
    (c_convert : PySem.W.codeIn K cd_convert "convert" = true)
    (k_convert : PySem.W.keepIn K (.ref f_convert) = true)
    (a_law : PySem.W.nsIn K mainGlobals "law" = some (some (.ref f_law)))
    (l_law : K.lookup f_law = some ⟨oc_law, od_law, .func (PySem.W.fnOf "law" "law" (defArgs s_law) (defBody s_law) (defScope s_law) .none kV_law dc_law pm_law an_law cd_law ct_law), sl_law⟩)
    (c_law : PySem.W.codeIn K cd_law "law" = true)
    (k_law : PySem.W.keepIn K (.ref f_law) = true)
    (z_abs : PySem.W.nsIn K mainGlobals "abs" = some none)
    (z_int : PySem.W.nsIn K mainGlobals "int" = some none)
    (z_len : PySem.W.nsIn K mainGlobals "len" = some none)
    (z_range : PySem.W.nsIn K mainGlobals "range" = some none)
    (z_str : PySem.W.nsIn K mainGlobals "str" = some none)
    (z_isinstance : PySem.W.nsIn K mainGlobals "isinstance" = some none)
    (z_bool : PySem.W.nsIn K mainGlobals "bool" = some none)
    (z_tuple : PySem.W.nsIn K mainGlobals "tuple" = some none)
    (z_list : PySem.W.nsIn K mainGlobals "list" = some none)
    (z_dict : PySem.W.nsIn K mainGlobals "dict" = some none)
    (g_MOST_DIGITS : PySem.W.nsIn K mainGlobals "MOST_DIGITS" = some (some (Value.int 9 t_MOST_DIGITS)))
    : ∃ fd : FuncData, (∀ (s : Shared) (v : Value), BindsTo s fd ⟨[v], []⟩ [("script", v)]) ∧ ∀ base : Heap, K.In base → base.Ns mainGlobals mg → FnOk l.prog w K mg base CX0 13 fa fd ["script"] (spLaw K) := by
  have e := hfa.symm.trans (PySem.W.mg_of X G a_law)
  cases e
  have F_law_tape := fun_mk (st := s_law_tape) l_law_tape c_law_tape k_law_tape
  have b_law_tape := F_law_tape.binds (ps := ["script"]) fun _ _ _ _ _ _ us hl => match us, hl with | [_], _ => rfl
  have n_law_tape : Kn K mg "_law_tape" s_law_tape ["script"] f_law_tape _ := ⟨F_law_tape, b_law_tape, PySem.W.mg_of X G a_law_tape⟩
  have F_law_take := fun_mk (st := s_law_take) l_law_take c_law_take k_law_take
  have b_law_take := F_law_take.binds (ps := ["tape", "many"]) fun _ _ _ _ _ _ us hl => match us, hl with | [_, _], _ => rfl
  have n_law_take : Kn K mg "_law_take" s_law_take ["tape", "many"] f_law_take _ := ⟨F_law_take, b_law_take, PySem.W.mg_of X G a_law_take⟩
  have F_law_integer := fun_mk (st := s_law_integer) l_law_integer c_law_integer k_law_integer
  have b_law_integer := F_law_integer.binds (ps := ["tape"]) fun _ _ _ _ _ _ us hl => match us, hl with | [_], _ => rfl
  have n_law_integer : Kn K mg "_law_integer" s_law_integer ["tape"] f_law_integer _ := ⟨F_law_integer, b_law_integer, PySem.W.mg_of X G a_law_integer⟩
  have F_law_char := fun_mk (st := s_law_char) l_law_char c_law_char k_law_char
  have b_law_char := F_law_char.binds (ps := ["tape"]) fun _ _ _ _ _ _ us hl => match us, hl with | [_], _ => rfl
  have n_law_char : Kn K mg "_law_char" s_law_char ["tape"] f_law_char _ := ⟨F_law_char, b_law_char, PySem.W.mg_of X G a_law_char⟩
  have F_law_text := fun_mk (st := s_law_text) l_law_text c_law_text k_law_text
  have b_law_text := F_law_text.binds (ps := ["tape"]) fun _ _ _ _ _ _ us hl => match us, hl with | [_], _ => rfl
  have n_law_text : Kn K mg "_law_text" s_law_text ["tape"] f_law_text _ := ⟨F_law_text, b_law_text, PySem.W.mg_of X G a_law_text⟩
  have F_law_spoilt := fun_mk (st := s_law_spoilt) l_law_spoilt c_law_spoilt k_law_spoilt
  have b_law_spoilt := F_law_spoilt.binds (ps := ["tape"]) fun _ _ _ _ _ _ us hl => match us, hl with | [_], _ => rfl
  have n_law_spoilt : Kn K mg "_law_spoilt" s_law_spoilt ["tape"] f_law_spoilt _ := ⟨F_law_spoilt, b_law_spoilt, PySem.W.mg_of X G a_law_spoilt⟩
  have F_law_canonical := fun_mk (st := s_law_canonical) l_law_canonical c_law_canonical k_law_canonical
  have b_law_canonical := F_law_canonical.binds (ps := ["text"]) fun _ _ _ _ _ _ us hl => match us, hl with | [_], _ => rfl
  have n_law_canonical : Kn K mg "_law_canonical" s_law_canonical ["text"] f_law_canonical _ := ⟨F_law_canonical, b_law_canonical, PySem.W.mg_of X G a_law_canonical⟩
  have F_law_number := fun_mk (st := s_law_number) l_law_number c_law_number k_law_number
  have b_law_number := F_law_number.binds (ps := ["text"]) fun _ _ _ _ _ _ us hl => match us, hl with | [_], _ => rfl
  have n_law_number : Kn K mg "_law_number" s_law_number ["text"] f_law_number _ := ⟨F_law_number, b_law_number, PySem.W.mg_of X G a_law_number⟩
  have F_law_is_integer := fun_mk (st := s_law_is_integer) l_law_is_integer c_law_is_integer k_law_is_integer
  have b_law_is_integer := F_law_is_integer.binds (ps := ["actual"]) fun _ _ _ _ _ _ us hl => match us, hl with | [_], _ => rfl
  have n_law_is_integer : Kn K mg "_law_is_integer" s_law_is_integer ["actual"] f_law_is_integer _ := ⟨F_law_is_integer, b_law_is_integer, PySem.W.mg_of X G a_law_is_integer⟩
  have F_law_same_items := fun_mk (st := s_law_same_items) l_law_same_items c_law_same_items k_law_same_items
  have b_law_same_items := F_law_same_items.binds (ps := ["actual", "expected"]) fun _ _ _ _ _ _ us hl => match us, hl with | [_, _], _ => rfl
  have n_law_same_items : Kn K mg "_law_same_items" s_law_same_items ["actual", "expected"] f_law_same_items _ := ⟨F_law_same_items, b_law_same_items, PySem.W.mg_of X G a_law_same_items⟩
  have F_law_same := fun_mk (st := s_law_same) l_law_same c_law_same k_law_same
  have b_law_same := F_law_same.binds (ps := ["actual", "expected"]) fun _ _ _ _ _ _ us hl => match us, hl with | [_, _], _ => rfl
  have n_law_same : Kn K mg "_law_same" s_law_same ["actual", "expected"] f_law_same _ := ⟨F_law_same, b_law_same, PySem.W.mg_of X G a_law_same⟩
  have F_kind_of := fun_mk (st := s_kind_of) l_kind_of c_kind_of k_kind_of
  have b_kind_of := F_kind_of.binds (ps := ["value"]) fun _ _ _ _ _ _ us hl => match us, hl with | [_], _ => rfl
  have n_kind_of : Kn K mg "kind_of" s_kind_of ["value"] f_kind_of _ := ⟨F_kind_of, b_kind_of, PySem.W.mg_of X G a_kind_of⟩
  have F_number_of := fun_mk (st := s_number_of) l_number_of c_number_of k_number_of
  have b_number_of := F_number_of.binds (ps := ["text"]) fun _ _ _ _ _ _ us hl => match us, hl with | [_], _ => rfl
  have n_number_of : Kn K mg "number_of" s_number_of ["text"] f_number_of _ := ⟨F_number_of, b_number_of, PySem.W.mg_of X G a_number_of⟩
  have F_convert := fun_mk (st := s_convert) l_convert c_convert k_convert
  have b_convert := F_convert.binds (ps := ["value", "kind"]) fun _ _ _ _ _ _ us hl => match us, hl with | [_, _], _ => rfl
  have n_convert : Kn K mg "convert" s_convert ["value", "kind"] f_convert _ := ⟨F_convert, b_convert, PySem.W.mg_of X G a_convert⟩
  have F_law := fun_mk (st := s_law) l_law c_law k_law
  have b_law := F_law.binds (ps := ["script"]) fun _ _ _ _ _ _ us hl => match us, hl with | [_], _ => rfl
  have n_law : Kn K mg "law" s_law ["script"] fa _ := ⟨F_law, b_law, PySem.W.mg_of X G a_law⟩
  have z : Z mg := ⟨PySem.W.mg_none_of X G z_abs, PySem.W.mg_none_of X G z_int, PySem.W.mg_none_of X G z_len, PySem.W.mg_none_of X G z_range, PySem.W.mg_none_of X G z_str, PySem.W.mg_none_of X G z_isinstance, PySem.W.mg_none_of X G z_bool, PySem.W.mg_none_of X G z_tuple, PySem.W.mg_none_of X G z_list, PySem.W.mg_none_of X G z_dict, ⟨_, PySem.W.mg_of X G g_MOST_DIGITS⟩⟩
  refine ⟨PySem.W.fnOf "law" "law" (defArgs s_law) (defBody s_law) (defScope s_law) .none kV_law dc_law pm_law an_law cd_law ct_law, fun s v => .of_eq rfl, fun base _ _ => ?_⟩
  have o_law_tape := ok_law_tape (P := l.prog) (w := w) (base := base) n_law_tape z 
  have o_law_take := ok_law_take (P := l.prog) (w := w) (base := base) n_law_take z 
  have o_law_integer := ok_law_integer (P := l.prog) (w := w) (base := base) n_law_integer z o_law_take
  have o_law_char := ok_law_char (P := l.prog) (w := w) (base := base) n_law_char z o_law_take
  have o_law_text := ok_law_text (P := l.prog) (w := w) (base := base) n_law_text z o_law_take o_law_char
  have o_law_spoilt := ok_law_spoilt (P := l.prog) (w := w) (base := base) n_law_spoilt z o_law_integer o_law_take
  have o_law_canonical := ok_law_canonical (P := l.prog) (w := w) (base := base) n_law_canonical z 
  have o_law_number := ok_law_number (P := l.prog) (w := w) (base := base) n_law_number z 
  have o_law_is_integer := ok_law_is_integer (P := l.prog) (w := w) (base := base) n_law_is_integer z 
  have _ := True.intro
  have o_law_same := ok_law_same (P := l.prog) (w := w) (base := base) n_law_same n_law_same_items z o_law_is_integer 6
  have o_kind_of := ok_kind_of (P := l.prog) (w := w) (base := base) n_kind_of z 
  have o_number_of := ok_number_of (P := l.prog) (w := w) (base := base) n_number_of z 
  have o_convert := ok_convert (P := l.prog) (w := w) (base := base) n_convert z o_kind_of o_number_of
  have o_law := ok_law (P := l.prog) (w := w) (base := base) n_law z o_law_tape o_law_integer o_law_text o_law_take o_law_spoilt o_law_canonical o_law_number o_law_same o_convert
  exact o_law.G
theorem walk {l : PySem.W.OpenLaw} {q : Program} {loose : List Str} {XP : (Str → Option Value) → Heap → Prop} {YP : World → Heap → Prop} {d : DefRec} {K : Params → PySem.W.Frag} (hn : l.most = some 63) (hdf : d.params.defaults = [])
    (hY : ∀ (w : World) (h : Heap), YP w h → (K w.params).In h)
    (F : ∀ (w : World) (mg : Str → Option Value) (fa : Addr) (h : Heap), (K w.params).In h → h.Ns mainGlobals mg → mg d.name = some (.ref fa) →
      ∃ fd : FuncData, (∀ (s : Shared) (u : Value), BindsTo s fd ⟨[u], []⟩ [("script", u)]) ∧ ∀ base : Heap, (K w.params).In base → base.Ns mainGlobals mg → FnOk l.prog w (K w.params) mg base CX0 13 fa fd ["script"] (spLaw (K w.params))) :
    PySem.W.WalkO q loose XP YP l.row.toRowW d [] (fun f vs => PySem.call f vs) :=
  L2.walk_of (n := 63) (k := 13) (x := "script") (CX := fun _ => CX0) (sp := fun w => spLaw (K w.params)) hn (by decide) hdf ⟨rfl, by decide, by decide⟩ hY F (fun _ _ a ns hl _ hS => ⟨a, ns, rfl, hS, hl, fun _ => rfl⟩) fun _ _ _ _ _ z => z
end Lt
open PySem PySem.W PyProof.Rows
set_option maxRecDepth 100000 in
set_option maxHeartbeats 0 in
theorem PySem.Challenge.cw_lenstree_k02_convert_values_holds : PySem.Challenge.rw_lenstree_k02_convert_values.Holds := by
  w_on; o_law; k_head; (case hw => w_witness2)
  k_fill
  refine Lt.walk (l := PySem.Challenge.rw_lenstree_k02_convert_values) rfl rfl (fun w h Y => PySem.W.kIn_of Y) ?F
  case F =>
    intro w mg fa h KX G hmg
    refine' Lt.all_mk KX G hmg ?a_law_tape ?l_law_tape ?c_law_tape ?k_law_tape ?a_law_take ?l_law_take ?c_law_take ?k_law_take ?a_law_integer ?l_law_integer ?c_law_integer ?k_law_integer ?a_law_char ?l_law_char ?c_law_char ?k_law_char ?a_law_text ?l_law_text ?c_law_text ?k_law_text ?a_law_spoilt ?l_law_spoilt ?c_law_spoilt ?k_law_spoilt ?a_law_canonical ?l_law_canonical ?c_law_canonical ?k_law_canonical ?a_law_number ?l_law_number ?c_law_number ?k_law_number ?a_law_is_integer ?l_law_is_integer ?c_law_is_integer ?k_law_is_integer ?a_law_same_items ?l_law_same_items ?c_law_same_items ?k_law_same_items ?a_law_same ?l_law_same ?c_law_same ?k_law_same ?a_kind_of ?l_kind_of ?c_kind_of ?k_kind_of ?a_number_of ?l_number_of ?c_number_of ?k_number_of ?a_convert ?l_convert ?c_convert ?k_convert ?a_law ?l_law ?c_law ?k_law ?z_abs ?z_int ?z_len ?z_range ?z_str ?z_isinstance ?z_bool ?z_tuple ?z_list ?z_dict ?g_MOST_DIGITS
    (case a_law_tape => k_is)
    (case l_law_tape => k_is)
    (case c_law_tape => k_is)
    (case k_law_tape => k_is)
    (case a_law_take => k_is)
    (case l_law_take => k_is)
    (case c_law_take => k_is)
    (case k_law_take => k_is)
    (case a_law_integer => k_is)
    (case l_law_integer => k_is)
    (case c_law_integer => k_is)
    (case k_law_integer => k_is)
    (case a_law_char => k_is)
    (case l_law_char => k_is)
    (case c_law_char => k_is)
    (case k_law_char => k_is)
    (case a_law_text => k_is)
    (case l_law_text => k_is)
    (case c_law_text => k_is)
    (case k_law_text => k_is)
    (case a_law_spoilt => k_is)
    (case l_law_spoilt => k_is)
    (case c_law_spoilt => k_is)
    (case k_law_spoilt => k_is)
    (case a_law_canonical => k_is)
    (case l_law_canonical => k_is)
    (case c_law_canonical => k_is)
    (case k_law_canonical => k_is)
    (case a_law_number => k_is)
    (case l_law_number => k_is)
    (case c_law_number => k_is)
    (case k_law_number => k_is)
    (case a_law_is_integer => k_is)
    (case l_law_is_integer => k_is)
    (case c_law_is_integer => k_is)
    (case k_law_is_integer => k_is)
    (case a_law_same_items => k_is)
    (case l_law_same_items => k_is)
    (case c_law_same_items => k_is)
    (case k_law_same_items => k_is)
    (case a_law_same => k_is)
    (case l_law_same => k_is)
    (case c_law_same => k_is)
    (case k_law_same => k_is)
    (case a_kind_of => k_is)
    (case l_kind_of => k_is)
    (case c_kind_of => k_is)
    (case k_kind_of => k_is)
    (case a_number_of => k_is)
    (case l_number_of => k_is)
    (case c_number_of => k_is)
    (case k_number_of => k_is)
    (case a_convert => k_is)
    (case l_convert => k_is)
    (case c_convert => k_is)
    (case k_convert => k_is)
    (case a_law => k_is)
    (case l_law => k_is)
    (case c_law => k_is)
    (case k_law => k_is)
    (case z_abs => k_is)
    (case z_int => k_is)
    (case z_len => k_is)
    (case z_range => k_is)
    (case z_str => k_is)
    (case z_isinstance => k_is)
    (case z_bool => k_is)
    (case z_tuple => k_is)
    (case z_list => k_is)
    (case z_dict => k_is)
    (case g_MOST_DIGITS => k_is)
#print axioms PySem.Challenge.cw_lenstree_k02_convert_values_holds
