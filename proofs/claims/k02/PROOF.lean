import PyProof.Rows.All
import Wide.All
import OpenK.AllK
import Wide.FinOn
import PyProof.ReprReads
import PyProof.Rows.StrIntSpec
import HandS.Base
import HandS.Call
import HandS.List
import HandS.Dict
import HandS.Ends
import HandS.Words
import HandS.WordsList
import HandS.WordsDict
import PyProof.ReprRoads
import HandS.IsInst
import HandS.Codes
import HandS.Style
import PySem.Challenge.RW_trothbase_k02_names
set_option Elab.async false
set_option maxRecDepth 100000
set_option maxHeartbeats 4000000
namespace Vk
open PySem
/-! # The text of a plain value tells the value: no two have one text -/
/-! ## integers -/
def intL (i : Int) : List Nat := (Str.ofString (toString i)).cps.toList
theorem ofString_codes (x : String) : (Str.ofString x).cps.toList = x.toList.map Char.toNat := by
  simp [Str.ofString_eq_toList]
theorem codes_inj : ∀ {a b : List Char}, a.map Char.toNat = b.map Char.toNat → a = b
  | [], [], _ => rfl
  | [], _ :: _, h => by cases h
  | _ :: _, [], h => by cases h
  | x :: a, y :: b, h => by
    injection h with h1 h2
    have e : x = y := Char.ext (UInt32.toNat_inj.mp h1)
    rw [e, codes_inj h2]
theorem intL_inj {i j : Int} (h : intL i = intL j) : i = j := by
  unfold intL at h
  rw [ofString_codes, ofString_codes] at h
  have e := codes_inj h
  have e2 : toString i = toString j := String.ext e
  exact Int.repr_inj.mp e2
theorem digits_are (m : Nat) : ∀ c ∈ (Nat.toDigits 10 m).map Char.toNat, 48 ≤ c ∧ c ≤ 57 := by
  intro c hc
  obtain ⟨d, hd, rfl⟩ := List.mem_map.mp hc
  have z := Nat.isDigit_of_mem_toDigits (b := 10) (by decide) (by decide) hd
  simp only [Char.isDigit, Bool.and_eq_true, decide_eq_true_eq, UInt32.le_iff_toNat_le] at z
  exact z
theorem intL_mem (i : Int) : ∀ c ∈ intL i, c = 45 ∨ (48 ≤ c ∧ c ≤ 57) := by
  intro c hc
  cases i with
  | ofNat m =>
    unfold intL at hc
    rw [PyProof.Rows.text_ofNat] at hc
    exact .inr (digits_are m c (by simpa using hc))
  | negSucc m =>
    have e : intL (Int.negSucc m) = 45 :: (Nat.toDigits 10 (m + 1)).map Char.toNat := by
      unfold intL
      rw [ofString_codes]
      show ("-" ++ Nat.repr (m + 1)).toList.map Char.toNat = _
      rw [String.toList_append, List.map_append]
      show [45] ++ (Nat.repr (m + 1)).toList.map Char.toNat = _
      have e2 : (Nat.repr (m + 1)).toList = Nat.toDigits 10 (m + 1) := by
        unfold Nat.repr
        exact String.toList_ofList
      rw [e2]
      rfl
    rw [e] at hc
    rcases List.mem_cons.mp hc with h | h
    · exact .inl h
    · exact .inr (digits_are _ c h)
theorem intL_ne (i : Int) : intL i ≠ [] := by
  intro h
  have e : toString i = "" := by
    unfold intL at h
    rw [ofString_codes] at h
    exact String.ext (List.map_eq_nil_iff.mp h)
  cases i with
  | ofNat m =>
    have len := Nat.length_toDigits_pos (b := 10) (n := m)
    have e2 : Nat.repr m = "" := e
    have e3 : (Nat.repr m).toList = Nat.toDigits 10 m := by
      unfold Nat.repr
      exact String.toList_ofList
    rw [e2] at e3
    rw [← e3] at len
    exact absurd len (by decide)
  | negSucc m =>
    have e2 : "-" ++ Nat.repr (m + 1) = "" := e
    have e3 := congrArg String.toList e2
    rw [String.toList_append] at e3
    cases e3
/-! ## texts -/
/-- signs from the space to ~ -/
def okS (x : Str) : Bool := x.cps.all fun c => decide (32 ≤ c) && decide (c ≤ 126)
theorem okS_mem {x : Str} (h : okS x = true) : ∀ c ∈ x.cps.toList, 32 ≤ c ∧ c ≤ 126 := by
  intro c hc
  unfold okS at h
  rw [Array.all_eq_true'] at h
  have z := h c (Array.mem_toList_iff.mp hc)
  simpa using z
theorem print_ascii : ∀ c : Nat, c < 127 → 32 ≤ c → Unicode.isPrintable c = true := by
  have z : (List.range 127).all (fun c => !decide (32 ≤ c) || Unicode.isPrintable c) = true := by decide +kernel
  intro c h1 h2
  have y := List.all_eq_true.mp z c (List.mem_range.mpr h1)
  simpa [h2] using y
theorem repr_ascii {q c : Nat} (h1 : 32 ≤ c) (h2 : c ≤ 126) : Builtin.Str.reprChar q c = if c = q ∨ c = 92 then [92, c] else [c] := by
  unfold Builtin.Str.reprChar
  by_cases h : c = q ∨ c = 92
  · rw [if_pos h]
    have e : (c == q || c == 92) = true := by
      rcases h with h | h <;> simp [h]
    simp only [e, if_true]
  · rw [if_neg h]
    have e : (c == q || c == 92) = false := by
      simp only [Bool.or_eq_false_iff, beq_eq_false_iff_ne]
      exact ⟨fun z => h (.inl z), fun z => h (.inr z)⟩
    have e1 : (c == 10) = false := beq_eq_false_iff_ne.mpr (by omega)
    have e2 : (c == 13) = false := beq_eq_false_iff_ne.mpr (by omega)
    have e3 : (c == 9) = false := beq_eq_false_iff_ne.mpr (by omega)
    simp [e, e1, e2, e3, print_ascii c (by omega) h1]
def body (q : Nat) : List Nat → List Nat
  | [] => []
  | c :: r => (if c = q ∨ c = 92 then [92, c] else [c]) ++ body q r
theorem body_inj (q : Nat) (hq : q ≠ 92) : ∀ (a b r1 r2 : List Nat), body q a ++ q :: r1 = body q b ++ q :: r2 → a = b ∧ r1 = r2
  | [], [], r1, r2, h => ⟨rfl, by injection h⟩
  | [], c :: b, r1, r2, h => by
    exfalso
    simp only [body] at h
    split at h
    · injection h with h1 _
      exact hq h1
    · rename_i n
      injection h with h1 _
      exact n (.inl h1.symm)
  | c :: a, [], r1, r2, h => by
    exfalso
    simp only [body] at h
    split at h
    · injection h with h1 _
      exact hq h1.symm
    · rename_i n
      injection h with h1 _
      exact n (.inl h1)
  | c :: a, d :: b, r1, r2, h => by
    simp only [body] at h
    split at h <;> split at h
    · simp only [List.cons_append, List.nil_append, List.append_assoc] at h
      injection h with _ h
      injection h with h1 h
      obtain ⟨e1, e2⟩ := body_inj q hq a b r1 r2 h
      exact ⟨by rw [h1, e1], e2⟩
    · rename_i n
      simp only [List.cons_append, List.nil_append] at h
      injection h with h1 _
      exact absurd (.inr h1.symm) n
    · rename_i n _
      simp only [List.cons_append, List.nil_append] at h
      injection h with h1 _
      exact absurd (.inr h1) n
    · simp only [List.cons_append, List.nil_append, List.append_assoc] at h
      injection h with h1 h
      obtain ⟨e1, e2⟩ := body_inj q hq a b r1 r2 h
      exact ⟨by rw [h1, e1], e2⟩
def strL (x : Str) : List Nat := (reprText x).cps.toList
theorem foldl_codes (q : Nat) : ∀ (l : List Nat) (acc : Array Nat), (∀ c ∈ l, 32 ≤ c ∧ c ≤ 126) → (l.foldl (fun out c => out ++ (Builtin.Str.reprChar q c).toArray) acc).toList = acc.toList ++ body q l
  | [], acc, _ => by simp [body]
  | c :: l, acc, h => by
    obtain ⟨h1, h2⟩ := h c List.mem_cons_self
    rw [List.foldl_cons, foldl_codes q l _ (fun d hd => h d (List.mem_cons_of_mem _ hd)), repr_ascii h1 h2]
    simp [body]
theorem quote_is (x : Str) : reprQuote x = 34 ∨ reprQuote x = 39 := by
  unfold reprQuote
  split
  · exact .inl rfl
  · exact .inr rfl
theorem strL_eq {x : Str} (h : okS x = true) : strL x = reprQuote x :: (body (reprQuote x) x.cps.toList ++ [reprQuote x]) := by
  unfold strL reprText
  rw [Array.toList_push, ← Array.foldl_toList, foldl_codes _ _ _ (okS_mem h)]
  simp
theorem strL_inj {x y : Str} (hx : okS x = true) (hy : okS y = true) {r1 r2 : List Nat} (h : strL x ++ r1 = strL y ++ r2) : x = y ∧ r1 = r2 := by
  rw [strL_eq hx, strL_eq hy] at h
  simp only [List.cons_append, List.append_assoc, List.nil_append] at h
  injection h with hq h
  rw [← hq] at h
  obtain ⟨e1, e2⟩ := body_inj (reprQuote x) (by rcases quote_is x with e | e <;> rw [e] <;> decide) _ _ _ _ h
  refine ⟨?_, e2⟩
  cases x
  cases y
  congr
  exact Array.toList_inj.mp e1
end Vk
namespace Vk
open PySem
/-! ## whole values -/
mutual
/-- plain, of signs that are written as they are, of integers that are not too long -/
def okD : PyData → Bool
  | .none => true
  | .bool _ => true
  | .int i => decide (i.natAbs.log2 < 1920)
  | .str x => okS x
  | .tuple xs => okDs xs
  | .list _ => false
  | .dict _ => false
def okDs : List PyData → Bool
  | [] => true
  | x :: xs => okD x && okDs xs
end
def joinL : List (List Nat) → List Nat
  | [] => []
  | [x] => x
  | x :: y :: r => x ++ (44 :: 32 :: joinL (y :: r))
def closeL (n : Nat) : List Nat := if n = 1 then [44, 41] else [41]
mutual
def encD : PyData → List Nat
  | .none => [78, 111, 110, 101]
  | .bool true => [84, 114, 117, 101]
  | .bool false => [70, 97, 108, 115, 101]
  | .int i => intL i
  | .str x => strL x
  | .tuple xs => 40 :: (joinL (encDs xs) ++ closeL xs.length)
  | .list _ => []
  | .dict _ => []
def encDs : List PyData → List (List Nat)
  | [] => []
  | x :: xs => encD x :: encDs xs
end
theorem app_codes (a b : Str) : (a ++ b).cps.toList = a.cps.toList ++ b.cps.toList := by
  show (a.cps ++ b.cps).toList = _
  simp
theorem join_codes (f : PyData → List Nat) : ∀ ts : List Str, (Str.join ", " ts).cps.toList = joinL (ts.map fun t => t.cps.toList)
  | [] => rfl
  | [x] => rfl
  | x :: y :: r => by
    have ih := join_codes f (y :: r)
    show (x ++ ", " ++ Str.join ", " (y :: r)).cps.toList = _
    rw [app_codes, app_codes, ih, ofString_codes]
    simp [joinL]
theorem encDs_len : ∀ xs : List PyData, (encDs xs).length = xs.length
  | [] => rfl
  | x :: xs => by simp [encDs, encDs_len xs]
theorem shownAll_len : ∀ xs : List PyData, (PyData.shownAll xs).length = xs.length
  | [] => rfl
  | x :: xs => by simp [PyData.shownAll, shownAll_len xs]
mutual
theorem shown_codes : ∀ d : PyData, okD d = true → (PyData.shown d).cps.toList = encD d
  | .none, _ => by rw [PyData.shown, encD]; decide +kernel
  | .bool true, _ => by rw [PyData.shown, encD]; decide +kernel
  | .bool false, _ => by rw [PyData.shown, encD]; decide +kernel
  | .int i, _ => by rw [PyData.shown, encD]; rfl
  | .str x, _ => by rw [PyData.shown, encD]; rfl
  | .tuple xs, h => by
    have h' : okDs xs = true := by simpa [okD] using h
    rw [PyData.shown, encD]
    unfold tupleText
    rw [app_codes, app_codes, join_codes encD, shown_codesAll xs h', shownAll_len]
    by_cases e : xs.length = 1
    · simp only [e, closeL, if_true, beq_self_eq_true]
      rw [ofString_codes, ofString_codes]
      simp
    · have e2 : (xs.length == 1) = false := beq_eq_false_iff_ne.mpr e
      simp only [e, e2, closeL, if_false, Bool.false_eq_true]
      rw [ofString_codes, ofString_codes]
      simp
  | .list _, h => by simp [okD] at h
  | .dict _, h => by simp [okD] at h
theorem shown_codesAll : ∀ xs : List PyData, okDs xs = true → (PyData.shownAll xs).map (fun t => t.cps.toList) = encDs xs
  | [], _ => rfl
  | x :: xs, h => by
    have h' : okD x = true ∧ okDs xs = true := by simpa [okDs] using h
    simp only [PyData.shownAll, List.map_cons, encDs, shown_codes x h'.1, shown_codesAll xs h'.2]
end
/-- the kind of a value, by its first sign -/
def kindOf (c : Nat) : Nat := if c = 78 then 0 else if c = 84 ∨ c = 70 then 1 else if c = 34 ∨ c = 39 then 3 else if c = 40 then 4 else 2
def kindD : PyData → Nat
  | .none => 0
  | .bool _ => 1
  | .int _ => 2
  | .str _ => 3
  | .tuple _ => 4
  | .list _ => 5
  | .dict _ => 5
theorem first_sign : ∀ d : PyData, okD d = true → ∃ c t, encD d = c :: t ∧ kindOf c = kindD d ∧ c ≠ 41 ∧ c ≠ 44
  | .none, _ => ⟨78, [111, 110, 101], rfl, rfl, by decide, by decide⟩
  | .bool true, _ => ⟨84, _, rfl, rfl, by decide, by decide⟩
  | .bool false, _ => ⟨70, _, rfl, rfl, by decide, by decide⟩
  | .int i, _ => by
    have m := intL_mem i
    cases e : intL i with
    | nil => exact absurd e (intL_ne i)
    | cons c t =>
      have z := m c (by rw [e]; exact List.mem_cons_self)
      refine ⟨c, t, by rw [encD]; exact e, ?_, by omega, by omega⟩
      show kindOf c = 2
      unfold kindOf
      rw [if_neg (by omega), if_neg (by omega), if_neg (by omega), if_neg (by omega)]
  | .str x, h => by
    have e := strL_eq (x := x) h
    refine ⟨reprQuote x, _, by rw [encD]; exact e, ?_, ?_, ?_⟩
    · rcases quote_is x with z | z <;> rw [z] <;> rfl
    · rcases quote_is x with z | z <;> rw [z] <;> decide
    · rcases quote_is x with z | z <;> rw [z] <;> decide
  | .tuple xs, _ => ⟨40, _, by rw [encD], rfl, by decide, by decide⟩
  | .list _, h => by simp [okD] at h
  | .dict _, h => by simp [okD] at h
def Stop (r : List Nat) : Prop := r = [] ∨ ∃ c t, r = c :: t ∧ (c = 41 ∨ c = 44)
/-- two rows of signs, each behind it a stop: cut at the first stop -/
theorem cut_stop : ∀ (a b r1 r2 : List Nat), (∀ c ∈ a, c ≠ 41 ∧ c ≠ 44) → (∀ c ∈ b, c ≠ 41 ∧ c ≠ 44) → Stop r1 → Stop r2 → a ++ r1 = b ++ r2 → a = b ∧ r1 = r2
  | [], [], _, _, _, _, _, _, h => ⟨rfl, h⟩
  | [], d :: b, r1, r2, _, hb, s1, _, h => by
    exfalso
    have z := hb d List.mem_cons_self
    rcases s1 with rfl | ⟨c, t, rfl, hc⟩
    · cases h
    · injection h with h1 _
      omega
  | c :: a, [], r1, r2, ha, _, _, s2, h => by
    exfalso
    have z := ha c List.mem_cons_self
    rcases s2 with rfl | ⟨d, t, rfl, hc⟩
    · cases h
    · injection h with h1 _
      omega
  | c :: a, d :: b, r1, r2, ha, hb, s1, s2, h => by
    injection h with h1 h
    obtain ⟨e1, e2⟩ := cut_stop a b r1 r2 (fun x hx => ha x (List.mem_cons_of_mem _ hx)) (fun x hx => hb x (List.mem_cons_of_mem _ hx)) s1 s2 h
    exact ⟨by rw [h1, e1], e2⟩
theorem close_stop (n : Nat) (r : List Nat) : Stop (closeL n ++ r) := by
  unfold closeL
  split
  · exact .inr ⟨44, _, rfl, .inr rfl⟩
  · exact .inr ⟨41, _, rfl, .inl rfl⟩
theorem kind_same {d e : PyData} (hd : okD d = true) (he : okD e = true) {r1 r2 : List Nat} (h : encD d ++ r1 = encD e ++ r2) : kindD d = kindD e := by
  obtain ⟨c, t, e1, k1, _⟩ := first_sign d hd
  obtain ⟨c', t', e2, k2, _⟩ := first_sign e he
  rw [e1, e2] at h
  injection h with h1 _
  rw [← k1, ← k2, h1]
mutual
theorem enc_inj : ∀ (d e : PyData) (r1 r2 : List Nat), okD d = true → okD e = true → Stop r1 → Stop r2 → encD d ++ r1 = encD e ++ r2 → d = e ∧ r1 = r2
  | .none, e, r1, r2, hd, he, s1, s2, h => by
    have k := kind_same hd he h
    cases e with
    | none => exact ⟨rfl, List.append_cancel_left h⟩
    | _ => simp [kindD] at k
  | .bool b, e, r1, r2, hd, he, s1, s2, h => by
    have k := kind_same hd he h
    cases e with
    | bool b' =>
      cases b <;> cases b'
      · exact ⟨rfl, List.append_cancel_left h⟩
      · simp [encD] at h
      · simp [encD] at h
      · exact ⟨rfl, List.append_cancel_left h⟩
    | _ => simp [kindD] at k
  | .int i, e, r1, r2, hd, he, s1, s2, h => by
    have k := kind_same hd he h
    cases e with
    | int j =>
      rw [encD, encD] at h
      obtain ⟨e1, e2⟩ := cut_stop _ _ _ _ (fun c hc => by have z := intL_mem i c hc; omega) (fun c hc => by have z := intL_mem j c hc; omega) s1 s2 h
      exact ⟨by rw [intL_inj e1], e2⟩
    | _ => simp [kindD] at k
  | .str x, e, r1, r2, hd, he, s1, s2, h => by
    have k := kind_same hd he h
    cases e with
    | str y =>
      rw [encD, encD] at h
      obtain ⟨e1, e2⟩ := strL_inj (x := x) (y := y) (by simpa [okD] using hd) (by simpa [okD] using he) h
      exact ⟨by rw [e1], e2⟩
    | _ => simp [kindD] at k
  | .tuple xs, e, r1, r2, hd, he, s1, s2, h => by
    have k := kind_same hd he h
    cases e with
    | tuple ys =>
      rw [encD, encD] at h
      simp only [List.cons_append, List.append_assoc] at h
      injection h with _ h
      have hx : okDs xs = true := by simpa [okD] using hd
      have hy : okDs ys = true := by simpa [okD] using he
      cases xs with
      | nil =>
        cases ys with
        | nil => exact ⟨rfl, List.append_cancel_left h⟩
        | cons y ys =>
          exfalso
          have hy' : okD y = true := by simp [okDs] at hy; exact hy.1
          obtain ⟨c, t, e1, _, n1, n2⟩ := first_sign y hy'
          have e2 : ∃ t', joinL (encDs (y :: ys)) = c :: t' := by
            cases ys with
            | nil => exact ⟨t, e1⟩
            | cons z zs => exact ⟨_, by simp only [encDs, joinL, e1]; rfl⟩
          obtain ⟨t', e2⟩ := e2
          rw [e2] at h
          injection h with h1 _
          exact n1 h1.symm
      | cons x xs =>
        cases ys with
        | nil =>
          exfalso
          have hx' : okD x = true := by simp [okDs] at hx; exact hx.1
          obtain ⟨c, t, e1, _, n1, n2⟩ := first_sign x hx'
          have e2 : ∃ t', joinL (encDs (x :: xs)) = c :: t' := by
            cases xs with
            | nil => exact ⟨t, e1⟩
            | cons z zs => exact ⟨_, by simp only [encDs, joinL, e1]; rfl⟩
          obtain ⟨t', e2⟩ := e2
          rw [e2] at h
          injection h with h1 _
          exact n1 h1
        | cons y ys =>
          obtain ⟨e1, e2⟩ := enc_injs (x :: xs) y ys _ _ r1 r2 hx hy h
          exact ⟨by rw [e1], e2⟩
    | _ => simp [kindD] at k
  | .list _, _, _, _, h, _, _, _, _ => by simp [okD] at h
  | .dict _, _, _, _, h, _, _, _, _ => by simp [okD] at h
theorem enc_injs : ∀ (l : List PyData) (y : PyData) (ys : List PyData) (n m : Nat) (r1 r2 : List Nat), okDs l = true → okDs (y :: ys) = true →
    joinL (encDs l) ++ (closeL n ++ r1) = joinL (encDs (y :: ys)) ++ (closeL m ++ r2) → l = y :: ys ∧ r1 = r2
  | [], y, ys, n, m, r1, r2, _, hy, h => by
    exfalso
    have hy' : okD y = true := by simp [okDs] at hy; exact hy.1
    obtain ⟨c, t, e1, _, n1, n2⟩ := first_sign y hy'
    have e2 : ∃ t', joinL (encDs (y :: ys)) = c :: t' := by
      cases ys with
      | nil => exact ⟨t, e1⟩
      | cons z zs => exact ⟨_, by simp only [encDs, joinL, e1]; rfl⟩
    obtain ⟨t', e2⟩ := e2
    rw [e2] at h
    simp only [encDs, joinL, List.nil_append] at h
    unfold closeL at h
    split at h <;> (injection h with h1 _; omega)
  | [x], y, ys, n, m, r1, r2, hx, hy, h => by
    have hx' : okD x = true := by simp [okDs] at hx; exact hx
    have hy' : okD y = true := by simp [okDs] at hy; exact hy.1
    cases ys with
    | nil =>
      simp only [encDs, joinL] at h
      obtain ⟨e1, e2⟩ := enc_inj x y _ _ hx' hy' (close_stop n r1) (close_stop m r2) h
      refine ⟨by rw [e1], ?_⟩
      unfold closeL at e2
      split at e2 <;> split at e2
      · simpa using e2
      · injection e2 with z _; cases z
      · injection e2 with z _; cases z
      · simpa using e2
    | cons z zs =>
      exfalso
      simp only [encDs, joinL, List.append_assoc, List.cons_append] at h
      obtain ⟨e1, e2⟩ := enc_inj x y _ _ hx' hy' (close_stop n r1) (.inr ⟨44, _, rfl, .inr rfl⟩) h
      unfold closeL at e2
      split at e2
      · injection e2 with _ z
        injection z with z _
        cases z
      · injection e2 with z _
        cases z
  | x :: x2 :: l, y, ys, n, m, r1, r2, hx, hy, h => by
    have hx' : okD x = true ∧ okDs (x2 :: l) = true := by
      have z : (okD x && okDs (x2 :: l)) = true := by rw [okDs] at hx; exact hx
      exact Bool.and_eq_true_iff.mp z
    have hy' : okD y = true := by simp [okDs] at hy; exact hy.1
    cases ys with
    | nil =>
      exfalso
      simp only [encDs, joinL, List.append_assoc, List.cons_append] at h
      obtain ⟨e1, e2⟩ := enc_inj x y _ _ hx'.1 hy' (.inr ⟨44, _, rfl, .inr rfl⟩) (close_stop m r2) h
      rcases (show closeL m = [44, 41] ∨ closeL m = [41] by unfold closeL; split <;> simp) with cm | cm
      · rw [cm] at e2
        injection e2 with _ z
        injection z with z _
        cases z
      · rw [cm] at e2
        injection e2 with z _
        cases z
    | cons z zs =>
      have hz : okDs (z :: zs) = true := by
        have q : (okD y && okDs (z :: zs)) = true := by rw [okDs] at hy; exact hy
        exact (Bool.and_eq_true_iff.mp q).2
      have h2 : encD x ++ (44 :: 32 :: (joinL (encDs (x2 :: l)) ++ (closeL n ++ r1))) = encD y ++ (44 :: 32 :: (joinL (encDs (z :: zs)) ++ (closeL m ++ r2))) := by
        simpa only [encDs, joinL, List.append_assoc, List.cons_append] using h
      obtain ⟨e1, e2⟩ := enc_inj x y _ _ hx'.1 hy' (.inr ⟨44, _, rfl, .inr rfl⟩) (.inr ⟨44, _, rfl, .inr rfl⟩) h2
      injection e2 with _ e2
      injection e2 with _ e2
      obtain ⟨e3, e4⟩ := enc_injs (x2 :: l) z zs n m r1 r2 hx'.2 hz e2
      exact ⟨by rw [e1, e3], e4⟩
end
theorem shown_inj {d e : PyData} (hd : okD d = true) (he : okD e = true) (h : PyData.shown d = PyData.shown e) : d = e := by
  have z : encD d ++ [] = encD e ++ [] := by
    rw [List.append_nil, List.append_nil, ← shown_codes d hd, ← shown_codes e he, h]
  exact (enc_inj d e [] [] hd he (.inl rfl) (.inl rfl) z).1
mutual
theorem okD_show : ∀ d : PyData, okD d = true → PyData.showable d = true
  | .none, _ => rfl
  | .bool _, _ => rfl
  | .int i, h => by simpa [okD, PyData.showable] using h
  | .str _, _ => rfl
  | .tuple xs, h => by
    rw [PyData.showable]
    exact okDs_show xs (by simpa [okD] using h)
  | .list _, h => by simp [okD] at h
  | .dict _, h => by simp [okD] at h
theorem okDs_show : ∀ xs : List PyData, okDs xs = true → PyData.showableAll xs = true
  | [], _ => rfl
  | x :: xs, h => by
    have h' : okD x = true ∧ okDs xs = true := by simpa [okDs] using h
    rw [PyData.showableAll, okD_show x h'.1, okDs_show xs h'.2]
    rfl
end
mutual
theorem okD_noDict : ∀ d : PyData, okD d = true → PyData.hasDict d = false
  | .none, _ => rfl
  | .bool _, _ => rfl
  | .int i, _ => rfl
  | .str _, _ => rfl
  | .tuple xs, h => by
    rw [PyData.hasDict]
    exact okDs_noDict xs (by simpa [okD] using h)
  | .list _, h => by simp [okD] at h
  | .dict _, h => by simp [okD] at h
theorem okDs_noDict : ∀ xs : List PyData, okDs xs = true → PyData.hasDictAll xs = false
  | [], _ => rfl
  | x :: xs, h => by
    have h' : okD x = true ∧ okDs xs = true := by simpa [okDs] using h
    rw [PyData.hasDictAll, okD_noDict x h'.1, okDs_noDict xs h'.2]
    rfl
end
end Vk
namespace Vk
open PySem PySem.Spec PyProof.Rows L2
/-! # Defs that write values as texts: they are called where no text of a value is being written (no guard) -/
/-- a def's promise, wherever no guard stands -/
structure Gk (P : Program) (w : World) (K : PySem.W.Frag) (mg : Str → Option Value) (base : Heap) (k : Nat) (f : Addr) (fd : FuncData) (ps : List Str) (sp : Sp) : Prop where
  len : ∀ vs H Q E, sp vs H Q E → vs.length = ps.length
  go : ∀ {A : Around} {out : List Env} {s : Shared} {H : Hp} {args : Args} {us : List Value} {vs : List V} {Q : VK} {E : XK},
    A.guards = some [] → Room k A → Env0 P w K mg base A out s H → BindsTo s fd args (ps.zip us) → Vals vs us → sp vs H Q E →
      codeAny (model P w) A (.call (.ref f) args) (CR CX0 out P w H s Q E) s
section
variable {P : Program} {w : World} {K : PySem.W.Frag} {mg : Str → Option Value} {base : Heap} {k : Nat} {f : Addr} {fd : FuncData} {ps : List Str} {sp : Sp}
theorem Gk.of (F : FnOk P w K mg base CX0 k f fd ps sp) : Gk P w K mg base k f fd ps sp :=
  ⟨F.len, fun {A out s H args us vs Q E} _ r e b v h => F.run A out s H args us vs Q E r e b v h⟩
theorem deeper_guards {A : Around} (env : Env) (h : A.guards = some []) : (A.deeper env).guards = some [] := h
/-- the rule for a def that is called where no guard stands: its body as a term, and the reading of it -/
theorem okG {x qual : Str} {st : Stmt} {N : List Str} (F : Fun K x qual st f fd) (S : FnScope N ps (defScope st))
    (len : ∀ vs H Q E, sp vs H Q E → vs.length = ps.length)
    (bodyOk : ∀ (cd : Value) (A : Around) (out : List Env) (s : Shared) (H : Hp) (vs : List V) (Q : VK) (E : XK),
      (A.deeper (envOfC qual (defScope st) s.heap.objs.size f cd)).guards = some [] →
      Room k (A.deeper (envOfC qual (defScope st) s.heap.objs.size f cd)) → sp vs H Q E →
      ∃ t, PSs (cxOf CX0 P w K mg base N qual (defScope st) f cd A out s H E).nox (defBody st) t ∧
        t { nx := fun _ H' => Q .non H', rt := Q } (start N vs) H) : Gk P w K mg base (k + 1) f fd ps sp := by
  obtain ⟨oc, od, kV, doc, pm, an, cd, ct, sl, rfl, look, code⟩ := F.ex
  refine ⟨len, fun {A out s H args us vs Q E} hg room en bind vals want => ?_⟩
  have n1 := len _ _ _ _ want
  have inK : K.In s.heap := en.mod.kin.keeps (fun b o e => (en.bs b o e).1)
  have noLim : s.heap.NoLimit := en.mod.nolimit.keeps (fun b o e => (en.bs b o e).1)
  have kinds : ∀ y ∈ ps.zip us, (defScope st).names.lookup y.1 = some .local ∨
      ((defScope st).names.lookup y.1 = some .cell ∧ ((cellsFrom (s.heap.objs.size + 1) (defScope st).names []).lookup y.1).isSome = true) := by
    rintro ⟨n, u⟩ hy
    cases S.par n (List.of_mem_zip hy).1 with
    | inl q => exact Or.inl q
    | inr q => exact Or.inr ⟨q, PySem.W.cellsFrom_some _ _ _ (Or.inl q)⟩
  refine codeAny_call_function room.depth (inK _ _ look) rfl S.co S.gen rfl (PySem.W.codeRec_of inK code) (bind _ _ _ _ ?_)
  refine wpAny_newFunctionEnv_cells S.kind kinds (fun env he st1 inCall => ?_)
  cases he
  refine ⟨noLim.keeps inCall.toInCall.keep, codeAny_func ?_⟩
  obtain ⟨t, ht, hq⟩ := bodyOk cd A out s H vs Q E hg (room.deeper _) want
  have inv : Inv (cxOf CX0 P w K mg base N qual (defScope st) f cd A out s H E) [] (start N vs) H st1 := inv_start S room.hd en n1 vals inCall
  refine wpAny_mono (ht.nox.run [] st1 _ H _ inv hq) (fun fl s2 h2 => ?_) (fun e s2 h2 => h2)
  have fin : ∀ {σ : L2.St} {H2 : Hp} {v : V} {u : Value}, Inv (cxOf CX0 P w K mg base N qual (defScope st) f cd A out s H E) [] σ H2 s2 → RelV v u → Q v H2 → CE out P w H s Q u s2 :=
    fun {σ H2 v u} J r q => ⟨v, H2, J.os, J.bare, J.base, J.hok, r, q⟩
  match fl, h2 with
  | .ret u, ⟨v, σ, H2, J, r, q⟩ => exact fin J r q
  | .next, ⟨σ, H2, J, q⟩ => exact fin (v := V.non) (u := Value.none) J rfl q
  | .brk, ⟨_, _, _, q⟩ => exact q.elim
  | .cont, ⟨_, _, _, q⟩ => exact q.elim
end
section
variable {X : Cx} {k : Nat} {f C : Addr} {fd : FuncData} {ps : List Str} {sp : Sp} {x m : Str} {p pos apos : Pos} {e o : Expr} {es : List Expr} {ta : TE} {t : TA}
theorem runG {pins : List (Addr × Obj)} {σ : L2.St} {H : Hp} {s : Shared} {Q : VK} {us : List Value} {vs : List V} (hg : X.A.guards = some []) (F : Gk X.prog X.w X.K X.mg X.base k f fd ps sp) (room : Room k X.A) (B : Binds X.K fd ps [])
    (I : Inv X pins σ H s) (vals : Vals vs us) (want : sp vs H Q E0) : wpAny (model X.prog X.w) X.A (call (.ref f) us) (EP X pins σ Q) X.xe s := by
  have n1 : us.length = ps.length := by
    rw [← vals.length]
    exact F.len _ _ _ _ want
  have bind := B s us I.kIn (by rw [List.append_nil]; exact n1)
  rw [List.append_nil] at bind
  refine wpAny_call (codeAny_mono (F.go (args := ⟨us, []⟩) hg room I.env0 bind vals want) (fun r s2 h2 => ?_))
  match r, h2 with
  | .error _, h => exact h.elim
  | .ok (.ret u), h => exact I.after h
  | .ok .next, h => exact h.elim
  | .ok .brk, h => exact h.elim
  | .ok .cont, h => exact h.elim
/-- f(e, ..) -/
theorem pe_callG (hg : X.A.guards = some []) (F : Gk X.prog X.w X.K X.mg X.base k f fd ps sp) (room : Room k X.A) (gl : Gl X x) (hm : X.mg x = some (.ref f)) (kp : PySem.W.keepIn X.K (.ref f) = true) (B : Binds X.K fd ps [])
    (ha : PA X (e :: es) t) (dbg : (x == ("__debug__" : Str)) = false := by decide)
    (st : starEach (e :: es) X.env = (false, eval e X.env) :: starEach es X.env := by rfl)
    (pl : (backTo pos (starEach es X.env)).any (·.1) = false := by rfl) :
    PE X (.Call (.Name x p) (e :: es) [] pos) (tCall sp [] E0 t) := by
  constructor
  intro pins s σ H Q I h
  refine wpAny_Call_Name_kw (ld_glob I gl hm ?_ dbg)
  refine PySem.W.callWith_K (h₀ := X.base) I.ok.mod.kin kp (thn (ha.run pos pins s σ H _ I h) ?_) st pl
  rintro us s1 ⟨vs, H1, I1, r, q⟩
  rw [List.append_nil] at q
  exact ⟨I1.kIn, runG hg F room B I1 r q⟩
/-- o.m(e, ..) -/
theorem pe_methG {pl : Sem Bool} (hg : X.A.guards = some []) (he : PE X o ta) (c : Cls X.K C) (hm : Meth X.K C m f) (F : Gk X.prog X.w X.K X.mg X.base k f fd ps sp) (room : Room k X.A) (B : Binds X.K fd ps [])
    (ha : PA X (e :: es) t)
    (st : starEach (e :: es) X.env = (false, eval e X.env) :: starEach es X.env := by rfl)
    (pb : (backTo pos (starEach es X.env)).any (·.1) = false := by rfl)
    (ht : eval (.Call (.Attribute o m apos) (e :: es) [] pos) X.env = (do
        let ov ← eval o X.env
        standAt apos.atName
        let fm ← holding [ov] (getMethod ov m pl)
        callWith pos fm.1 fm.2 (backTo pos (starEach (e :: es) X.env)) (backToKw pos (keywordEach [] X.env))) := by rfl) :
    PE X (.Call (.Attribute o m apos) (e :: es) [] pos) (tMeth C m sp [] E0 ta t) := by
  constructor
  intro pins s σ H Q I h
  refine PySem.W.methodCall_KW (pl := pl) (thn (he.run pins s σ H _ I h) ?_) ht
  rintro u s1 ⟨v, H1, I1, rv, a, dx, fs, ev, ea, lo, q⟩
  cases ev
  cases (show u = Value.ref a from rv)
  refine getmeth_ok I1 ea c hm lo ?_
  refine PySem.W.callWith_K (first := [.ref a]) (h₀ := X.base) I.ok.mod.kin hm.kp (thn (ha.run pos pins s1 σ H1 _ I1 q) ?_) st pb
  rintro us s2 ⟨vs, H2, I2, r, q2⟩
  rw [List.append_nil] at q2
  exact ⟨I2.kIn, runG (us := .ref a :: us) (vs := .ref a :: vs) hg F room B I2 (.cons rfl r) q2⟩
/-- repr of a plain value -/
def rRepr (K : PySem.W.Frag) : List V → Hp → VK → Prop := fun xs H Q => ∃ x d, xs = [x] ∧ Dp K H x d ∧ okD d = true ∧ d.depth ≤ 60 ∧ d.shown.length ≤ sizeLine ∧ Q (.str d.shown) H
theorem call_reprD (hg : X.A.guards = some []) (room : Room k X.A) : CallR X (.builtin "repr") (rRepr X.K) := by
  intro pins s σ H xs us Q I r h
  obtain ⟨x, d, rfl, hd, ok, dep, len, q⟩ := h
  obtain ⟨u, rfl, rx⟩ := vals1 r
  have hu := room.units
  cases d with
  | none =>
    cases hd
    cases rx
    exact PySem.P.repr_of_none ⟨.str _, H, I.tok _, ⟨_, rfl⟩, q⟩
  | bool b =>
    cases hd
    cases rx
    exact PySem.P.repr_of_bool ⟨.str _, H, I.tok _, ⟨_, rfl⟩, q⟩
  | int i =>
    cases hd
    obtain ⟨t, rfl⟩ := rx
    exact PySem.P.repr_of_int (by simpa [okD] using ok) ⟨.str _, H, I.tok _, ⟨_, rfl⟩, q⟩
  | str y =>
    cases hd
    obtain ⟨t, rfl⟩ := rx
    exact PySem.P.repr_of_str ⟨.str _, H, I.tok _, ⟨_, rfl⟩, q⟩ (by simpa [PyData.shown] using len)
  | tuple xs =>
    obtain ⟨as, rd⟩ := Dp.reads I _ _ _ hd rx
    cases hd
    cases rx
    refine PySem.repr_of_reads' rd (okD_show _ ok) (fun z => ?_) hg (by omega) (fun _ _ e => e) (fun h' u tk kp => ?_) len
    · rw [okD_noDict _ ok] at z
      cases z
    · exact ⟨.str _, H, I.kept (t' := tk) kp, ⟨u, rfl⟩, q⟩
  | list _ => simp [okD] at ok
  | dict _ => simp [okD] at ok
end
/-! ## the law's own call -/
theorem callG {P : Program} {w : World} {K : PySem.W.Frag} {mg mb : Str → Option Value} {k : Nat} {fa a : Addr} {fd : FuncData} {x : Str} {sp : Sp} {st : Shared} {us : List Value} {ns : List Int}
    (inK : K.In st.heap) (nsM : st.heap.Ns mainGlobals mg) (nsB : st.heap.Ns builtinsNs mb) (boot : ∀ x : Str, x ≠ "__name__" → mb x = bootBuiltins x) (noLim : st.heap.NoLimit) (noGen : st.gens = #[])
    (atA : st.heap.get? a = some { cls := .type "list", data := .seq us.toArray }) (intsA : IntsAre us ns) (len : ns.length ≤ sizeLine) (room : Room k callerA)
    (F : ∀ base : Heap, K.In base → base.Ns mainGlobals mg → Gk P w K mg base k fa fd [x] sp) (bind : ∀ (s : Shared) (u : Value), BindsTo s fd ⟨[u], []⟩ [(x, u)])
    (want : ∀ H : Hp, Only H → SqL K H a (ns.map V.int) → sp [.ref a] H (fun v _ => v = .bl true) fun _ _ _ => False) :
    codeAny (model P w) callerA (.call (.ref fa) ⟨[.ref a], []⟩) (fun r s' => r = .ok (.ret (.bool true)) ∧ OldK st.heap s'.heap ∧ s'.os = st.os ∧ AllBare s'.gens) st := by
  have valsA : Vals (ns.map V.int) us := vals_ints intsA
  have sizes := intsA.length
  have main : ∀ H : Hp, Only H → SqL K H a (ns.map V.int) → HOk P w H st.heap → (∀ b, H b ≠ none → b = a) → (H a ≠ none → K.lookup a = none) →
      codeAny (model P w) callerA (.call (.ref fa) ⟨[.ref a], []⟩) (fun r s' => r = .ok (.ret (.bool true)) ∧ OldK st.heap s'.heap ∧ s'.os = st.os ∧ AllBare s'.gens) st := by
    intro H only sq ok atMost apart
    have dictFree : ∀ {b : Addr} {o : Obj} {es : Array DictEntry} {ep : Nat}, st.heap.get? b = some o → o.data = .dict es ep → H b = none := by
      intro b o es ep e d
      cases hb : H b with
      | none => rfl
      | some u =>
        cases atMost b (by rw [hb]; exact fun z => nomatch z)
        rw [atA] at e
        cases e
        exact nomatch (show Data.seq us.toArray _ = Data.dict es ep from d)
    have nsH : ∀ {b : Addr} {m : Str → Option Value}, st.heap.Ns b m → (hidT st.heap H).Ns b m := by
      rintro b m ⟨o, es, ep, e, d, rest⟩
      exact ⟨o, es, ep, hidT_get e (dictFree e d), d, rest⟩
    have inH : K.In (hidT st.heap H) := by
      intro b o e
      refine hidT_get (inK b o e) ?_
      cases hb : H b with
      | none => rfl
      | some u =>
        have eb := atMost b (by rw [hb]; exact fun z => nomatch z)
        rw [eb] at e hb
        rw [apart (by rw [hb]; exact fun z => nomatch z)] at e
        cases e
    have modH : Mod K mg (hidT st.heap H) := by
      obtain ⟨mc, z1, z2⟩ := id noLim
      exact ⟨inH, nsH nsM, ⟨mb, nsH nsB, boot⟩, ⟨mc, nsH z1, z2⟩⟩
    have en : Env0 P w K mg (hidT st.heap H) callerA [] st H :=
      { frames := rfl, mod := modH, bs := fun b o e => of_hidT e, bsz := Nat.le_of_eq (hidT_size _ _), funs := trivial, frf := (fun b hb => nomatch hb), hok := ok, bare := .of_eq noGen }
    have run := (F _ inH (nsH nsM)).go (out := []) (args := ⟨[.ref a], []⟩) (us := [.ref a]) (vs := [.ref a]) rfl room en (bind st (.ref a)) (.cons rfl .nil) (want H only sq)
    refine codeAny_mono run (fun r s2 h2 => ?_)
    match r, h2 with
    | .error _, h => exact h.elim
    | .ok .next, h => exact h.elim
    | .ok .brk, h => exact h.elim
    | .ok .cont, h => exact h.elim
    | .ok (.ret u), ⟨v, H2, osE, bareE, un, ok2, rv, q⟩ =>
      cases (show v = .bl true from q)
      cases (show u = Value.bool true from rv)
      refine ⟨rfl, OldK.of_keep (fun b o e => ?_), osE, bareE⟩
      cases hb : H b with
      | none => exact un.keep b o e hb (fun z => nomatch z) (fun z => nomatch z)
      | some u =>
        rcases only b with z | ⟨ob, xs, z⟩
        · rw [hb] at z
          cases z
        · have y1 := (ok b _ z).1
          have y2 := (ok2 b _ (un.frzs b ob _ z)).1
          rw [e] at y1
          cases y1
          exact y2
  cases known : K.lookup a with
  | some o =>
    have e := inK a o known
    rw [atA] at e
    cases e
    refine main (fun _ => none) (fun _ => Or.inl rfl) (Or.inr ⟨_, us.toArray, _, known, rfl, rfl, rfl, ?_, by simpa using valsA⟩) (fun b u z => nomatch z) (fun b z => absurd rfl z) (fun z => absurd rfl z)
    rw [List.size_toArray, sizes]
    exact len
  | none =>
    have at1 : ∀ {b : Addr} {o : HO}, (if b = a then some (HO.frz { cls := .type "list", data := .seq us.toArray } (.lst (ns.map V.int))) else none) = some o → b = a ∧ o = HO.frz { cls := .type "list", data := .seq us.toArray } (.lst (ns.map V.int)) := by
      intro b o z
      by_cases hb : b = a
      · rw [if_pos hb] at z
        exact ⟨hb, (Option.some.inj z).symm⟩
      · rw [if_neg hb] at z
        cases z
    refine main (fun b => if b = a then some (.frz { cls := .type "list", data := .seq us.toArray } (.lst (ns.map V.int))) else none) (fun b => ?_) (Or.inl (Or.inr ⟨_, if_pos rfl⟩)) (fun b u z => ?_) (fun b z => ?_) (fun _ => known)
    · by_cases hb : b = a
      · exact Or.inr ⟨_, _, if_pos hb⟩
      · exact Or.inl (if_neg hb)
    · obtain ⟨e1, e2⟩ := at1 z
      subst e1 e2
      exact ⟨atA, by rw [List.length_map]; exact len, us, _, valsA, atA⟩
    · by_cases hb : b = a
      · exact hb
      · exact absurd (if_neg hb) z
theorem walkG {l : PySem.W.OpenLaw} {n k : Nat} {q : Program} {loose : List Str} {XP : (Str → Option Value) → Heap → Prop} {YP : World → Heap → Prop} {d : DefRec} {K : Params → PySem.W.Frag} {sp : World → Sp} {x : Str}
    (most : l.most = some n) (small : n ≤ sizeLine) (plain : d.params.defaults = []) (room : Room k callerA)
    (atK : ∀ (w : World) (h : Heap), YP w h → (K w.params).In h)
    (F : ∀ (w : World) (mg : Str → Option Value) (fa : Addr) (h : Heap), (K w.params).In h → h.Ns mainGlobals mg → mg d.name = some (.ref fa) →
      ∃ fd : FuncData, (∀ (s : Shared) (u : Value), BindsTo s fd ⟨[u], []⟩ [(x, u)]) ∧
        ∀ base : Heap, (K w.params).In base → base.Ns mainGlobals mg → Gk l.prog w (K w.params) mg base k fa fd [x] (sp w))
    (want : ∀ (w : World) (H : Hp) (a : Addr) (ns : List Int), ns.length ≤ n → Only H → SqL (K w.params) H a (ns.map V.int) → sp w [.ref a] H (fun v _ => v = .bl true) fun _ _ _ => False) :
    PySem.W.WalkO q loose XP YP l.row.toRowW d [] (fun f vs => PySem.call f vs) := by
  refine Att.attach_call most plain (fun w s0 st mg mb fa o pm cd doc a us ns G Y hO hD cdo atMg atObj intsA len noGen => ?_)
  have inK := atK w _ Y
  obtain ⟨fd, bind, hF⟩ := F w mg fa _ inK G.T.g atMg
  exact callG inK G.T.g G.T.b G.T.builtins G.T.nolimit noGen atObj intsA (Nat.le_trans len small) room hF bind (fun H hO2 hS => want w H a ns len hO2 hS)
end Vk
namespace Vk
open PySem PySem.Spec PyProof.Rows L2
/-! # Plain data on the heap -/
def KeepT (H H' : Hp) : Prop := ∀ a o, (∃ xs, o = .tup xs ∨ ∃ ob, o = .frz ob (.tup xs)) → H a = some o → H' a = some o
theorem keepT_of {H H' : Hp} (s : Same H H') : KeepT H H' := fun a o _ h => s a o h
theorem KeepT.seq {K : PySem.W.Frag} {H H' : Hp} {a : Addr} {xs : List V} (k : KeepT H H') (h : SqT K H a xs) : SqT K H' a xs := by
  rcases h with (h | ⟨o, h⟩) | h
  · exact .inl (.inl (k _ _ ⟨xs, .inl rfl⟩ h))
  · exact .inl (.inr ⟨o, k _ _ ⟨xs, .inr ⟨o, rfl⟩⟩ h⟩)
  · exact .inr h
theorem KeepT.refl (H : Hp) : KeepT H H := fun _ _ _ h => h
theorem KeepT.trans {H H1 H2 : Hp} (a : KeepT H H1) (b : KeepT H1 H2) : KeepT H H2 := fun c o t h => b c o t (a c o t h)
theorem KeepT.new {H : Hp} {p : Addr} {o : HO} (h : H p = none) : KeepT H (upd H p o) := fun a u _ e => by
  rw [upd_ne (ne_of_none e h)]
  exact e
/-- an object that is no tuple is changed -/
theorem KeepT.put {H : Hp} {p : Addr} {u o : HO} (h : H p = some u) (nt : ∀ xs, u ≠ .tup xs) (nf : ∀ ob xs, u ≠ .frz ob (.tup xs)) : KeepT H (upd H p o) := fun a v t e => by
  have ne : a ≠ p := by
    intro z
    subst z
    rw [h] at e
    cases e
    obtain ⟨ys, t | ⟨ob, t⟩⟩ := t
    · exact nt _ t
    · exact nf _ _ t
  rw [upd_ne ne]
  exact e
theorem KeepT.lst {H : Hp} {p : Addr} {xs : List V} {o : HO} (h : H p = some (.lst xs)) : KeepT H (upd H p o) := KeepT.put h (fun _ z => nomatch z) (fun _ _ z => nomatch z)
theorem KeepT.dK {H : Hp} {p : Addr} {kvs : List (Key × V)} {o : HO} (h : H p = some (.dK kvs)) : KeepT H (upd H p o) := KeepT.put h (fun _ z => nomatch z) (fun _ _ z => nomatch z)
mutual
theorem dp_keep {K : PySem.W.Frag} {H H' : Hp} (k : KeepT H H') : ∀ (d : PyData) (v : V), okD d = true → Dp K H v d → Dp K H' v d
  | .none, _, _, h => by cases h; exact .non
  | .bool b, _, _, h => by cases h; exact .bl b
  | .int i, _, _, h => by cases h; exact .int i
  | .str x, _, _, h => by cases h; exact .str x
  | .list ds, _, n, _ => by simp [okD] at n
  | .dict ds, _, n, _ => by simp [okD] at n
  | .tuple ds, _, n, h => by
    cases h with
    | tup hs ha => exact .tup (k.seq hs) (dp_keepAll k ds _ (by simpa [okD] using n) ha)
theorem dp_keepAll {K : PySem.W.Frag} {H H' : Hp} (k : KeepT H H') : ∀ (ds : List PyData) (vs : List V), okDs ds = true → DpAll K H vs ds → DpAll K H' vs ds
  | [], _, _, h => by cases h; exact .nil
  | d :: ds, _, n, h => by
    have n' : okD d = true ∧ okDs ds = true := by simpa [okDs] using n
    cases h with
    | cons h1 h2 => exact .cons (dp_keep k d _ n'.1 h1) (dp_keepAll k ds _ n'.2 h2)
end
theorem dp_app {K : PySem.W.Frag} {H : Hp} : ∀ {xs ys : List V} {ds es : List PyData}, DpAll K H xs ds → DpAll K H ys es → DpAll K H (xs ++ ys) (ds ++ es)
  | _, _, _, _, .nil, h => h
  | _, _, _, _, .cons a b, h => .cons a (dp_app b h)
theorem dp_len {K : PySem.W.Frag} {H : Hp} : ∀ {xs : List V} {ds : List PyData}, DpAll K H xs ds → xs.length = ds.length
  | _, _, .nil => rfl
  | _, _, .cons _ b => congrArg Nat.succ (dp_len b)
theorem dp_at {K : PySem.W.Frag} {H : Hp} : ∀ {xs : List V} {ds : List PyData} {i : Nat} {d : PyData}, DpAll K H xs ds → ds[i]? = some d → ∃ v, xs[i]? = some v ∧ Dp K H v d
  | _, _, _, _, .nil, h => by simp at h
  | _, _, 0, _, .cons a _, h => by simp at h; subst h; exact ⟨_, rfl, a⟩
  | _, _, i + 1, _, .cons _ b, h => by
    obtain ⟨v, e, q⟩ := dp_at (i := i) b (by simpa using h)
    exact ⟨v, by simpa using e, q⟩
theorem dp_at' {K : PySem.W.Frag} {H : Hp} : ∀ {xs : List V} {ds : List PyData} {i : Nat} {v : V}, DpAll K H xs ds → xs[i]? = some v → ∃ d, ds[i]? = some d ∧ Dp K H v d
  | _, _, _, _, .nil, h => by simp at h
  | _, _, 0, _, .cons a _, h => by simp at h; subst h; exact ⟨_, rfl, a⟩
  | _, _, i + 1, _, .cons _ b, h => by
    obtain ⟨d, e, q⟩ := dp_at' (i := i) b (by simpa using h)
    exact ⟨d, by simpa using e, q⟩
theorem okDs_at : ∀ {ds : List PyData} {i : Nat} {d : PyData}, okDs ds = true → ds[i]? = some d → okD d = true
  | [], _, _, _, h => by simp at h
  | x :: xs, 0, d, o, h => by
    have o' : okD x = true ∧ okDs xs = true := by simpa [okDs] using o
    simp at h; subst h; exact o'.1
  | x :: xs, i + 1, d, o, h => by
    have o' : okD x = true ∧ okDs xs = true := by simpa [okDs] using o
    exact okDs_at (i := i) o'.2 (by simpa using h)
theorem okDs_app : ∀ {ds es : List PyData}, okDs ds = true → okDs es = true → okDs (ds ++ es) = true
  | [], _, _, h => h
  | x :: xs, es, o, h => by
    have o' : okD x = true ∧ okDs xs = true := by simpa [okDs] using o
    simp only [List.cons_append, okDs, o'.1, okDs_app o'.2 h, Bool.and_self]
theorem okDs_all : ∀ {ds : List PyData}, (∀ d ∈ ds, okD d = true) → okDs ds = true
  | [], _ => rfl
  | x :: xs, h => by
    simp only [okDs, h x List.mem_cons_self, okDs_all (ds := xs) fun d hd => h d (List.mem_cons_of_mem _ hd), Bool.and_self]
theorem depth_at : ∀ {ds : List PyData} {i : Nat} {d : PyData}, ds[i]? = some d → d.depth ≤ PyData.depthAll ds
  | [], _, _, h => by simp at h
  | x :: xs, 0, d, h => by
    simp at h; subst h
    simp only [PyData.depthAll]
    omega
  | x :: xs, i + 1, d, h => by
    have z := depth_at (ds := xs) (i := i) (d := d) (by simpa using h)
    simp only [PyData.depthAll]
    omega
/-! ## kinds -/
def tyD : PyData → String
  | .none => "NoneType"
  | .bool _ => "bool"
  | .int _ => "int"
  | .str _ => "str"
  | .tuple _ => "tuple"
  | .list _ => "list"
  | .dict _ => "dict"
theorem sqT_ty {K : PySem.W.Frag} {H : Hp} {a : Addr} {xs : List V} (h : SqT K H a xs) : TyX K H (.ref a) (.type "tuple") := by
  rcases h with (h | ⟨o, h⟩) | ⟨o, its, n, h1, h2, _⟩
  · exact .base (.tup h)
  · exact .fTuple h
  · exact .kTuple h1 h2
theorem dp_ty {K : PySem.W.Frag} {H : Hp} {v : V} {d : PyData} (h : Dp K H v d) (ok : okD d = true) : TyX K H v (.type (tyD d)) := by
  cases h with
  | non => exact .base .non
  | bl b => exact .base (.bl b)
  | int i => exact .base (.int i)
  | str x => exact .base (.str x)
  | lst _ _ => simp [okD] at ok
  | tup hs _ => exact sqT_ty hs
def isTupD : PyData → Bool
  | .tuple _ => true
  | _ => false
def isBoolD : PyData → Bool
  | .bool _ => true
  | _ => false
theorem kit_tup {K : PySem.W.Frag} {d : PyData} (ok : okD d = true) : PySem.W.kitOne K (.type (tyD d)) (.type "tuple") = some (isTupD d) := by
  cases d with
  | none => exact kit_ty (a := "NoneType") (r := false) (by decide +kernel)
  | bool b => exact kit_ty (a := "bool") (r := false) (by decide +kernel)
  | int i => exact kit_ty (a := "int") (r := false) (by decide +kernel)
  | str x => exact kit_ty (a := "str") (r := false) (by decide +kernel)
  | tuple xs => exact kit_ty (a := "tuple") (r := true) (by decide +kernel)
  | list _ => simp [okD] at ok
  | dict _ => simp [okD] at ok
theorem kit_bool {K : PySem.W.Frag} {d : PyData} (ok : okD d = true) : PySem.W.kitOne K (.type (tyD d)) (.type "bool") = some (isBoolD d) := by
  cases d with
  | none => exact kit_ty (a := "NoneType") (r := false) (by decide +kernel)
  | bool b => exact kit_ty (a := "bool") (r := true) (by decide +kernel)
  | int i => exact kit_ty (a := "int") (r := false) (by decide +kernel)
  | str x => exact kit_ty (a := "str") (r := false) (by decide +kernel)
  | tuple xs => exact kit_ty (a := "tuple") (r := false) (by decide +kernel)
  | list _ => simp [okD] at ok
  | dict _ => simp [okD] at ok
/-! ## two values are one -/
mutual
def eqD : PyData → PyData → Bool
  | .none, .none => true
  | .bool a, .bool b => decide (a = b)
  | .int a, .int b => decide (a = b)
  | .str a, .str b => decide (a = b)
  | .tuple xs, .tuple ys => eqDs xs ys
  | _, _ => false
def eqDs : List PyData → List PyData → Bool
  | [], [] => true
  | x :: xs, y :: ys => eqD x y && eqDs xs ys
  | _, _ => false
end
mutual
theorem eqD_iff : ∀ d e : PyData, okD d = true → (eqD d e = true ↔ d = e)
  | .none, e, _ => by cases e <;> simp [eqD]
  | .bool a, e, _ => by cases e <;> simp [eqD]
  | .int a, e, _ => by cases e <;> simp [eqD]
  | .str a, e, _ => by cases e <;> simp [eqD]
  | .tuple xs, e, h => by
    have h' : okDs xs = true := by simpa [okD] using h
    cases e with
    | tuple ys => simp only [eqD, PyData.tuple.injEq]; exact eqDs_iff xs ys h'
    | _ => simp [eqD]
  | .list _, _, h => by simp [okD] at h
  | .dict _, _, h => by simp [okD] at h
theorem eqDs_iff : ∀ xs ys : List PyData, okDs xs = true → (eqDs xs ys = true ↔ xs = ys)
  | [], [], _ => by simp [eqDs]
  | [], _ :: _, _ => by simp [eqDs]
  | _ :: _, [], _ => by simp [eqDs]
  | x :: xs, y :: ys, h => by
    have h' : okD x = true ∧ okDs xs = true := by simpa [okDs] using h
    simp only [eqDs, Bool.and_eq_true, List.cons.injEq, eqD_iff x y h'.1, eqDs_iff xs ys h'.2]
end
theorem eqDs_at : ∀ (xs ys : List PyData), xs.length = ys.length → (eqDs xs ys = true ↔ ∀ (i : Nat) (x y : PyData), xs[i]? = some x → ys[i]? = some y → eqD x y = true)
  | [], [], _ => by simp [eqDs]
  | [], _ :: _, h => by cases h
  | _ :: _, [], h => by cases h
  | x :: xs, y :: ys, h => by
    have ih := eqDs_at xs ys (Nat.succ.inj h)
    simp only [eqDs, Bool.and_eq_true, ih]
    constructor
    · rintro ⟨h1, h2⟩ i a b ha hb
      cases i with
      | zero => simp at ha hb; subst ha hb; exact h1
      | succ i => exact h2 i a b (by simpa using ha) (by simpa using hb)
    · intro h3
      exact ⟨h3 0 x y rfl rfl, fun i a b ha hb => h3 (i + 1) a b (by simpa using ha) (by simpa using hb)⟩
theorem eqDs_len : ∀ (xs ys : List PyData), xs.length ≠ ys.length → eqDs xs ys = false
  | [], [], h => absurd rfl h
  | [], _ :: _, _ => by simp [eqDs]
  | _ :: _, [], _ => by simp [eqDs]
  | x :: xs, y :: ys, h => by
    have ih := eqDs_len xs ys (fun z => h (congrArg Nat.succ z))
    simp [eqDs, ih]
/-! ## lengths of texts -/
theorem enc_one (d : PyData) : (encD (.tuple [d])).length = (encD d).length + 3 := by
  simp only [encD, encDs, joinL, closeL]
  simp
theorem enc_two (d e : PyData) : (encD (.tuple [d, e])).length = (encD d).length + (encD e).length + 4 := by
  simp only [encD, encDs, joinL, closeL]
  simp
  omega
theorem shown_length {d : PyData} (h : okD d = true) : (PyData.shown d).length = (encD d).length := by
  rw [← shown_codes d h]
  show (PyData.shown d).cps.size = _
  simp
theorem intL_len {i : Int} {k : Nat} (hk : 1 ≤ k) (h : i.natAbs < 10 ^ k) : (intL i).length ≤ k + 1 := by
  cases i with
  | ofNat m =>
    unfold intL
    rw [text_ofNat]
    have z := digits10_le hk (n := m) h
    simp
    omega
  | negSucc m =>
    have e : intL (Int.negSucc m) = 45 :: (Nat.toDigits 10 (m + 1)).map Char.toNat := by
      unfold intL
      rw [ofString_codes]
      show ("-" ++ Nat.repr (m + 1)).toList.map Char.toNat = _
      rw [String.toList_append, List.map_append]
      show [45] ++ (Nat.repr (m + 1)).toList.map Char.toNat = _
      have e2 : (Nat.repr (m + 1)).toList = Nat.toDigits 10 (m + 1) := by
        unfold Nat.repr
        exact String.toList_ofList
      rw [e2]
      rfl
    rw [e]
    have z := digits10_le hk (n := m + 1) h
    simp
    omega
theorem int_ok {i : Int} {k : Nat} (h : i.natAbs < 2 ^ k) (hk : k ≤ 1920) (h0 : 0 < k) : okD (.int i) = true := by
  simp only [okD]
  refine decide_eq_true ?_
  by_cases z : i.natAbs = 0
  · rw [z]
    decide
  · exact Nat.lt_of_lt_of_le ((Nat.log2_lt z).mpr h) hk
theorem atI_some {α : Type} {xs : List α} {i : Int} (h0 : 0 ≤ i) (h1 : i < xs.length) : ∃ v, atI xs i = some v ∧ v ∈ xs := by
  have e : i = ((i.toNat : Nat) : Int) := by omega
  have hl : i.toNat < xs.length := by omega
  have z : atI xs ((i.toNat : Nat) : Int) = some xs[i.toNat] := atI_nat (List.getElem?_eq_getElem hl)
  rw [← e] at z
  exact ⟨_, z, List.getElem_mem hl⟩
theorem take_next {α : Type} {l : List α} {i : Nat} {x : α} (h : l[i]? = some x) : l.take (i + 1) = l.take i ++ [x] := by
  rw [List.take_add_one, h]
  rfl
theorem same_new {H : Hp} {p : Addr} {o : HO} (h : H p = none) : Same H (upd H p o) := fun b u e => by
  rw [upd_ne (ne_of_none e h)]
  exact e
theorem ifT {c : Bool} {A B : Prop} (h : c = true) (x : A) : if c = true then A else B := by
  rw [if_pos h]
  exact x
theorem ifF {c : Bool} {A B : Prop} (h : c = false) (x : B) : if c = true then A else B := by
  rw [h, if_neg Bool.false_ne_true]
  exact x
theorem bo_len : bootBuiltins "len" = some (.builtin "len") := by decide +kernel
theorem bo_int : bootBuiltins "int" = some (.type "int") := by decide +kernel
theorem bo_tuple : bootBuiltins "tuple" = some (.type "tuple") := by decide +kernel
theorem bo_list : bootBuiltins "list" = some (.type "list") := by decide +kernel
theorem bo_str : bootBuiltins "str" = some (.type "str") := by decide +kernel
theorem bo_type : bootBuiltins "type" = some (.type "type") := by decide +kernel
theorem bo_isinstance : bootBuiltins "isinstance" = some (.builtin "isinstance") := by decide +kernel
theorem bo_repr : bootBuiltins "repr" = some (.builtin "repr") := by decide +kernel
theorem bo_max : bootBuiltins "max" = some (.builtin "max") := by decide +kernel
theorem bo_min : bootBuiltins "min" = some (.builtin "min") := by decide +kernel
/-- a def that is called: what it promises, where it stands -/
structure Cal (P : Program) (w : World) (K : PySem.W.Frag) (mg : Str → Option Value) (base : Heap) (x : Str) (k : Nat) (f : Addr) (fd : FuncData) (ps : List Str) (sp : Sp) : Prop where
  G : FnOk P w K mg base CX0 k f fd ps sp
  mg : mg x = some (.ref f)
  kp : PySem.W.keepIn K (.ref f) = true
  B : Binds K fd ps []
structure CalG (P : Program) (w : World) (K : PySem.W.Frag) (mg : Str → Option Value) (base : Heap) (x : Str) (k : Nat) (f : Addr) (fd : FuncData) (ps : List Str) (sp : Sp) : Prop where
  G : Gk P w K mg base k f fd ps sp
  mg : mg x = some (.ref f)
  kp : PySem.W.keepIn K (.ref f) = true
  B : Binds K fd ps []
/-- a method that is called -/
structure CalM (P : Program) (w : World) (K : PySem.W.Frag) (mg : Str → Option Value) (base : Heap) (C : Addr) (x : Str) (k : Nat) (f : Addr) (fd : FuncData) (ps : List Str) (sp : Sp) : Prop where
  G : Gk P w K mg base k f fd ps sp
  cl : Cls K C
  mt : Meth K C x f
  B : Binds K fd ps []
end Vk
namespace Vk
open PySem PySem.Spec PyProof.Rows L2
def top (i : Nat) : Stmt := PySem.Challenge.pw_trothbase_k02_names.main.body.getD i (.Pass ⟨0, 0, 0, 0⟩)
/-! ### the draws -/
/-- the loop of a draw: i quotients -/
def cutBy : Nat → Int → Int
  | 0, c => c
  | n + 1, c => cutBy n c / 100003
def drawOf (ns : List Int) (k : Int) : Int :=
  if ns = [] then k * 5 % 7
  else
    let c := ns.getD (k % (ns.length : Int)).toNat 0
    if c ≥ 1000000000000000000 then cutBy (if (60 : Int) < k / (ns.length : Int) then (60 : Int) else k / (ns.length : Int)).toNat c % 100003
    else (c * 48271 + k * 69621 + 13) % 2147483647 * 16807 % 2147483629
theorem drawOf_nn (ns : List Int) (k : Int) : 0 ≤ drawOf ns k := by
  unfold drawOf
  split
  · omega
  · dsimp only
    split <;> omega
theorem drawOf_lt (ns : List Int) (k : Int) : drawOf ns k < 2147483629 := by
  unfold drawOf
  split
  · omega
  · dsimp only
    split <;> omega
def spDraw (K : PySem.W.Frag) : Sp := fun vs H Q _ => ∃ (a : Addr) (ns : List Int) (k : Int), vs = [.ref a, .int k] ∧ SqL K H a (ns.map V.int) ∧ ns.length ≤ 63 ∧ 0 ≤ k ∧ k ≤ 1000000 ∧ Q (.int (drawOf ns k)) H
abbrev sDraw : Stmt := top 5
structure TDraw (mg : Str → Option Value) : Prop where
  len : mg "len" = none
  int : mg "int" = none
  min : mg "min" = none
  range : mg "range" = none
section
variable {P : Program} {w : World} {K : PySem.W.Frag} {mg : Str → Option Value} {base : Heap}
theorem scDraw : FnScope ["script", "k", "cell", "turn", "step"] ["script", "k"] (defScope sDraw) := ⟨rfl, rfl, rfl, by decide +kernel, rfl, by decide +kernel, by decide +kernel⟩
theorem ok_draw {f : Addr} {fd : FuncData} (F : Fun K "_law_draw" "_law_draw" sDraw f fd) (T : TDraw mg) : FnOk P w K mg base CX0 1 f fd ["script", "k"] (spDraw K) := by
  refine F.ok scDraw (fun vs H Q E h => ?_) (fun cdv A outer s H vs Q E hr h => ?_)
  · obtain ⟨a, ns, k, rfl, _⟩ := h
    rfl
  · obtain ⟨a, ns, k, rfl, hS, hl, hk0, hk, q⟩ := h
    refine ⟨_, pss_cons (ps_if (pt_not (pt_truth (pv 0) (by intro _; rfl))) (pss_one (ps_ret (pe_op op_mod (pe_op op_mul (pv 1) pe_int) pe_int))) pss_nil)
      (pss_cons (ps_set (i := 2) scDraw.nd rfl (Or.inl rfl) (pe_callTy call_int1 (by rfl) T.int (by decide +kernel) (pa_cons (pe_ix ix_list (pv 0) (pe_op op_mod (pv 1) (pe_callB call_len_seq (by rfl) T.len PySem.boot_len (pa_cons (pv 0) pa_nil))) (fun _ _ => rfl)) pa_nil)))
      (pss_cons (ps_set (i := 3) scDraw.nd rfl (Or.inl rfl) (pe_op op_fdiv (pv 1) (pe_callB call_len_seq (by rfl) T.len PySem.boot_len (pa_cons (pv 0) pa_nil))))
      (pss_cons (ps_if (pt_cmpR op_ge (pv 2) pe_int (nomark _))
        (pss_cons (ps_for PassesOwn.never rfl (pi_range1 rfl T.range (pa_cons (pe_callB (call_min2 rfl) (by rfl) T.min (by decide +kernel) (pa_cons (pv 3) (pa_cons pe_int pa_nil))) pa_nil)) (pg_name (i := 4) scDraw.nd rfl (Or.inl rfl))
          (pss_one (ps_set (i := 2) scDraw.nd rfl (Or.inl rfl) (pe_op op_fdiv (pv 2) pe_int))))
        (pss_one (ps_ret (pe_op op_mod (pv 2) pe_int)))) pss_nil)
      (pss_one (ps_ret (pe_op op_mod (pe_op op_mul (pe_op op_mod (pe_op op_add (pe_op op_add (pe_op op_mul (pv 2) pe_int) (pe_op op_mul (pv 1) pe_int)) pe_int) pe_int) pe_int) pe_int)))))), ?_⟩
    refine ⟨_, rfl, _, .inl ⟨_, hS, rfl⟩, ?_⟩
    cases ns with
    | nil =>
      refine iteT ?_
      refine ⟨_, rfl, _, _, rfl, rfl, .inr ⟨by decide, by decide⟩, _, _, rfl, rfl, (by show (0 : Int) < 7; decide), ?_⟩
      have e : drawOf [] k = k * 5 % 7 := by unfold drawOf; rw [if_pos rfl]
      rw [e] at q
      exact q
    | cons n0 nr =>
      refine iteF ?_
      have hlen : ((List.map V.int (n0 :: nr)).length : Int) = (((n0 :: nr).length : Nat) : Int) := by rw [List.length_map]
      have hpos : (0 : Int) < (((n0 :: nr).length : Nat) : Int) := by simp only [List.length_cons]; omega
      have hl2 : (((n0 :: nr).length : Nat) : Int) ≤ 63 := by omega
      have hm0 : 0 ≤ k % (((n0 :: nr).length : Nat) : Int) := Int.emod_nonneg _ (by omega)
      have hm1 : k % (((n0 :: nr).length : Nat) : Int) < (((n0 :: nr).length : Nat) : Int) := Int.emod_lt_of_pos _ hpos
      generalize hns : (n0 :: nr) = ns at hS hl hlen hpos hl2 hm0 hm1 q ⊢
      have hne : ns ≠ [] := by rw [← hns]; exact List.cons_ne_nil _ _
      have hat : atI (ns.map V.int) (k % ((ns.map V.int).length : Int)) = some (.int (ns.getD (k % (ns.length : Int)).toNat 0)) := by
        rw [hlen]
        have e1 : (k % (ns.length : Int)) = (((k % (ns.length : Int)).toNat : Nat) : Int) := by omega
        rw [e1]
        refine atI_nat ?_
        have h2 : (k % (ns.length : Int)).toNat < ns.length := by omega
        rw [Int.toNat_natCast, List.getElem?_map, List.getD_eq_getElem?_getD, List.getElem?_eq_getElem h2]
        rfl
      refine ⟨_, rfl, _, rfl, _, rfl, _, _, rfl, .inl hS, _, _, rfl, rfl, (by rw [hlen]; exact hpos), _, _, _, _, rfl, rfl, hS, hat, .inl ⟨_, rfl, ?_⟩⟩
      refine ⟨_, rfl, _, rfl, _, _, rfl, .inl hS, _, _, rfl, rfl, (by rw [hlen]; exact ⟨hpos, by omega⟩), ?_⟩
      rw [hlen]
      refine ⟨_, rfl, _, _, rfl, rfl, _, rfl, ?_⟩
      have hturn0 : 0 ≤ k / (ns.length : Int) := Int.ediv_nonneg hk0 (by omega)
      have hturn1 : k / (ns.length : Int) ≤ k := Int.ediv_le_self _ hk0
      unfold drawOf at q
      rw [if_neg hne] at q
      dsimp only at q
      by_cases hb : (1000000000000000000 : Int) ≤ ns.getD (k % (ns.length : Int)).toNat 0
      · rw [if_pos hb] at q
        rw [decide_eq_true hb]
        refine iteT ?_
        have b1 : -(2 ^ 62) ≤ (if (60 : Int) < k / (ns.length : Int) then (60 : Int) else k / (ns.length : Int)) := by split <;> omega
        have b2 : (if (60 : Int) < k / (ns.length : Int) then (60 : Int) else k / (ns.length : Int)) < 2 ^ 62 := by split <;> omega
        refine ⟨_, rfl, _, _, rfl, _, rfl, b1, b2, ?_⟩
        refine for_range (fun i σ H' => H' = H ∧ ∃ v, σ = [some (.ref a), some (.int k), some (.int (cutBy i (ns.getD (k % (ns.length : Int)).toNat 0))), some (.int (k / (ns.length : Int))), v]) ⟨rfl, none, rfl⟩ ?_ ?_
        · rintro i σ H' hi ⟨rfl, v, rfl⟩
          exact ⟨_, rfl, _, _, rfl, rfl, ⟨by decide, by decide⟩, rfl, _, rfl⟩
        · rintro σ H' ⟨rfl, v, rfl⟩
          exact ⟨_, rfl, _, _, rfl, rfl, (by show (0 : Int) < 100003; decide), q⟩
      · rw [if_neg hb] at q
        rw [decide_eq_false hb]
        refine iteF ?_
        exact ⟨_, rfl, _, _, rfl, rfl, .inr ⟨by decide, by decide⟩, _, rfl, _, _, rfl, rfl, .inr ⟨by decide, by decide⟩, _, _, rfl, rfl, _, _, rfl, rfl, _, _, rfl, rfl, (by show (0 : Int) < 2147483647; decide), _, _, rfl, rfl, .inr ⟨by decide, by decide⟩, _, _, rfl, rfl, (by show (0 : Int) < 2147483629; decide), q⟩

end
/-! # A registry's names -/
/-- the place of a value among those that were asked -/
def findD : List PyData → PyData → Option Nat
  | [], _ => none
  | x :: xs, d => if eqD x d = true then some 0 else (findD xs d).map (· + 1)
theorem findD_app (d e : PyData) : ∀ l : List PyData, findD (l ++ [d]) e = match findD l e with
    | some i => some i
    | none => if eqD d e = true then some l.length else none
  | [] => by
    simp only [List.nil_append, findD, List.length_nil]
    split <;> rfl
  | x :: xs => by
    have ih := findD_app d e xs
    simp only [List.cons_append, findD, ih]
    by_cases c : eqD x e = true
    · simp [c]
    · simp only [c]
      cases findD xs e with
      | some i => simp
      | none =>
        by_cases c2 : eqD d e = true
        · simp [c2]
        · simp [c2]
def addD (l : List PyData) (d : PyData) : List PyData := match findD l d with
  | some _ => l
  | none => l ++ [d]
def numD (l : List PyData) (d : PyData) : Nat := match findD l d with
  | some i => i + 1
  | none => l.length + 1
theorem nm1 : ¬ (("_names" : Str) = "_sealed") := by decide +kernel
theorem nm2 : ¬ (("_names" : Str) = "_pens") := by decide +kernel
theorem nm3 : ¬ (("_sealed" : Str) = "_pens") := by decide +kernel
def regF (a b c : Addr) : List (Str × V) := putF "_pens" (.ref c) (putF "_sealed" (.ref b) (putF "_names" (.ref a) []))
theorem regF_names (a b c : Addr) : (regF a b c).lookup ("_names" : Str) = some (.ref a) := by
  unfold regF
  rw [lookup_putF, if_neg nm2, lookup_putF, if_neg nm1, lookup_putF, if_pos rfl]
theorem regF_no (a b c : Addr) {m : Str} (h1 : ¬ m = "_names") (h2 : ¬ m = "_sealed") (h3 : ¬ m = "_pens") : (regF a b c).lookup m = none := by
  unfold regF
  rw [lookup_putF, if_neg h3, lookup_putF, if_neg h2, lookup_putF, if_neg h1]
  all_goals rfl
/-- a registry stands at p, its dict of names at dn; l: the values that were asked, in their order -/
structure RegAt (C : Addr) (H : Hp) (p dn : Addr) (l : List PyData) : Prop where
  ob : ∃ dx ds dp, H p = some (.ins C dx (regF dn ds dp))
  nm : ∃ kvs, H dn = some (.dK kvs) ∧ kvs.length = l.length ∧ ∀ d, okD d = true → valV kvs (.inr d.shown : L2.Key) = (findD l d).map fun i => .int ((i : Int) + 1)
structure TReg (K : PySem.W.Frag) (mg : Str → Option Value) (C fI : Addr) : Prop where
  cl : Cls K C
  nN : NoAttr K C "_names"
  nS : NoAttr K C "_sealed"
  nP : NoAttr K C "_pens"
  mg_Registry : mg "Registry" = some (.ref C)
  mk_Registry : Mk K C fI
  len : mg "len" = none
  repr : mg "repr" = none
section
variable {P : Program} {w : World} {K : PySem.W.Frag} {mg : Str → Option Value} {base : Heap}
/-- a value, its text -/
def spText (K : PySem.W.Frag) : Sp := fun vs H Q _ => ∃ v d, vs = [v] ∧ Dp K H v d ∧ okD d = true ∧ d.depth ≤ 60 ∧ (encD d).length ≤ sizeLine ∧ Q (.str d.shown) H
abbrev s_text : Stmt := top 2
theorem sc_text : FnScope ["value"] ["value"] (defScope s_text) := ⟨rfl, rfl, rfl, by decide +kernel, rfl, by decide +kernel, by decide +kernel⟩
theorem ok_text {f C fI : Addr} {fd : FuncData} (F : Fun K "_text" "_text" s_text f fd) (T : TReg K mg C fI) : Gk P w K mg base 1 f fd ["value"] (spText K) := by
  refine okG F sc_text (fun vs H Q E h => ?_) (fun cdv A outer s H vs Q E hg hr h => ?_)
  · obtain ⟨v, d, rfl, _⟩ := h
    rfl
  · obtain ⟨v, d, rfl, hd, ok, dep, len, q⟩ := h
    refine ⟨_, (pss_one (ps_ret (pe_callB (call_reprD hg hr) (by rfl) T.repr bo_repr (pa_cons (pv 0) pa_nil)))), ?_⟩
    exact ⟨_, rfl, v, d, rfl, hd, ok, dep, by rw [shown_length ok]; exact len, q⟩
def spInit (C : Addr) : Sp := fun vs H Q _ => ∃ (p dx : Addr), vs = [.ref p] ∧ H p = some (.ins C dx []) ∧
  ∀ (dn : Addr) (H' : Hp), H dn = none → RegAt C H' p dn [] → (∀ b o, H b = some o → b ≠ p → H' b = some o) → Q .non H'
abbrev s_init : Stmt := inClass (top 3) 0
theorem sc_init : FnScope ["self"] ["self"] (defScope s_init) := ⟨rfl, rfl, rfl, by decide +kernel, rfl, by decide +kernel, by decide +kernel⟩
theorem ok_init {f C fI : Addr} {fd : FuncData} (F : Fun K "__init__" "Registry.__init__" s_init f fd) (T : TReg K mg C fI) : FnOk P w K mg base CX0 1 f fd ["self"] (spInit C) := by
  refine F.ok sc_init (fun vs H Q E h => ?_) (fun cdv A outer s H vs Q E hr h => ?_)
  · obtain ⟨p, dx, rfl, _⟩ := h
    rfl
  · obtain ⟨p, dx, rfl, hp, k⟩ := h
    refine ⟨_, (pss_cons (ps_fld (pv 0) pe_dnewK rfl)
  (pss_cons (ps_fld (pv 0) pe_dnewK rfl)
  (pss_one (ps_fld (pv 0) pe_dnewK rfl)))), ?_⟩
    intro a ha
    have n1 : p ≠ a := ne_of_none hp ha
    refine ⟨_, rfl, p, C, dx, [], rfl, (by rw [upd_ne n1]; exact hp), T.cl, T.nN, (by show 0 < 1000; decide), ?_⟩
    intro b hb
    have n2 : p ≠ b := ne_of_none upd_same hb
    have n3 : b ≠ a := by
      intro z
      subst z
      rw [upd_ne n1.symm, upd_same] at hb
      cases hb
    refine ⟨_, rfl, p, C, dx, _, rfl, (by rw [upd_ne n2]; exact upd_same), T.cl, T.nS, (by show 1 < 1000; decide), ?_⟩
    intro c hc
    have n4 : p ≠ c := ne_of_none upd_same hc
    have n5 : c ≠ b := by
      intro z
      subst z
      rw [upd_ne n2.symm, upd_same] at hc
      cases hc
    have n6 : c ≠ a := by
      intro z
      subst z
      rw [upd_ne n1.symm, upd_ne n3.symm, upd_ne n1.symm, upd_same] at hc
      cases hc
    refine ⟨_, rfl, p, C, dx, _, rfl, (by rw [upd_ne n4]; exact upd_same), T.cl, T.nP, (by show 2 < 1000; decide), ?_⟩
    refine k a _ ha ⟨⟨dx, b, c, upd_same⟩, ⟨[], ?_, rfl, fun _ _ => rfl⟩⟩ fun d o e hd => ?_
    · rw [upd_ne n1.symm, upd_ne n6.symm, upd_ne n1.symm, upd_ne n3.symm, upd_ne n1.symm, upd_same]
    · have d1 : d ≠ a := ne_of_none e ha
      have e1 : (upd (upd H a (.dK [])) p (.ins C dx (putF "_names" (.ref a) []))) d = some o := by rw [upd_ne hd, upd_ne d1]; exact e
      have d2 : d ≠ b := ne_of_none e1 hb
      have e2 : (upd (upd (upd (upd H a (.dK [])) p (.ins C dx (putF "_names" (.ref a) []))) b (.dK [])) p (.ins C dx (putF "_sealed" (.ref b) (putF "_names" (.ref a) [])))) d = some o := by rw [upd_ne hd, upd_ne d2]; exact e1
      have d3 : d ≠ c := ne_of_none e2 hc
      rw [upd_ne hd, upd_ne d3]
      exact e2
def spName (K : PySem.W.Frag) (C : Addr) : Sp := fun vs H Q _ => ∃ (p dn : Addr) (l : List PyData) (v : V) (d : PyData), vs = [.ref p, v] ∧ RegAt C H p dn l ∧ okDs l = true ∧ l.length ≤ 100000 ∧ Dp K H v d ∧ okD d = true ∧ d.depth ≤ 60 ∧ (encD d).length ≤ sizeLine ∧
  ∀ H', RegAt C H' p dn (addD l d) → (∀ b o, H b = some o → b ≠ dn → H' b = some o) → KeepT H H' → Q (.int (numD l d)) H'
abbrev s_name : Stmt := inClass (top 3) 1
theorem sc_name : FnScope ["self", "value", "text"] ["self", "value"] (defScope s_name) := ⟨rfl, rfl, rfl, by decide +kernel, rfl, by decide +kernel, by decide +kernel⟩
theorem ok_name {f C fI ft : Addr} {fd fdt : FuncData} (F : Fun K "name" "Registry.name" s_name f fd) (T : TReg K mg C fI) (C_text : CalG P w K mg base "_text" 1 ft fdt ["value"] (spText K)) : Gk P w K mg base 2 f fd ["self", "value"] (spName K C) := by
  refine okG F sc_name (fun vs H Q E h => ?_) (fun cdv A outer s H vs Q E hg hr h => ?_)
  · obtain ⟨p, dn, l, v, d, rfl, _⟩ := h
    rfl
  · obtain ⟨p, dn, l, v, d, rfl, R, okl, ll, hd, ok, dep, len, k⟩ := h
    refine ⟨_, (pss_cons (ps_set (i := 2) sc_name.nd rfl (Or.inl rfl) (pe_callG hg C_text.G (hr.mono (by decide)) rfl C_text.mg C_text.kp C_text.B (pa_cons (pv 1) pa_nil)))
  (pss_cons (ps_if (pt_cmp (pc_dnotin (hu_of hr) (pv 2) (pe_fld (pv 0) rfl))) (pss_one (ps_dput (hu_of hr) (pe_fld (pv 0) rfl) (pv 2) (pe_op op_add (pe_callB call_lenD (by rfl) T.len bo_len (pa_cons (pe_fld (pv 0) rfl) pa_nil)) pe_int) rfl)) pss_nil)
  (pss_one (ps_ret (pe_dget (hu_of hr) (pe_fld (pv 0) rfl) (pv 2) (fun _ _ => rfl)))))), ?_⟩
    obtain ⟨⟨dx, ds, dp, hp⟩, ⟨kvs, hn, hk, hv⟩⟩ := id R
    have ne : p ≠ dn := ne_of hp hn (by intro z; cases z)
    refine ⟨_, rfl, v, d, rfl, hd, ok, dep, len, ?_⟩
    refine ⟨_, rfl, _, rfl, p, C, dx, _, _, rfl, hp, T.cl, T.nN, regF_names _ _ _, dn, _, rfl, DGet.k (k := Sum.inr d.shown) hn, _, rfl, ?_⟩
    have hvd := hv d ok
    cases e : findD l d with
    | some i =>
      rw [e] at hvd
      have hvd' : valV kvs (.inr d.shown : L2.Key) = some (.int ((i : Int) + 1)) := hvd
      rw [hvd']
      refine iteF ?_
      have hget : DGet H dn (.str d.shown) (some (.int ((i : Int) + 1))) := by
        have z := DGet.k (k := (Sum.inr d.shown : L2.Key)) hn
        rw [hvd'] at z
        exact z
      refine ⟨_, rfl, p, C, dx, _, _, rfl, hp, T.cl, T.nN, regF_names _ _ _, _, rfl, dn, _, rfl, hget, ?_⟩
      have e1 : addD l d = l := by unfold addD; rw [e]
      have e2 : ((numD l d : Nat) : Int) = (i : Int) + 1 := by unfold numD; rw [e]; rfl
      have z := k H (by rw [e1]; exact R) (fun b o h _ => h) (KeepT.refl H)
      rw [e2] at z
      exact z
    | none =>
      rw [e] at hvd
      have hvd' : valV kvs (.inr d.shown : L2.Key) = none := hvd
      rw [hvd']
      refine iteT ?_
      have hl : kvs.length < sizeLine := by
        have e0 : (sizeLine : Nat) = 16777216 := by decide +kernel
        omega
      have hput : DPut H dn (.str d.shown) (.int ((kvs.length : Int) + 1)) (upd H dn (.dK (putK kvs (.inr d.shown) (.int ((kvs.length : Int) + 1))))) := DPut.k (k := (Sum.inr d.shown : L2.Key)) hn hl
      refine ⟨_, rfl, p, C, dx, _, _, rfl, hp, T.cl, T.nN, regF_names _ _ _, dn, kvs, rfl, hn, _, _, rfl, rfl, _, rfl, p, C, dx, _, _, rfl, hp, T.cl, T.nN, regF_names _ _ _, _, rfl, dn, _, rfl, hput, ?_⟩
      have hp2 : (upd H dn (.dK (putK kvs (.inr d.shown) (.int ((kvs.length : Int) + 1))))) p = some (.ins C dx (regF dn ds dp)) := by rw [upd_ne ne]; exact hp
      have hget : DGet (upd H dn (.dK (putK kvs (.inr d.shown) (.int ((kvs.length : Int) + 1))))) dn (.str d.shown) (some (.int ((kvs.length : Int) + 1))) := by
        have z := DGet.k (k := (Sum.inr d.shown : L2.Key)) (H := upd H dn (.dK (putK kvs (.inr d.shown) (.int ((kvs.length : Int) + 1))))) upd_same
        rw [valV_put, if_pos rfl] at z
        exact z
      refine ⟨_, rfl, p, C, dx, _, _, rfl, hp2, T.cl, T.nN, regF_names _ _ _, _, rfl, dn, _, rfl, hget, ?_⟩
      have e1 : addD l d = l ++ [d] := by unfold addD; rw [e]
      have e2 : ((numD l d : Nat) : Int) = (kvs.length : Int) + 1 := by unfold numD; rw [e, hk]; rfl
      have z := k (upd H dn (.dK (putK kvs (.inr d.shown) (.int ((kvs.length : Int) + 1))))) ?_ (fun b o h hb => by rw [upd_ne hb]; exact h) (KeepT.dK hn)
      · rw [e2] at z
        exact z
      · rw [e1]
        refine ⟨⟨dx, ds, dp, hp2⟩, ⟨_, upd_same, ?_, fun d2 ok2 => ?_⟩⟩
        · rw [putK_new _ hvd', List.length_append, List.length_append, hk]
          rfl
        · rw [valV_put, findD_app]
          have hv2 := hv d2 ok2
          by_cases c : d2 = d
          · subst c
            have c2 : eqD d2 d2 = true := (eqD_iff d2 d2 ok).mpr rfl
            rw [if_pos rfl, e, hk]
            simp only [c2, if_true]
            rfl
          · have c1 : ¬ (Sum.inr d2.shown : L2.Key) = Sum.inr d.shown := fun z => c (shown_inj ok2 ok (Sum.inr.inj z))
            have c2 : ¬ eqD d d2 = true := fun z => c ((eqD_iff d d2 ok).mp z).symm
            rw [if_neg c1, hv2]
            cases findD l d2 with
            | some i => rfl
            | none => simp only [c2]; rfl
end
end Vk
namespace Vk
open PySem PySem.Spec PyProof.Rows L2
theorem depth_one (d : PyData) : (PyData.tuple [d]).depth = d.depth + 1 := by
  simp only [PyData.depth, PyData.depthAll]
  omega
theorem depth_two (d e : PyData) : (PyData.tuple [d, e]).depth = max d.depth e.depth + 1 := by
  simp only [PyData.depth, PyData.depthAll]
  omega
theorem okD_one {d : PyData} (h : okD d = true) : okD (.tuple [d]) = true := by simp [okD, okDs, h]
theorem okD_two {d e : PyData} (h : okD d = true) (h' : okD e = true) : okD (.tuple [d, e]) = true := by simp [okD, okDs, h, h']
section
variable {P : Program} {w : World} {K : PySem.W.Frag} {mg : Str → Option Value} {base : Heap}
def spPart (K : PySem.W.Frag) : Sp := fun vs H Q _ => ∃ n : Int, vs = [.int n] ∧ 0 ≤ n ∧ n < 2 ^ 31 ∧
  ∀ v d H', Same H H' → Dp K H' v d → okD d = true → d.depth ≤ 2 → (encD d).length ≤ 100 → Q v H'
abbrev s_part : Stmt := top 6
theorem sc_part : FnScope ["number", "size", "texts"] ["number"] (defScope s_part) := ⟨rfl, rfl, rfl, by decide +kernel, rfl, by decide +kernel, by decide +kernel⟩
theorem ok_part {f : Addr} {fd : FuncData} (F : Fun K "_law_part" "_law_part" s_part f fd) : FnOk P w K mg base CX0 1 f fd ["number"] (spPart K) := by
  refine F.ok sc_part (fun vs H Q E h => ?_) (fun cdv A outer s H vs Q E hr h => ?_)
  · obtain ⟨n, rfl, _⟩ := h
    rfl
  · obtain ⟨n, rfl, n0, n1, q⟩ := h
    refine ⟨_, (pss_cons (ps_set (i := 1) sc_part.nd rfl (Or.inl rfl) (pe_op op_fdiv (pv 0) pe_int))
  (pss_cons (ps_if (pt_cmpR op_eq (pe_op op_mod (pv 0) pe_int) pe_int (nomark _)) (pss_one (ps_ret pe_non)) pss_nil)
  (pss_cons (ps_if (pt_cmpR op_eq (pe_op op_mod (pv 0) pe_int) pe_int (nomark _)) (pss_one (ps_ret (pe_cmpR op_eq (pe_op op_mod (pv 1) pe_int) pe_int (nomark _)))) pss_nil)
  (pss_cons (ps_if (pt_cmpR op_eq (pe_op op_mod (pv 0) pe_int) pe_int (nomark _)) (pss_one (ps_ret (pe_op op_mod (pv 1) pe_int))) pss_nil)
  (pss_cons (ps_if (pt_cmpR op_eq (pe_op op_mod (pv 0) pe_int) pe_int (nomark _)) (pss_one (ps_ret (pe_op op_sub (pv 1) pe_int))) pss_nil)
  (pss_cons (ps_if (pt_cmpR op_eq (pe_op op_mod (pv 0) pe_int) pe_int (nomark _)) (pss_one (ps_ret (pe_ix ix_list (pe_lst (pa_cons (pe_op op_sub (pe_op op_pow pe_int pe_int) pe_int) (pa_cons (pe_op op_sub pe_int (pe_op op_pow pe_int pe_int)) (pa_cons (pe_op op_pow pe_int pe_int) (pa_cons pe_int pa_nil))))) (pe_op op_mod (pv 1) pe_int) (fun _ _ => rfl)))) pss_nil)
  (pss_cons (ps_if (pt_cmpR op_eq (pe_op op_mod (pv 0) pe_int) pe_int (nomark _)) (pss_cons (ps_set (i := 2) sc_part.nd rfl (Or.inl rfl) (pe_lst (pa_cons pe_str (pa_cons pe_str (pa_cons pe_str (pa_cons pe_str (pa_cons pe_str (pa_cons pe_str (pa_cons pe_str (pa_cons pe_str (pa_cons pe_str (pa_cons pe_str (pa_cons pe_str (pa_cons pe_str (pa_cons pe_str (pa_cons pe_str pa_nil))))))))))))))))
  (pss_one (ps_ret (pe_ix ix_list (pv 2) (pe_op op_mod (pv 1) pe_int) (fun _ _ => rfl))))) pss_nil)
  (pss_cons (ps_if (pt_cmpR op_eq (pe_op op_mod (pv 0) pe_int) pe_int (nomark _)) (pss_one (ps_ret (pe_ix ix_list (pe_lst (pa_cons (pe_tup pa_nil) (pa_cons (pe_tup (pa_cons pe_str (pa_cons pe_str pa_nil))) (pa_cons (pe_tup (pa_cons pe_str pa_nil)) (pa_cons (pe_tup (pa_cons pe_str (pa_cons pe_str (pa_cons pe_str pa_nil)))) pa_nil))))) (pe_op op_mod (pv 1) pe_int) (fun _ _ => rfl)))) pss_nil)
  (pss_cons (ps_if (pt_cmpR op_eq (pe_op op_mod (pv 0) pe_int) pe_int (nomark _)) (pss_one (ps_ret (pe_tup (pa_cons (pe_op op_mod (pv 1) pe_int) (pa_cons pe_non pa_nil))))) pss_nil)
  (pss_one (ps_ret (pe_tup (pa_cons (pe_tup (pa_cons (pe_cmpR op_eq (pe_op op_mod (pv 1) pe_int) pe_int (nomark _)) pa_nil)) (pa_cons pe_str pa_nil)))))))))))))), ?_⟩
    have p9 : (0 : Int) < 9 := by decide
    have p2 : (0 : Int) < 2 := by decide
    have z0 : 0 ≤ n / 9 := by omega
    have smallI : ∀ i : Int, -5000 ≤ i → i < 2 ^ 31 → okD (.int i) = true ∧ (encD (.int i)).length ≤ 20 := by
      intro i a b
      refine ⟨int_ok (k := 64) (by omega) (by decide) (by decide), ?_⟩
      have z := intL_len (i := i) (k := 19) (by decide) (by omega)
      rw [encD]
      omega
    refine ⟨_, rfl, _, _, rfl, rfl, ⟨by decide, by decide⟩, ?_⟩
    refine ⟨_, rfl, _, _, rfl, rfl, p9, rfl, _, rfl, ?_⟩
    refine ite2 (fun _ => ?_) (fun _ => ?_)
    · exact q .non .none H (Same.refl H) .non rfl (by simp [PyData.depth]) (by simp [encD])
    refine ⟨_, rfl, _, _, rfl, rfl, p9, rfl, _, rfl, ?_⟩
    refine ite2 (fun _ => ?_) (fun _ => ?_)
    · refine ⟨_, rfl, _, _, rfl, rfl, p2, rfl, ?_⟩
      refine q (.bl _) (.bool _) H (Same.refl H) (.bl _) rfl (by simp [PyData.depth]) ?_
      generalize decide (V.int (n / 9 % 2) = V.int 0) = b
      cases b <;> simp [encD]
    refine ⟨_, rfl, _, _, rfl, rfl, p9, rfl, _, rfl, ?_⟩
    refine ite2 (fun _ => ?_) (fun _ => ?_)
    · refine ⟨_, rfl, _, _, rfl, rfl, p2, ?_⟩
      have z := smallI (n / 9 % 2) (by omega) (by omega)
      exact q (.int _) (.int (n / 9 % 2)) H (Same.refl H) (.int _) z.1 (by simp [PyData.depth]) (by omega)
    refine ⟨_, rfl, _, _, rfl, rfl, p9, rfl, _, rfl, ?_⟩
    refine ite2 (fun _ => ?_) (fun _ => ?_)
    · refine ⟨_, rfl, _, _, rfl, rfl, ?_⟩
      have z := smallI (n / 9 - 5000) (by omega) (by omega)
      exact q (.int _) (.int (n / 9 - 5000)) H (Same.refl H) (.int _) z.1 (by simp [PyData.depth]) (by omega)
    refine ⟨_, rfl, _, _, rfl, rfl, p9, rfl, _, rfl, ?_⟩
    refine ite2 (fun _ => ?_) (fun _ => ?_)
    · refine ⟨_, _, rfl, rfl, ⟨by decide, by decide, by decide⟩, _, _, rfl, rfl, ?_⟩
      refine ⟨_, _, rfl, rfl, ⟨by decide, by decide, by decide⟩, _, _, rfl, rfl, ?_⟩
      refine ⟨_, _, rfl, rfl, ⟨by decide, by decide, by decide⟩, ?_⟩
      refine ⟨by show 4 ≤ sizeLine; decide, fun p hp => ?_⟩
      obtain ⟨v, hv, hm⟩ := atI_some (xs := [V.int (10 ^ (60 : Int).toNat - 1), .int (1 - 10 ^ (60 : Int).toNat), .int (10 ^ (59 : Int).toNat), .int 0]) (i := n / 9 % 4) (by omega) (by show n / 9 % 4 < 4; omega)
      have hz : ∃ i : Int, v = .int i ∧ okD (.int i) = true ∧ i.natAbs < 10 ^ 61 := by
        simp only [List.mem_cons, List.not_mem_nil, or_false] at hm
        rcases hm with h | h | h | h <;> exact ⟨_, h, by decide +kernel, by decide +kernel⟩
      obtain ⟨i, rfl, i1, i2⟩ := hz
      refine ⟨_, rfl, _, _, rfl, rfl, (by show (0 : Int) < 4; decide), p, _, _, _, rfl, rfl, SqL.of upd_same, hv, ?_⟩
      have z := intL_len (i := i) (k := 61) (by decide) i2
      exact q (.int i) (.int i) _ (same_new hp) (.int i) i1 (by simp [PyData.depth]) (by rw [encD]; omega)
    refine ⟨_, rfl, _, _, rfl, rfl, p9, rfl, _, rfl, ?_⟩
    refine ite2 (fun _ => ?_) (fun _ => ?_)
    · refine ⟨by show 14 ≤ sizeLine; decide, fun p hp => ?_⟩
      obtain ⟨v, hv, hm⟩ := atI_some (xs := [V.str "", .str "1", .str "True", .str "None", .str "()", .str "a", .str "A", .str "'", .str "','", .str "a','b", .str "',", .str "(", .str ",", .str ")"]) (i := n / 9 % 14) (by omega) (by show n / 9 % 14 < 14; omega)
      have hz : ∃ y : Str, v = .str y ∧ okS y = true ∧ (strL y).length ≤ 100 := by
        simp only [List.mem_cons, List.not_mem_nil, or_false] at hm
        rcases hm with h | h | h | h | h | h | h | h | h | h | h | h | h | h <;> exact ⟨_, h, by decide +kernel, by decide +kernel⟩
      obtain ⟨y, rfl, y1, y2⟩ := hz
      refine ⟨_, rfl, _, rfl, _, _, rfl, rfl, (by show (0 : Int) < 14; decide), p, _, _, _, rfl, rfl, SqL.of upd_same, hv, ?_⟩
      exact q (.str y) (.str y) _ (same_new hp) (.str y) (by simpa [okD] using y1) (by simp [PyData.depth]) (by rw [encD]; exact y2)
    refine ⟨_, rfl, _, _, rfl, rfl, p9, rfl, _, rfl, ?_⟩
    refine ite2 (fun _ => ?_) (fun _ => ?_)
    · refine ⟨Nat.zero_le _, fun t0 h0 => ?_⟩
      refine ⟨by show 2 ≤ sizeLine; decide, fun t1 h1 => ?_⟩
      refine ⟨by show 1 ≤ sizeLine; decide, fun t2 h2 => ?_⟩
      refine ⟨by show 3 ≤ sizeLine; decide, fun t3 h3 => ?_⟩
      refine ⟨by show 4 ≤ sizeLine; decide, fun p hp => ?_⟩
      obtain ⟨v, hv, hm⟩ := atI_some (xs := [V.ref t0, .ref t1, .ref t2, .ref t3]) (i := n / 9 % 4) (by omega) (by show n / 9 % 4 < 4; omega)
      refine ⟨_, rfl, _, _, rfl, rfl, (by show (0 : Int) < 4; decide), p, _, _, _, rfl, rfl, SqL.of upd_same, hv, ?_⟩
      have u0 := same_new (o := .tup []) h0
      have u1 := same_new (o := .tup [V.str "a", .str "b"]) h1
      have u2 := same_new (o := .tup [V.str "a','b"]) h2
      have u3 := same_new (o := .tup [V.str "a", .str "", .str "b"]) h3
      have u4 := same_new (o := .lst [V.ref t0, .ref t1, .ref t2, .ref t3]) hp
      have w3 := u3.trans u4
      have w2 := u2.trans w3
      have w1 := u1.trans w2
      have w0 := u0.trans w1
      have hz : ∃ d, Dp K (upd (upd (upd (upd (upd H t0 (.tup [])) t1 (.tup [.str "a", .str "b"])) t2 (.tup [.str "a','b"])) t3 (.tup [.str "a", .str "", .str "b"])) p (.lst [V.ref t0, .ref t1, .ref t2, .ref t3])) v d ∧ okD d = true ∧ d.depth ≤ 2 ∧ (encD d).length ≤ 100 := by
        simp only [List.mem_cons, List.not_mem_nil, or_false] at hm
        rcases hm with h | h | h | h
        · subst h
          exact ⟨.tuple [], .tup (SqT.of (w1 _ _ upd_same)) .nil, rfl, by simp [PyData.depth, PyData.depthAll], by decide +kernel⟩
        · subst h
          exact ⟨.tuple [.str "a", .str "b"], .tup (SqT.of (w2 _ _ upd_same)) (.cons (.str _) (.cons (.str _) .nil)), by decide +kernel, by simp [PyData.depth, PyData.depthAll], by decide +kernel⟩
        · subst h
          exact ⟨.tuple [.str "a','b"], .tup (SqT.of (w3 _ _ upd_same)) (.cons (.str _) .nil), by decide +kernel, by simp [PyData.depth, PyData.depthAll], by decide +kernel⟩
        · subst h
          exact ⟨.tuple [.str "a", .str "", .str "b"], .tup (SqT.of (u4 _ _ upd_same)) (.cons (.str _) (.cons (.str _) (.cons (.str _) .nil))), by decide +kernel, by simp [PyData.depth, PyData.depthAll], by decide +kernel⟩
      obtain ⟨d, d1, d2, d3, d4⟩ := hz
      exact q v d _ w0 d1 d2 d3 d4
    refine ⟨_, rfl, _, _, rfl, rfl, p9, rfl, _, rfl, ?_⟩
    refine ite2 (fun _ => ?_) (fun _ => ?_)
    · refine ⟨_, rfl, _, _, rfl, rfl, (by show (0 : Int) < 3; decide), by show 2 ≤ sizeLine; decide, fun p hp => ?_⟩
      have z := smallI (n / 9 % 3) (by omega) (by omega)
      refine q (.ref p) (.tuple [.int (n / 9 % 3), .none]) _ (same_new hp) (.tup (SqT.of upd_same) (.cons (.int _) (.cons .non .nil))) (okD_two z.1 rfl) (by rw [depth_two]; simp [PyData.depth]) ?_
      have e4 : (encD .none).length = 4 := by simp [encD]
      rw [enc_two, e4]
      omega
    refine ⟨_, rfl, _, _, rfl, rfl, p2, rfl, by show 1 ≤ sizeLine; decide, fun p hp => ?_⟩
    refine ⟨by show 2 ≤ sizeLine; decide, fun p2 hp2 => ?_⟩
    refine q (.ref p2) (.tuple [.tuple [.bool _], .str "a"]) _ ((same_new hp).trans (same_new hp2)) (.tup (SqT.of upd_same) (.cons (.tup (SqT.of (same_new hp2 _ _ upd_same)) (.cons (.bl _) .nil)) (.cons (.str _) .nil))) (okD_two (okD_one rfl) (by decide +kernel))
      (by rw [depth_two, depth_one]; simp [PyData.depth]) ?_
    rw [enc_two, enc_one]
    generalize decide (V.int (n / 9 % 2) = V.int 0) = b
    have e1 : (encD (.bool b)).length ≤ 5 := by cases b <;> simp [encD]
    have e2 : (encD (.str "a")).length ≤ 3 := by decide +kernel
    omega
def spWrapped (K : PySem.W.Frag) : Sp := fun vs H Q _ => ∃ (a : Addr) (ns : List Int) (st ct : Int) (v : V) (d : PyData), vs = [.ref a, .int st, .int ct, v] ∧ SqL K H a (ns.map V.int) ∧ ns.length ≤ 63 ∧ 0 ≤ st ∧ st ≤ 1000 ∧ 0 ≤ ct ∧ ct ≤ 100 ∧
  Dp K H v d ∧ okD d = true ∧ d.depth ≤ 2 ∧
  ∀ v' d' H', Same H H' → Dp K H' v' d' → okD d' = true → d'.depth ≤ 2 + ct.toNat → (encD d').length ≤ (encD d).length + 104 * ct.toNat → Q v' H'
abbrev s_wrapped : Stmt := top 7
theorem sc_wrapped : FnScope ["script", "start", "count", "value", "k", "number"] ["script", "start", "count", "value"] (defScope s_wrapped) := ⟨rfl, rfl, rfl, by decide +kernel, rfl, by decide +kernel, by decide +kernel⟩
theorem ok_wrapped {f fr fp : Addr} {fd fdr fdp : FuncData} (F : Fun K "_law_wrapped" "_law_wrapped" s_wrapped f fd) (T : TDraw mg) (C_draw : Cal P w K mg base "_law_draw" 1 fr fdr ["script", "k"] (spDraw K)) (C_part : Cal P w K mg base "_law_part" 1 fp fdp ["number"] (spPart K)) :
    FnOk P w K mg base CX0 2 f fd ["script", "start", "count", "value"] (spWrapped K) := by
  refine F.ok sc_wrapped (fun vs H Q E h => ?_) (fun cdv A outer s H vs Q E hr h => ?_)
  · obtain ⟨a, ns, st, ct, v, d, rfl, _⟩ := h
    rfl
  · obtain ⟨a, ns, st, ct, v, d, rfl, hS, hl, s0, s1, c0, c1, hd, ok, dep, q⟩ := h
    refine ⟨_, (pss_cons (ps_for PassesOwn.never rfl (pi_range1 rfl T.range (pa_cons (pv 2) pa_nil)) (pg_name (i := 4) sc_wrapped.nd rfl (Or.inl rfl))
  (pss_cons (ps_set (i := 5) sc_wrapped.nd rfl (Or.inl rfl) (pe_call C_draw.G (hr.mono (by decide)) rfl C_draw.mg C_draw.kp C_draw.B .nil pass0 (pa_cons (pv 0) (pa_cons (pe_op op_add (pv 1) (pv 4)) pa_nil))))
  (pss_one (ps_if (pt_cmpR op_eq (pe_op op_mod (pv 5) pe_int) pe_int (nomark _)) (pss_one (ps_set (i := 3) sc_wrapped.nd rfl (Or.inl rfl) (pe_tup (pa_cons (pv 3) pa_nil)))) (pss_one (ps_if (pt_cmpR op_eq (pe_op op_mod (pv 5) pe_int) pe_int (nomark _)) (pss_one (ps_set (i := 3) sc_wrapped.nd rfl (Or.inl rfl) (pe_tup (pa_cons (pe_call C_part.G (hr.mono (by decide)) rfl C_part.mg C_part.kp C_part.B .nil pass0 (pa_cons (pe_op op_fdiv (pv 5) pe_int) pa_nil)) (pa_cons (pv 3) pa_nil))))) (pss_one (ps_set (i := 3) sc_wrapped.nd rfl (Or.inl rfl) (pe_tup (pa_cons (pv 3) (pa_cons (pe_call C_part.G (hr.mono (by decide)) rfl C_part.mg C_part.kp C_part.B .nil pass0 (pa_cons (pe_op op_fdiv (pv 5) pe_int) pa_nil)) pa_nil)))))))))))
  (pss_one (ps_ret (pv 3)))), ?_⟩
    refine ⟨_, rfl, _, rfl, by omega, by omega, ?_⟩
    refine for_range (n := ct.toNat) (fun i σ H2 => ∃ (x1 x2 : Option V) (v2 : V) (d2 : PyData), σ = [some (.ref a), some (.int st), some (.int ct), some v2, x1, x2] ∧ Same H H2 ∧ Dp K H2 v2 d2 ∧ okD d2 = true ∧ d2.depth ≤ 2 + i ∧ (encD d2).length ≤ (encD d).length + 104 * i)
      ⟨none, none, v, d, rfl, Same.refl H, hd, ok, dep, Nat.le_refl _⟩ ?_ ?_
    · rintro i σ H2 hi ⟨x1, x2, v2, d2, rfl, sm, hd2, ok2, dep2, len2⟩
      refine ⟨_, rfl, _, rfl, _, rfl, _, _, rfl, rfl, a, ns, _, rfl, sm.seq hS, hl, by omega, by omega, ?_⟩
      have n0 := drawOf_nn ns (st + (0 + (i : Int)))
      have n1 := drawOf_lt ns (st + (0 + (i : Int)))
      refine ⟨_, rfl, _, _, rfl, rfl, (by show (0 : Int) < 3; decide), rfl, _, rfl, ?_⟩
      refine ite2 (fun _ => ?_) (fun _ => ?_)
      · refine ⟨_, rfl, by show 1 ≤ sizeLine; decide, fun p hp => ?_⟩
        refine ⟨_, _, _, .tuple [d2], rfl, sm.trans (same_new hp), .tup (SqT.of upd_same) (.cons (dp_keep (KeepT.new hp) _ _ ok2 hd2) .nil), okD_one ok2, by rw [depth_one]; omega, by rw [enc_one]; omega⟩
      refine ⟨_, rfl, _, _, rfl, rfl, (by show (0 : Int) < 3; decide), rfl, _, rfl, ?_⟩
      refine ite2 (fun _ => ?_) (fun _ => ?_)
      · refine ⟨_, rfl, _, _, rfl, rfl, ⟨by decide, by decide⟩, _, rfl, by omega, by omega, fun v3 d3 H3 sm3 hd3 ok3 dep3 len3 => ?_⟩
        refine ⟨_, rfl, by show 2 ≤ sizeLine; decide, fun p hp => ?_⟩
        have kt := KeepT.new (o := .tup [v3, v2]) hp
        refine ⟨_, _, _, .tuple [d3, d2], rfl, (sm.trans sm3).trans (same_new hp), .tup (SqT.of upd_same) (.cons (dp_keep kt _ _ ok3 hd3) (.cons (dp_keep kt _ _ ok2 (dp_keep (keepT_of sm3) _ _ ok2 hd2)) .nil)), okD_two ok3 ok2, by rw [depth_two]; omega, by rw [enc_two]; omega⟩
      · refine ⟨_, rfl, _, rfl, _, _, rfl, rfl, ⟨by decide, by decide⟩, _, rfl, by omega, by omega, fun v3 d3 H3 sm3 hd3 ok3 dep3 len3 => ?_⟩
        refine ⟨by show 2 ≤ sizeLine; decide, fun p hp => ?_⟩
        have kt := KeepT.new (o := .tup [v2, v3]) hp
        refine ⟨_, _, _, .tuple [d2, d3], rfl, (sm.trans sm3).trans (same_new hp), .tup (SqT.of upd_same) (.cons (dp_keep kt _ _ ok2 (dp_keep (keepT_of sm3) _ _ ok2 hd2)) (.cons (dp_keep kt _ _ ok3 hd3) .nil)), okD_two ok2 ok3, by rw [depth_two]; omega, by rw [enc_two]; omega⟩
    · rintro σ H2 ⟨x1, x2, v2, d2, rfl, sm, hd2, ok2, dep2, len2⟩
      exact ⟨_, rfl, q v2 d2 H2 sm hd2 ok2 dep2 len2⟩
end
end Vk
namespace Vk
open PySem PySem.Spec PyProof.Rows L2
open C8 (pss_cut tCut)
theorem joinL_big : ∀ ls : List (List Nat), 2 * ls.length ≤ (joinL ls).length + 2
  | [] => by simp
  | [x] => by simp
  | x :: y :: r => by
    have ih := joinL_big (y :: r)
    simp only [joinL, List.length_append, List.length_cons] at ih ⊢
    omega
theorem joinL_mem : ∀ (ls : List (List Nat)) (l : List Nat), l ∈ ls → l.length ≤ (joinL ls).length
  | [], _, h => by cases h
  | [x], l, h => by
    rw [List.mem_singleton.mp h]
    exact Nat.le_refl _
  | x :: y :: r, l, h => by
    have ih := joinL_mem (y :: r) l
    simp only [joinL, List.length_append, List.length_cons]
    rcases List.mem_cons.mp h with h | h
    · rw [h]
      omega
    · have := ih h
      omega
theorem encDs_at : ∀ {xs : List PyData} {i : Nat} {d : PyData}, xs[i]? = some d → encD d ∈ encDs xs
  | [], _, _, h => by simp at h
  | x :: xs, 0, d, h => by
    simp at h
    subst h
    exact List.mem_cons_self
  | x :: xs, i + 1, d, h => List.mem_cons_of_mem _ (encDs_at (i := i) (by simpa using h))
theorem enc_item {xs : List PyData} {i : Nat} {d : PyData} (h : xs[i]? = some d) : (encD d).length ≤ (encD (.tuple xs)).length := by
  have z := joinL_mem _ _ (encDs_at h)
  simp only [encD, List.length_cons, List.length_append]
  omega
theorem enc_wide (xs : List PyData) : xs.length ≤ (encD (.tuple xs)).length + 2 := by
  have z := joinL_big (encDs xs)
  rw [encDs_len] at z
  simp only [encD, List.length_cons, List.length_append]
  omega
theorem notTup {d : PyData} (h : ¬ isTupD d = true) : isTupD d = false := by
  cases e : isTupD d with
  | true => exact absurd e h
  | false => rfl
section
variable {P : Program} {w : World} {K : PySem.W.Frag} {mg : Str → Option Value} {base : Heap}
def spSame (K : PySem.W.Frag) (n : Nat) : Sp := fun vs H Q _ => ∃ v1 v2 d1 d2, vs = [v1, v2] ∧ Dp K H v1 d1 ∧ Dp K H v2 d2 ∧ okD d1 = true ∧ okD d2 = true ∧ d1.depth < n ∧ (encD d1).length ≤ 100000 ∧ Q (.bl (eqD d1 d2)) H
structure TSame (mg : Str → Option Value) : Prop where
  len : mg "len" = none
  range : mg "range" = none
  isinstance : mg "isinstance" = none
  tuple : mg "tuple" = none
  bool : mg "bool" = none
  int : mg "int" = none
abbrev s_same : Stmt := top 8
theorem sc_same : FnScope ["first", "second", "k"] ["first", "second"] (defScope s_same) := ⟨rfl, rfl, rfl, by decide +kernel, rfl, by decide +kernel, by decide +kernel⟩
theorem ok_same {f : Addr} {fd : FuncData} (F : Fun K "_law_same" "_law_same" s_same f fd) (T : TSame mg) (mgS : mg "_law_same" = some (.ref f)) (kpS : PySem.W.keepIn K (.ref f) = true) (bS : Binds K fd ["first", "second"] []) :
    ∀ n, FnOk P w K mg base CX0 n f fd ["first", "second"] (spSame K n)
  | 0 => ⟨fun vs H Q E h => by obtain ⟨v1, v2, d1, d2, rfl, _⟩ := h; rfl, fun A outer s H args us vs Q E _ _ _ _ h => by
      obtain ⟨v1, v2, d1, d2, _, _, _, _, _, dep, _⟩ := h
      exact absurd dep (Nat.not_lt_zero _)⟩
  | n + 1 => by
    have C_same : Cal P w K mg base "_law_same" n f fd ["first", "second"] (spSame K n) := ⟨ok_same F T mgS kpS bS n, mgS, kpS, bS⟩
    refine F.ok sc_same (fun vs H Q E h => ?_) (fun cdv A outer s H vs Q E hr h => ?_)
    · obtain ⟨v1, v2, d1, d2, rfl, _⟩ := h
      rfl
    · obtain ⟨v1, v2, d1, d2, rfl, h1, h2, ok1, ok2, dep, len, q⟩ := h
      refine ⟨_, (pss_cut (ps_if (PW.pt (pw_and (pt_val (pe_callB (r := rIsi K) call_isi (by rfl) T.isinstance bo_isinstance (pa_cons (pv 0) (pa_cons (pe_bltn (v := .ty "tuple") (by rfl) T.tuple (by decide +kernel) rfl) pa_nil)))) (pw_and1 (pt_val (pe_callB (r := rIsi K) call_isi (by rfl) T.isinstance bo_isinstance (pa_cons (pv 1) (pa_cons (pe_bltn (v := .ty "tuple") (by rfl) T.tuple (by decide +kernel) rfl) pa_nil))))))) (pss_cons (ps_if (pt_cmpR op_ne (pe_callB call_len_seq (by rfl) T.len bo_len (pa_cons (pv 0) pa_nil)) (pe_callB call_len_seq (by rfl) T.len bo_len (pa_cons (pv 1) pa_nil)) (nomark _)) (pss_one (ps_ret pe_bl)) pss_nil)
  (pss_cons (ps_for PassesOwn.never rfl (pi_range1 rfl T.range (pa_cons (pe_callB call_len_seq (by rfl) T.len bo_len (pa_cons (pv 0) pa_nil)) pa_nil)) (pg_name (i := 2) sc_same.nd rfl (Or.inl rfl))
  (pss_one (ps_if (pt_not (pt_val (pe_call C_same.G hr rfl C_same.mg C_same.kp C_same.B .nil pass0 (pa_cons (pe_ix ix_tup (pv 0) (pv 2) (fun _ _ => rfl)) (pa_cons (pe_ix ix_tup (pv 1) (pv 2) (fun _ _ => rfl)) pa_nil))))) (pss_one (ps_ret pe_bl)) pss_nil)))
  (pss_one (ps_ret pe_bl)))) pss_nil)
  (pss_cut (ps_if (PW.pt (pw_or (pt_val (pe_callB (r := rIsi K) call_isi (by rfl) T.isinstance bo_isinstance (pa_cons (pv 0) (pa_cons (pe_bltn (v := .ty "tuple") (by rfl) T.tuple (by decide +kernel) rfl) pa_nil)))) (pw_or1 (pt_val (pe_callB (r := rIsi K) call_isi (by rfl) T.isinstance bo_isinstance (pa_cons (pv 1) (pa_cons (pe_bltn (v := .ty "tuple") (by rfl) T.tuple (by decide +kernel) rfl) pa_nil))))))) (pss_one (ps_ret pe_bl)) pss_nil)
  (pss_cons (ps_if (PW.pt (pw_or (pt_val (pe_callB (r := rIsi K) call_isi (by rfl) T.isinstance bo_isinstance (pa_cons (pv 0) (pa_cons (pe_bltn (v := .ty "bool") (by rfl) T.bool (by decide +kernel) rfl) pa_nil)))) (pw_or1 (pt_val (pe_callB (r := rIsi K) call_isi (by rfl) T.isinstance bo_isinstance (pa_cons (pv 1) (pa_cons (pe_bltn (v := .ty "bool") (by rfl) T.bool (by decide +kernel) rfl) pa_nil))))))) (pss_one (ps_ret (pe_and (pe_callB (r := rIsi K) call_isi (by rfl) T.isinstance bo_isinstance (pa_cons (pv 0) (pa_cons (pe_bltn (v := .ty "bool") (by rfl) T.bool (by decide +kernel) rfl) pa_nil))) (pe_and (pe_callB (r := rIsi K) call_isi (by rfl) T.isinstance bo_isinstance (pa_cons (pv 1) (pa_cons (pe_bltn (v := .ty "bool") (by rfl) T.bool (by decide +kernel) rfl) pa_nil))) (pe_one (pe_cmpR op_eq (pv 0) (pv 1) (nomark _))))))) pss_nil)
  (pss_one (ps_ret (pe_cmpR op_eq (pv 0) (pv 1) (nomark _))))))), ?_⟩
      have ht1 := dp_ty h1 ok1
      have ht2 := dp_ty h2 ok2
      have hk1 := kit_tup (K := K) ok1
      have hk2 := kit_tup (K := K) ok2
      -- both are tuples
      refine ⟨fun σ H' => H' = H ∧ σ = [some v1, some v2, none] ∧ ¬ (isTupD d1 = true ∧ isTupD d2 = true), ?_, ?_⟩
      · refine ⟨_, rfl, _, _, _, _, _, rfl, .ty "tuple", ht1, hk1, _, rfl, ?_⟩
        by_cases c1 : isTupD d1 = true
        · refine ifT c1 ?_
          refine ⟨_, rfl, _, _, _, _, _, rfl, .ty "tuple", ht2, hk2, _, rfl, ?_⟩
          by_cases c2 : isTupD d2 = true
          · refine ifT c2 ?_
            cases h1 with
            | non => cases c1
            | bl b => cases c1
            | int i => cases c1
            | str x => cases c1
            | lst _ _ => simp [okD] at ok1
            | @tup a1 vs1 xs hs1 ha1 =>
            cases h2 with
            | non => cases c2
            | bl b => cases c2
            | int i => cases c2
            | str x => cases c2
            | lst _ _ => simp [okD] at ok2
            | @tup a2 vs2 ys hs2 ha2 =>
            have l1 := dp_len ha1
            have l2 := dp_len ha2
            have wide := enc_wide xs
            have okx : okDs xs = true := by simpa [okD] using ok1
            have oky : okDs ys = true := by simpa [okD] using ok2
            have qe : eqD (.tuple xs) (.tuple ys) = eqDs xs ys := by simp [eqD]
            rw [qe] at q
            refine ⟨_, rfl, _, _, rfl, .inr hs1, _, rfl, _, _, rfl, .inr hs2, rfl, _, rfl, ?_⟩
            by_cases c : xs.length = ys.length
            · refine iteNS (c := V.int (vs1.length : Int) = V.int (vs2.length : Int)) (by rw [l1, l2, c]) ?_
              refine ⟨_, rfl, _, _, rfl, .inr hs1, _, rfl, by omega, by omega, ?_⟩
              refine for_range (n := ((vs1.length : Nat) : Int).toNat) (fun i σ H' => H' = H ∧ (∃ v, σ = [some (.ref a1), some (.ref a2), v]) ∧ ∀ (j : Nat) (x y : PyData), j < i → xs[j]? = some x → ys[j]? = some y → eqD x y = true)
                ⟨rfl, ⟨none, rfl⟩, fun j x y hj => absurd hj (Nat.not_lt_zero j)⟩ ?_ ?_
              · rintro i σ H' hi ⟨rfl, ⟨v, rfl⟩, hall⟩
                have hi1 : i < xs.length := by omega
                have ex := List.getElem?_eq_getElem hi1
                have ey := List.getElem?_eq_getElem (show i < ys.length by omega)
                obtain ⟨u1, eu1, hu1⟩ := dp_at ha1 ex
                obtain ⟨u2, eu2, hu2⟩ := dp_at ha2 ey
                have oi : ((0 : Int) + (i : Int)) = ((i : Nat) : Int) := by omega
                have dpi := depth_at ex
                have leni := enc_item ex
                refine ⟨_, rfl, _, rfl, a1, vs1, _, u1, rfl, rfl, hs1, by rw [oi]; exact atI_nat eu1, _, rfl, _, rfl, a2, vs2, _, u2, rfl, rfl, hs2, by rw [oi]; exact atI_nat eu2, ?_⟩
                refine ⟨u1, u2, _, _, rfl, hu1, hu2, okDs_at okx ex, okDs_at oky ey, by simp only [PyData.depth] at dep; omega, by omega, _, rfl, ?_⟩
                cases ce : eqD xs[i] ys[i] with
                | true =>
                  refine iteF ?_
                  refine ⟨rfl, ⟨_, rfl⟩, fun j x y hj hx hy => ?_⟩
                  by_cases e : j = i
                  · subst e
                    rw [ex] at hx
                    rw [ey] at hy
                    cases hx
                    cases hy
                    exact ce
                  · exact hall j x y (by omega) hx hy
                | false =>
                  refine iteT ?_
                  have z : eqDs xs ys = false := by
                    cases e : eqDs xs ys with
                    | false => rfl
                    | true =>
                      have := (eqDs_at xs ys c).mp e i _ _ ex ey
                      rw [ce] at this
                      cases this
                  rw [z] at q
                  exact q
              · rintro σ H' ⟨rfl, ⟨v, rfl⟩, hall⟩
                have z : eqDs xs ys = true := (eqDs_at xs ys c).mpr (fun j x y hx hy => hall j x y (by have := (List.getElem?_eq_some_iff.mp hx).1; omega) hx hy)
                rw [z] at q
                exact q
            · have ne : ¬ (V.int (vs1.length : Int)) = V.int (vs2.length : Int) := fun z => by
                have := V.int.inj z
                omega
              refine ifT (by rw [decide_eq_false ne]; rfl) ?_
              rw [eqDs_len xs ys c] at q
              exact q
          · exact ifF (notTup c2) ⟨rfl, rfl, fun z => c2 z.2⟩
        · exact ifF (notTup c1) ⟨rfl, rfl, fun z => c1 z.1⟩
      -- one of them is
      rintro σ H' ⟨rfl, rfl, notBoth⟩
      refine ⟨fun σ H2 => H2 = H' ∧ σ = [some v1, some v2, none] ∧ isTupD d1 = false ∧ isTupD d2 = false, ?_, ?_⟩
      · refine ⟨_, rfl, _, _, _, _, _, rfl, .ty "tuple", ht1, hk1, _, rfl, ?_⟩
        by_cases c1 : isTupD d1 = true
        · refine ifT c1 ?_
          have c2 := notTup (d := d2) (fun z => notBoth ⟨c1, z⟩)
          have z : eqD d1 d2 = false := by
            cases d1 <;> cases d2 <;> first | rfl | (simp [isTupD] at c1 c2; done) | simp [eqD]
          rw [z] at q
          exact q
        · refine ifF (notTup c1) ?_
          refine ⟨_, rfl, _, _, _, _, _, rfl, .ty "tuple", ht2, hk2, _, rfl, ?_⟩
          by_cases c2 : isTupD d2 = true
          · refine ifT c2 ?_
            have z : eqD d1 d2 = false := by
              have c1' := notTup c1
              cases d1 <;> cases d2 <;> first | rfl | (simp [isTupD] at c1' c2; done) | simp [eqD]
            rw [z] at q
            exact q
          · exact ifF (notTup c2) ⟨rfl, rfl, notTup c1, notTup c2⟩
      rintro σ H2 ⟨rfl, rfl, n1, n2⟩
      have hb1 := kit_bool (K := K) ok1
      have hb2 := kit_bool (K := K) ok2
      refine ⟨_, rfl, _, _, _, _, _, rfl, .ty "bool", ht1, hb1, _, rfl, ?_⟩
      cases h1 with
      | lst _ _ => simp [okD] at ok1
      | tup _ _ => cases n1
      | bl b =>
        refine iteT ?_
        refine ⟨_, rfl, _, _, _, _, _, rfl, .ty "bool", ht1, hb1, _, rfl, iteT ?_⟩
        refine ⟨_, rfl, _, _, _, _, _, rfl, .ty "bool", ht2, hb2, _, rfl, ?_⟩
        cases h2 with
        | lst _ _ => simp [okD] at ok2
        | tup _ _ => cases n2
        | bl b2 =>
          refine iteT ?_
          refine ⟨_, rfl, _, rfl, rfl, ?_⟩
          have z : decide (V.bl b = V.bl b2) = eqD (.bool b) (.bool b2) := by simp [eqD]
          rw [z]
          exact q
        | non => exact iteF (by simpa [eqD] using q)
        | int i => exact iteF (by simpa [eqD] using q)
        | str x => exact iteF (by simpa [eqD] using q)
      | non =>
        refine iteF ?_
        refine ⟨_, rfl, _, _, _, _, _, rfl, .ty "bool", ht2, hb2, _, rfl, ?_⟩
        cases h2 with
        | lst _ _ => simp [okD] at ok2
        | tup _ _ => cases n2
        | bl b2 =>
          refine iteT ?_
          refine ⟨_, rfl, _, _, _, _, _, rfl, .ty "bool", ht1, hb1, _, rfl, iteF ?_⟩
          simpa [eqD] using q
        | non => exact iteF ⟨_, rfl, _, rfl, rfl, by simpa [eqD] using q⟩
        | int i => exact iteF ⟨_, rfl, _, rfl, rfl, by simpa [eqD] using q⟩
        | str x => exact iteF ⟨_, rfl, _, rfl, rfl, by simpa [eqD] using q⟩
      | int i1 =>
        refine iteF ?_
        refine ⟨_, rfl, _, _, _, _, _, rfl, .ty "bool", ht2, hb2, _, rfl, ?_⟩
        cases h2 with
        | lst _ _ => simp [okD] at ok2
        | tup _ _ => cases n2
        | bl b2 =>
          refine iteT ?_
          refine ⟨_, rfl, _, _, _, _, _, rfl, .ty "bool", ht1, hb1, _, rfl, iteF ?_⟩
          simpa [eqD] using q
        | non => exact iteF ⟨_, rfl, _, rfl, rfl, by simpa [eqD] using q⟩
        | int i => exact iteF ⟨_, rfl, _, rfl, rfl, by simpa [eqD] using q⟩
        | str x => exact iteF ⟨_, rfl, _, rfl, rfl, by simpa [eqD] using q⟩
      | str x1 =>
        refine iteF ?_
        refine ⟨_, rfl, _, _, _, _, _, rfl, .ty "bool", ht2, hb2, _, rfl, ?_⟩
        cases h2 with
        | lst _ _ => simp [okD] at ok2
        | tup _ _ => cases n2
        | bl b2 =>
          refine iteT ?_
          refine ⟨_, rfl, _, _, _, _, _, rfl, .ty "bool", ht1, hb1, _, rfl, iteF ?_⟩
          simpa [eqD] using q
        | non => exact iteF ⟨_, rfl, _, rfl, rfl, by simpa [eqD] using q⟩
        | int i => exact iteF ⟨_, rfl, _, rfl, rfl, by simpa [eqD] using q⟩
        | str x => exact iteF ⟨_, rfl, _, rfl, rfl, by simpa [eqD] using q⟩
def placeD : List PyData → PyData → Nat
  | [], _ => 0
  | x :: xs, d => if eqD x d = true then 0 else placeD xs d + 1
def spPlace (K : PySem.W.Frag) : Sp := fun vs H Q _ => ∃ (a : Addr) (us : List V) (ds : List PyData) (v : V) (d : PyData), vs = [.ref a, v] ∧ SqL K H a us ∧ DpAll K H us ds ∧ okDs ds = true ∧ ds.length ≤ 1000 ∧ (∀ e ∈ ds, e.depth ≤ 10 ∧ (encD e).length ≤ 100000) ∧ Dp K H v d ∧ okD d = true ∧
  Q (.int (placeD ds d)) H
abbrev s_place : Stmt := top 9
theorem sc_place : FnScope ["values", "value", "k"] ["values", "value"] (defScope s_place) := ⟨rfl, rfl, rfl, by decide +kernel, rfl, by decide +kernel, by decide +kernel⟩
theorem placeD_split (d : PyData) : ∀ (i : Nat) (ds : List PyData), (∀ (j : Nat) (x : PyData), j < i → ds[j]? = some x → eqD x d = false) → i ≤ ds.length → placeD ds d = i + placeD (ds.drop i) d
  | 0, ds, _, _ => by simp
  | i + 1, [], _, h => by simp at h
  | i + 1, x :: xs, hall, h => by
    have h0 := hall 0 x (Nat.succ_pos i) rfl
    have ih := placeD_split d i xs (fun j y hj hy => hall (j + 1) y (by omega) (by simpa using hy)) (by simpa using h)
    simp only [placeD, h0, List.drop_succ_cons]
    rw [if_neg Bool.false_ne_true, ih]
    omega
theorem ok_place {f fs : Addr} {fd fds : FuncData} (F : Fun K "_law_place" "_law_place" s_place f fd) (T : TSame mg) (C_same : Cal P w K mg base "_law_same" 11 fs fds ["first", "second"] (spSame K 11)) : FnOk P w K mg base CX0 12 f fd ["values", "value"] (spPlace K) := by
  refine F.ok sc_place (fun vs H Q E h => ?_) (fun cdv A outer s H vs Q E hr h => ?_)
  · obtain ⟨a, us, ds, v, d, rfl, _⟩ := h
    rfl
  · obtain ⟨a, us, ds, v, d, rfl, hS, hA, okA, la, wid, hd, ok, q⟩ := h
    have l1 := dp_len hA
    refine ⟨_, (pss_cons (ps_for PassesOwn.never rfl (pi_range1 rfl T.range (pa_cons (pe_callB call_len_seq (by rfl) T.len bo_len (pa_cons (pv 0) pa_nil)) pa_nil)) (pg_name (i := 2) sc_place.nd rfl (Or.inl rfl))
  (pss_one (ps_if (pt_val (pe_call C_same.G (hr.mono (by decide)) rfl C_same.mg C_same.kp C_same.B .nil pass0 (pa_cons (pe_ix ix_list (pv 0) (pv 2) (fun _ _ => rfl)) (pa_cons (pv 1) pa_nil)))) (pss_one (ps_ret (pv 2))) pss_nil)))
  (pss_one (ps_ret (pe_callB call_len_seq (by rfl) T.len bo_len (pa_cons (pv 0) pa_nil))))), ?_⟩
    refine ⟨_, rfl, _, _, rfl, .inl hS, _, rfl, by omega, by omega, ?_⟩
    refine for_range (n := ((us.length : Nat) : Int).toNat) (fun i σ H' => H' = H ∧ (∃ x, σ = [some (.ref a), some v, x]) ∧ ∀ (j : Nat) (x : PyData), j < i → ds[j]? = some x → eqD x d = false)
      ⟨rfl, ⟨none, rfl⟩, fun j x hj => absurd hj (Nat.not_lt_zero j)⟩ ?_ ?_
    · rintro i σ H' hi ⟨rfl, ⟨x, rfl⟩, hall⟩
      have hi1 : i < ds.length := by omega
      have ex := List.getElem?_eq_getElem hi1
      obtain ⟨u1, eu1, hu1⟩ := dp_at hA ex
      have oi : ((0 : Int) + (i : Int)) = ((i : Nat) : Int) := by omega
      have wi := wid _ (List.getElem_mem hi1)
      refine ⟨_, rfl, _, rfl, a, us, _, u1, rfl, rfl, hS, by rw [oi]; exact atI_nat eu1, _, rfl, ?_⟩
      refine ⟨u1, v, _, _, rfl, hu1, hd, okDs_at okA ex, ok, by omega, by omega, _, rfl, ?_⟩
      cases ce : eqD ds[i] d with
      | true =>
        refine iteT ?_
        have e1 := placeD_split d i ds hall (by omega)
        rw [List.drop_eq_getElem_cons hi1] at e1
        have e2 : placeD ds d = i := by
          rw [e1]
          simp only [placeD, ce, if_true]
          omega
        rw [e2] at q
        refine ⟨_, rfl, ?_⟩
        rw [oi]
        exact q
      | false =>
        refine iteF ?_
        refine ⟨rfl, ⟨_, rfl⟩, fun j y hj hy => ?_⟩
        by_cases e : j = i
        · subst e
          rw [ex] at hy
          cases hy
          exact ce
        · exact hall j y (by omega) hy
    · rintro σ H' ⟨rfl, ⟨x, rfl⟩, hall⟩
      have e1 := placeD_split d ds.length ds (fun j x hj hx => hall j x (by omega) hx) (Nat.le_refl _)
      rw [List.drop_length] at e1
      have e2 : placeD ds d = us.length := by
        rw [e1]
        simp only [placeD]
        omega
      rw [e2] at q
      exact ⟨_, rfl, _, _, rfl, .inl hS, q⟩
end
end Vk
namespace Vk
open PySem PySem.Spec PyProof.Rows L2
open C8 (pss_cut tCut)
theorem find_place (d : PyData) : ∀ l : List PyData, findD l d = if placeD l d < l.length then some (placeD l d) else none
  | [] => rfl
  | x :: xs => by
    have ih := find_place d xs
    simp only [findD, placeD, List.length_cons]
    by_cases c : eqD x d = true
    · simp [c]
    · simp only [c, ih]
      by_cases c2 : placeD xs d < xs.length
      · rw [if_pos c2, if_neg Bool.false_ne_true, if_neg Bool.false_ne_true, if_pos (by omega)]
        rfl
      · rw [if_neg c2, if_neg Bool.false_ne_true, if_neg Bool.false_ne_true, if_neg (by omega)]
        rfl
theorem place_le (d : PyData) : ∀ l : List PyData, placeD l d ≤ l.length
  | [] => Nat.le_refl _
  | x :: xs => by
    have ih := place_le d xs
    simp only [placeD, List.length_cons]
    split <;> omega
theorem num_place (l : List PyData) (d : PyData) : numD l d = placeD l d + 1 := by
  have le := place_le d l
  unfold numD
  rw [find_place]
  by_cases c : placeD l d < l.length
  · rw [if_pos c]
  · rw [if_neg c]
    show l.length + 1 = _
    omega
theorem add_place (l : List PyData) (d : PyData) : addD l d = if placeD l d = l.length then l ++ [d] else l := by
  have le := place_le d l
  unfold addD
  rw [find_place]
  by_cases c : placeD l d < l.length
  · rw [if_pos c, if_neg (by omega)]
  · rw [if_neg c, if_pos (by omega)]
/-- each at its own place -/
def NodD (l : List PyData) : Prop := ∀ (k : Nat) (x : PyData), l[k]? = some x → findD l x = some k
theorem nod_nil : NodD [] := fun k x h => by simp at h
theorem nod_add {l : List PyData} {d : PyData} (h : NodD l) (ok : okD d = true) : NodD (addD l d) := by
  unfold addD
  cases e : findD l d with
  | some i => exact h
  | none =>
    intro k x hk
    show findD (l ++ [d]) x = some k
    rw [findD_app]
    by_cases c : k < l.length
    · rw [List.getElem?_append_left c] at hk
      rw [h k x hk]
    · have hk2 := (List.getElem?_eq_some_iff.mp hk).1
      rw [List.length_append] at hk2
      have ek : k = l.length := by
        have : ([d] : List PyData).length = 1 := rfl
        omega
      subst ek
      have ex : x = d := by
        rw [List.getElem?_append_right (Nat.le_refl _)] at hk
        simpa using hk.symm
      subst ex
      rw [e]
      show (if eqD x x = true then some l.length else none) = some l.length
      rw [if_pos ((eqD_iff x x ok).mpr rfl)]
theorem add_known {l : List PyData} (h : NodD l) {k : Nat} {x : PyData} (e : l[k]? = some x) : addD l x = l ∧ numD l x = k + 1 := by
  have f := h k x e
  unfold addD numD
  rw [f]
  exact ⟨rfl, rfl⟩
theorem add_ok {l : List PyData} {d : PyData} (h : okDs l = true) (ok : okD d = true) : okDs (addD l d) = true := by
  unfold addD
  cases findD l d with
  | some i => exact h
  | none => exact okDs_app h (by simp [okDs, ok])
theorem add_len (l : List PyData) (d : PyData) : (addD l d).length ≤ l.length + 1 := by
  unfold addD
  cases findD l d with
  | some i => exact Nat.le_succ _
  | none => simp
theorem add_mem {l : List PyData} {d e : PyData} (h : e ∈ addD l d) : e ∈ l ∨ e = d := by
  unfold addD at h
  cases c : findD l d with
  | some i => rw [c] at h; exact .inl h
  | none =>
    rw [c] at h
    rcases List.mem_append.mp h with h | h
    · exact .inl h
    · exact .inr (List.mem_singleton.mp h)
def firstsD (ds : List PyData) : List PyData := ds.foldl addD []
theorem firsts_head (d : PyData) : ∀ (rest acc : List PyData), ∃ r, rest.foldl addD (d :: acc) = d :: r
  | [], acc => ⟨acc, rfl⟩
  | x :: xs, acc => by
    rw [List.foldl_cons]
    have e : ∃ acc', addD (d :: acc) x = d :: acc' := by
      unfold addD
      cases findD (d :: acc) x with
      | some i => exact ⟨acc, rfl⟩
      | none => exact ⟨acc ++ [x], rfl⟩
    obtain ⟨acc', e⟩ := e
    rw [e]
    exact firsts_head d xs acc'
theorem RegAt.keep {C : Addr} {H H' : Hp} {p dn : Addr} {l : List PyData} (R : RegAt C H p dn l) (h1 : H' p = H p) (h2 : H' dn = H dn) : RegAt C H' p dn l := by
  obtain ⟨⟨dx, ds, dp, e⟩, kvs, f, g⟩ := R
  exact ⟨⟨dx, ds, dp, h1.trans e⟩, kvs, h2.trans f, g⟩
/-- all but the dict at dn -/
def But (dn : Addr) (H H' : Hp) : Prop := ∀ b o, H b = some o → b ≠ dn → H' b = some o
theorem But.trans {dn : Addr} {H H1 H2 : Hp} (a : But dn H H1) (b : But dn H1 H2) : But dn H H2 := fun c o h n => b c o (a c o h n) n
theorem But.same {dn : Addr} {H H1 : Hp} (s : Same H H1) : But dn H H1 := fun c o h _ => s c o h
theorem sq_but {K : PySem.W.Frag} {H H' : Hp} {a dn : Addr} {us : List V} {kvs : List (L2.Key × V)} (h : SqL K H a us) (hd : H dn = some (.dK kvs)) (b : But dn H H') : SqL K H' a us := by
  rcases h with (h | ⟨o, h⟩) | h
  · exact .inl (.inl (b _ _ h (ne_of h hd (by intro z; cases z))))
  · exact .inl (.inr ⟨o, b _ _ h (ne_of h hd (by intro z; cases z))⟩)
  · exact .inr h
theorem len_lt {n : Nat} (h : n ≤ 100000) : n < sizeLine := by
  have e : (sizeLine : Nat) = 16777216 := by decide +kernel
  omega
section
variable {P : Program} {w : World} {K : PySem.W.Frag} {mg : Str → Option Value} {base : Heap}
def Wid (ds : List PyData) : Prop := ∀ e ∈ ds, e.depth ≤ 10 ∧ (encD e).length ≤ 10000
def spCounts (K : PySem.W.Frag) (C : Addr) : Sp := fun vs H Q _ => ∃ (p dn a : Addr) (us : List V) (ds : List PyData), vs = [.ref p, .ref a] ∧ RegAt C H p dn [] ∧ SqL K H a us ∧ DpAll K H us ds ∧ okDs ds = true ∧ ds.length ≤ 1000 ∧ Wid ds ∧
  ∀ H', RegAt C H' p dn (firstsD ds) → But dn H H' → KeepT H H' → Q (.bl true) H'
abbrev s_counts : Stmt := top 10
theorem sc_counts : FnScope ["registry", "values", "told", "value", "place", "name", "k"] ["registry", "values"] (defScope s_counts) := ⟨rfl, rfl, rfl, by decide +kernel, rfl, by decide +kernel, by decide +kernel⟩
theorem ok_counts {f C fp fn : Addr} {fd fdp fdn : FuncData} (F : Fun K "_law_counts" "_law_counts" s_counts f fd) (T : TSame mg) (Tint : mg "int" = none) (C_place : Cal P w K mg base "_law_place" 12 fp fdp ["values", "value"] (spPlace K)) (C_name : CalM P w K mg base C "name" 2 fn fdn ["self", "value"] (spName K C)) :
    Gk P w K mg base 13 f fd ["registry", "values"] (spCounts K C) := by
  refine okG F sc_counts (fun vs H Q E h => ?_) (fun cdv A outer s H vs Q E hg hr h => ?_)
  · obtain ⟨p, dn, a, us, ds, rfl, _⟩ := h
    rfl
  · obtain ⟨p, dn, a, us, ds, rfl, R, hS, hA, okA, la, wid, q⟩ := h
    have l1 := dp_len hA
    refine ⟨_, (pss_cons (ps_set (i := 2) sc_counts.nd rfl (Or.inl rfl) (pe_lst pa_nil))
  (pss_cons (ps_for PassesOwn.never rfl (pi_list (pv 1)) (pg_name (i := 3) sc_counts.nd rfl (Or.inl rfl))
  (pss_cons (ps_set (i := 4) sc_counts.nd rfl (Or.inl rfl) (pe_call C_place.G (hr.mono (by decide)) rfl C_place.mg C_place.kp C_place.B .nil pass0 (pa_cons (pv 2) (pa_cons (pv 3) pa_nil))))
  (pss_cut (ps_if (pt_cmpR op_eq (pv 4) (pe_callB call_len_seq (by rfl) T.len bo_len (pa_cons (pv 2) pa_nil)) (nomark _)) (pss_one (ps_expr (pe_bm PySem.F.plainAttrs_list PySem.F.slot_list_append PySem.F.type_list_append mt_append (pv 2) (pa_cons (pv 3) pa_nil)))) pss_nil)
  (pss_cons (ps_set (i := 5) sc_counts.nd rfl (Or.inl rfl) (pe_methG hg (pv 0) C_name.cl C_name.mt C_name.G (hr.mono (by decide)) C_name.B (pa_cons (pv 3) pa_nil)))
  (pss_one (ps_if (PW.pt (pw_or (pt_val (pe_callB (r := rIsi K) call_isi (by rfl) T.isinstance bo_isinstance (pa_cons (pv 5) (pa_cons (pe_bltn (v := .ty "bool") (by rfl) T.bool (by decide +kernel) rfl) pa_nil)))) (pw_or (pt_not (pt_val (pe_callB (r := rIsi K) call_isi (by rfl) T.isinstance bo_isinstance (pa_cons (pv 5) (pa_cons (pe_bltn (v := .ty "int") (by rfl) T.int (by decide +kernel) rfl) pa_nil))))) (pw_or1 (pt_cmpR op_ne (pv 5) (pe_op op_add (pv 4) pe_int) (nomark _)))))) (pss_one (ps_ret pe_bl)) pss_nil))))))
  (pss_cons (ps_for PassesOwn.never rfl (pi_range1 rfl T.range (pa_cons (pe_callB call_len_seq (by rfl) T.len bo_len (pa_cons (pv 2) pa_nil)) pa_nil)) (pg_name (i := 6) sc_counts.nd rfl (Or.inl rfl))
  (pss_one (ps_if (pt_cmpR op_ne (pe_methG hg (pv 0) C_name.cl C_name.mt C_name.G (hr.mono (by decide)) C_name.B (pa_cons (pe_ix ix_list (pv 2) (pv 6) (fun _ _ => rfl)) pa_nil)) (pe_op op_add (pv 6) pe_int) (nomark _)) (pss_one (ps_ret pe_bl)) pss_nil)))
  (pss_one (ps_ret pe_bl))))), ?_⟩
    have noName : ∀ dn ds dp : Addr, (regF dn ds dp).lookup ("name" : Str) = none := fun a b c => regF_no a b c (by decide +kernel) (by decide +kernel) (by decide +kernel)
    refine ⟨Nat.zero_le _, fun L hL => ?_⟩
    have sL : Same H (upd H L (.lst [])) := same_new hL
    obtain ⟨⟨dx, ds0, dp0, hp⟩, ⟨kvs, hn, _, _⟩⟩ := id R
    have nLp : p ≠ L := ne_of_none hp hL
    have nLn : dn ≠ L := ne_of_none hn hL
    have fst : ∀ i, i ≤ ds.length → NodD (firstsD (ds.take i)) ∧ okDs (firstsD (ds.take i)) = true ∧ (firstsD (ds.take i)).length ≤ i ∧ Wid (firstsD (ds.take i)) := by
      intro i
      induction i with
      | zero => exact fun _ => ⟨nod_nil, rfl, Nat.le_refl _, fun e h => absurd h List.not_mem_nil⟩
      | succ i ih =>
        intro hi
        obtain ⟨i1, i2, i3, i4⟩ := ih (by omega)
        have ex := List.getElem?_eq_getElem (show i < ds.length by omega)
        have e : firstsD (ds.take (i + 1)) = addD (firstsD (ds.take i)) ds[i] := by
          unfold firstsD
          rw [take_next ex, List.foldl_append]
          rfl
        have okd := okDs_at okA ex
        rw [e]
        refine ⟨nod_add i1 okd, add_ok i2 okd, ?_, fun y hy => ?_⟩
        · have := add_len (firstsD (ds.take i)) ds[i]
          omega
        · rcases add_mem hy with h | h
          · exact i4 y h
          · rw [h]
            exact wid _ (List.getElem_mem _)
    -- the values one after another
    refine ⟨_, rfl, a, rfl, ⟨us, sL.seq hS⟩, for_list (K := K) (a := a) (xs := us) (fun i σ H2 => ∃ (tus : List V) (x1 x2 x3 x4 : Option V), σ = [some (.ref p), some (.ref a), some (.ref L), x1, x2, x3, x4] ∧ But dn H H2 ∧ KeepT H H2 ∧ H2 L = some (.lst tus) ∧ DpAll K H2 tus (firstsD (ds.take i)) ∧ RegAt C H2 p dn (firstsD (ds.take i)))
      ⟨[], none, none, none, none, rfl, But.same sL, keepT_of sL, upd_same, .nil, R.keep (upd_ne nLp) (upd_ne nLn)⟩ (fun i σ H2 _ ⟨_, _, _, _, _, _, bt, _⟩ => sq_but hS hn bt) ?_ ?_⟩
    · rintro i v σ H2 hi ⟨tus, x1, x2, x3, x4, rfl, bt, kt, hL2, hT, R2⟩
      obtain ⟨d, ed, hd⟩ := dp_at' hA hi
      have hil := (List.getElem?_eq_some_iff.mp ed).1
      obtain ⟨f1, f2, f3, f4⟩ := fst i (by omega)
      have okd := okDs_at okA ed
      have widd := wid d (List.mem_of_getElem? ed)
      have hd2 := dp_keep kt _ _ okd hd
      have tl := dp_len hT
      have enext : firstsD (ds.take (i + 1)) = addD (firstsD (ds.take i)) d := by
        unfold firstsD
        rw [take_next ed, List.foldl_append]
        rfl
      -- place
      refine ⟨_, rfl, _, rfl, L, tus, _, v, d, rfl, SqL.of hL2, hT, f2, by omega, fun e he => ⟨(f4 e he).1, by have := (f4 e he).2; omega⟩, hd2, okd, ?_⟩
      -- told
      refine ⟨fun σ H3 => σ = [some (.ref p), some (.ref a), some (.ref L), some v, some (.int (placeD (firstsD (ds.take i)) d)), x3, x4] ∧ But dn H H3 ∧ KeepT H H3 ∧ (∃ tus', H3 L = some (.lst tus') ∧ DpAll K H3 tus' (addD (firstsD (ds.take i)) d)) ∧ RegAt C H3 p dn (firstsD (ds.take i)), ?_, ?_⟩
      · refine ⟨_, rfl, _, rfl, _, _, rfl, .inl (SqL.of hL2), rfl, _, rfl, ?_⟩
        by_cases c : placeD (firstsD (ds.take i)) d = (firstsD (ds.take i)).length
        · have c2 : (V.int (placeD (firstsD (ds.take i)) d : Nat)) = V.int (tus.length : Nat) := by rw [tl, c]
          refine ifT (decide_eq_true c2) ?_
          refine ⟨_, rfl, .inl ⟨rfl, _, SqL.of hL2⟩, _, rfl, L, _, _, rfl, rfl, hL2, len_lt (by omega), ?_⟩
          have k3 := KeepT.lst (o := .lst (tus ++ [v])) hL2
          obtain ⟨⟨dx2, ds2, dp2, hp2⟩, ⟨kvs2, hn2, _, _⟩⟩ := id R2
          refine ⟨rfl, fun b o e n => ?_, kt.trans k3, ⟨_, upd_same, ?_⟩, R2.keep (upd_ne (ne_of hp2 hL2 (by intro z; cases z))) (upd_ne (ne_of hn2 hL2 (by intro z; cases z)))⟩
          · rw [upd_ne (ne_of_none e hL)]
            exact bt b o e n
          · rw [add_place, if_pos c]
            exact dp_app (dp_keepAll k3 _ _ f2 hT) (.cons (dp_keep k3 _ _ okd hd2) .nil)
        · have c2 : ¬ (V.int (placeD (firstsD (ds.take i)) d : Nat)) = V.int (tus.length : Nat) := fun z => c (by have := V.int.inj z; omega)
          refine ifF (decide_eq_false c2) ?_
          refine ⟨rfl, bt, kt, ⟨tus, hL2, ?_⟩, R2⟩
          rw [add_place, if_neg c]
          exact hT
      rintro σ H3 ⟨rfl, bt3, kt3, ⟨tus', hL3, hT3⟩, R3⟩
      -- name
      obtain ⟨⟨dx3, ds3, dp3, hp3⟩, ⟨kvs3, hn3, _, _⟩⟩ := id R3
      have hd3 := dp_keep kt3 _ _ okd hd
      have len0 : (encD d).length ≤ sizeLine := Nat.le_of_lt (len_lt (by omega))
      refine ⟨_, rfl, p, dx3, _, rfl, hp3, noName _ _ _, _, rfl, p, dn, firstsD (ds.take i), v, d, rfl, R3, f2, by omega, hd3, okd, by omega, len0, fun H4 R4 bt4 kt4 => ?_⟩
      rw [num_place]
      refine ⟨_, rfl, _, _, _, _, false, rfl, .ty "bool", .base (.int _), kit_ty (by decide +kernel), _, rfl, iteF ?_⟩
      refine ⟨_, rfl, _, _, _, _, true, rfl, .ty "int", .base (.int _), kit_ty (by decide +kernel), _, rfl, iteF ?_⟩
      refine ⟨_, rfl, _, rfl, _, _, rfl, rfl, rfl, _, rfl, ?_⟩
      refine iteNS (by first | rfl | (congr 1)) ?_
      rw [enext]
      have hL4 := bt4 _ _ hL3 (ne_of hL3 hn3 (by intro z; cases z))
      exact ⟨tus', _, _, _, _, rfl, fun b o e n => bt4 b o (bt3 b o e n) n, kt3.trans kt4, hL4, dp_keepAll kt4 _ _ (add_ok f2 okd) hT3, R4⟩
    · rintro σ H2 ⟨tus, x1, x2, x3, x4, rfl, bt, kt, hL2, hT, R2⟩
      rw [l1] at hT R2
      obtain ⟨f1, f2, f3, f4⟩ := fst ds.length (Nat.le_refl _)
      rw [List.take_length] at hT R2 f1 f2 f3 f4
      have tl := dp_len hT
      refine ⟨_, rfl, _, _, rfl, .inl (SqL.of hL2), _, rfl, by omega, by omega, ?_⟩
      refine for_range (n := ((tus.length : Nat) : Int).toNat) (fun i σ H3 => ∃ (x1 x2 x3 x4 : Option V), σ = [some (.ref p), some (.ref a), some (.ref L), x1, x2, x3, x4] ∧ But dn H H3 ∧ KeepT H H3 ∧ H3 L = some (.lst tus) ∧ DpAll K H3 tus (firstsD ds) ∧ RegAt C H3 p dn (firstsD ds))
        ⟨x1, x2, x3, x4, rfl, bt, kt, hL2, hT, R2⟩ ?_ ?_
      · rintro i σ H3 hi ⟨y1, y2, y3, y4, rfl, bt3, kt3, hL3, hT3, R3⟩
        have hi1 : i < (firstsD ds).length := by omega
        have ex := List.getElem?_eq_getElem hi1
        obtain ⟨u, eu, hu⟩ := dp_at hT3 ex
        obtain ⟨⟨dx3, ds3, dp3, hp3⟩, ⟨kvs3, hn3, _, _⟩⟩ := id R3
        have okd := okDs_at f2 ex
        have widd := f4 _ (List.getElem_mem hi1)
        have oi : ((0 : Int) + (i : Int)) = ((i : Nat) : Int) := by omega
        have len0 : (encD (firstsD ds)[i]).length ≤ sizeLine := Nat.le_of_lt (len_lt (by omega))
        refine ⟨_, rfl, p, dx3, _, rfl, hp3, noName _ _ _, _, rfl, _, rfl, L, tus, _, u, rfl, rfl, SqL.of hL3, by rw [oi]; exact atI_nat eu, ?_⟩
        refine ⟨p, dn, firstsD ds, u, _, rfl, R3, f2, by omega, hu, okd, by omega, len0, fun H4 R4 bt4 kt4 => ?_⟩
        obtain ⟨k1, k2⟩ := add_known f1 ex
        rw [k1] at R4
        rw [k2]
        refine ⟨_, rfl, _, _, rfl, rfl, rfl, _, rfl, ?_⟩
        refine iteNS (by rw [oi]; rfl) ?_
        have hL4 := bt4 _ _ hL3 (ne_of hL3 hn3 (by intro z; cases z))
        exact ⟨_, _, _, _, rfl, fun b o e n => bt4 b o (bt3 b o e n) n, kt3.trans kt4, hL4, dp_keepAll kt4 _ _ f2 hT3, R4⟩
      · rintro σ H3 ⟨y1, y2, y3, y4, rfl, bt3, kt3, hL3, hT3, R3⟩
        exact q H3 R3 bt3 kt3
end
end Vk
namespace Vk
open PySem PySem.Spec PyProof.Rows L2
open C8 (pss_cut tCut)
theorem dp_rev {K : PySem.W.Frag} {H : Hp} : ∀ {xs : List V} {ds : List PyData}, DpAll K H xs ds → DpAll K H xs.reverse ds.reverse
  | _, _, .nil => .nil
  | _, _, .cons a b => by
    rw [List.reverse_cons, List.reverse_cons]
    exact dp_app (dp_rev b) (.cons a .nil)
theorem okDs_rev {ds : List PyData} (h : okDs ds = true) : okDs ds.reverse = true := okDs_all fun d hd => by
  obtain ⟨i, e⟩ := List.mem_iff_getElem?.mp (List.mem_reverse.mp hd)
  exact okDs_at h e
section
variable {P : Program} {w : World} {K : PySem.W.Frag} {mg : Str → Option Value} {base : Heap}
def spLaw (K : PySem.W.Frag) : Sp := fun vs H Q _ => ∃ (a : Addr) (ns : List Int), vs = [.ref a] ∧ SqL K H a (ns.map V.int) ∧ ns.length ≤ 63 ∧ ∀ H', Q (.bl true) H'
abbrev s_law : Stmt := top 11
theorem sc_law : FnScope ["script", "values", "k", "number", "leaf", "registry"] ["script"] (defScope s_law) := ⟨rfl, rfl, rfl, by decide +kernel, rfl, by decide +kernel, by decide +kernel⟩
theorem ok_law {f C fI fd1 fp fw fc fn : Addr} {fd fdI fdd fdp fdw fdc fdn : FuncData} (F : Fun K "law" "law" s_law f fd) (T : TReg K mg C fI) (Td : TDraw mg)
    (C_draw : Cal P w K mg base "_law_draw" 1 fd1 fdd ["script", "k"] (spDraw K)) (C_part : Cal P w K mg base "_law_part" 1 fp fdp ["number"] (spPart K)) (C_wrapped : Cal P w K mg base "_law_wrapped" 2 fw fdw ["script", "start", "count", "value"] (spWrapped K))
    (C_counts : CalG P w K mg base "_law_counts" 13 fc fdc ["registry", "values"] (spCounts K C)) (C_name : CalM P w K mg base C "name" 2 fn fdn ["self", "value"] (spName K C))
    (G_init : FnOk P w K mg base CX0 1 fI fdI ["self"] (spInit C)) (B_init : Binds K fdI ["self"] []) : Gk P w K mg base 14 f fd ["script"] (spLaw K) := by
  refine okG F sc_law (fun vs H Q E h => ?_) (fun cdv A outer s H vs Q E hg hr h => ?_)
  · obtain ⟨a, ns, rfl, _⟩ := h
    rfl
  · obtain ⟨a, ns, rfl, hS, hl, q⟩ := h
    have hr1 : Room 1 _ := hr.mono (by decide)
    refine ⟨_, (pss_cons (ps_set (i := 1) sc_law.nd rfl (Or.inl rfl) (pe_lst pa_nil))
  (pss_cut (ps_for PassesOwn.never rfl (pi_range1 rfl Td.range (pa_cons (pe_op op_add pe_int (pe_op op_mod (pe_call C_draw.G (hr.mono (by decide)) rfl C_draw.mg C_draw.kp C_draw.B .nil pass0 (pa_cons (pv 0) (pa_cons pe_int pa_nil))) pe_int)) pa_nil)) (pg_name (i := 2) sc_law.nd rfl (Or.inl rfl))
  (pss_cons (ps_set (i := 3) sc_law.nd rfl (Or.inl rfl) (pe_call C_draw.G (hr.mono (by decide)) rfl C_draw.mg C_draw.kp C_draw.B .nil pass0 (pa_cons (pv 0) (pa_cons (pe_op op_add pe_int (pe_op op_mul pe_int (pv 2))) pa_nil))))
  (pss_cons (ps_set (i := 4) sc_law.nd rfl (Or.inl rfl) (pe_call C_part.G (hr.mono (by decide)) rfl C_part.mg C_part.kp C_part.B .nil pass0 (pa_cons (pe_op op_mod (pv 3) pe_int) pa_nil)))
  (pss_one (ps_expr (pe_bm PySem.F.plainAttrs_list PySem.F.slot_list_append PySem.F.type_list_append mt_append (pv 1) (pa_cons (pe_call C_wrapped.G (hr.mono (by decide)) rfl C_wrapped.mg C_wrapped.kp C_wrapped.B .nil pass0 (pa_cons (pv 0) (pa_cons (pe_op op_add pe_int (pe_op op_mul pe_int (pv 2))) (pa_cons (pe_op op_mod (pe_op op_fdiv (pv 3) pe_int) pe_int) (pa_cons (pv 4) pa_nil))))) pa_nil)))))))
  (pss_cut (ps_set (i := 5) sc_law.nd rfl (Or.inl rfl) (pe_make0 T.mk_Registry G_init (hr.mono (by decide)) rfl T.mg_Registry B_init .nil pass0))
  (pss_cut (ps_if (pt_not (pt_val (pe_callG hg C_counts.G (hr.mono (by decide)) rfl C_counts.mg C_counts.kp C_counts.B (pa_cons (pv 5) (pa_cons (pv 1) pa_nil))))) (pss_one (ps_ret pe_bl)) pss_nil)
  (pss_one (ps_ret (pe_and (pe_callG hg C_counts.G (hr.mono (by decide)) rfl C_counts.mg C_counts.kp C_counts.B (pa_cons (pe_make0 T.mk_Registry G_init (hr.mono (by decide)) rfl T.mg_Registry B_init .nil pass0) (pa_cons (pe_revL (pv 1)) pa_nil))) (pe_one (pe_cmpR op_eq (pe_methG hg (pv 5) C_name.cl C_name.mt C_name.G (hr.mono (by decide)) C_name.B (pa_cons (pe_ix ix_list (pv 1) pe_int (fun _ _ => rfl)) pa_nil)) pe_int (nomark _)))))))))), ?_⟩
    refine ⟨Nat.zero_le _, fun L hL => ?_⟩
    have sL : Same H (upd H L (.lst [])) := same_new hL
    -- the values
    refine ⟨fun σ H2 => ∃ (us : List V) (ds : List PyData) (x2 x3 x4 : Option V), σ = [some (.ref a), some (.ref L), x2, x3, x4, none] ∧ Same H H2 ∧ H2 L = some (.lst us) ∧ DpAll K H2 us ds ∧ okDs ds = true ∧ 1 ≤ ds.length ∧ ds.length ≤ 40 ∧ Wid ds, ?_, ?_⟩
    · refine ⟨_, rfl, a, ns, _, rfl, sL.seq hS, hl, by omega, by omega, ?_⟩
      refine ⟨_, _, rfl, rfl, (by show (0 : Int) < 40; decide), _, _, rfl, rfl, _, rfl, by omega, by omega, ?_⟩
      refine for_range (n := (1 + drawOf ns 0 % 40).toNat) (fun i σ H2 => ∃ (us : List V) (ds : List PyData) (x2 x3 x4 : Option V), σ = [some (.ref a), some (.ref L), x2, x3, x4, none] ∧ Same H H2 ∧ H2 L = some (.lst us) ∧ DpAll K H2 us ds ∧ okDs ds = true ∧ ds.length = i ∧ Wid ds)
        ⟨[], [], none, none, none, rfl, sL, upd_same, .nil, rfl, rfl, fun e h => absurd h List.not_mem_nil⟩ ?_ ?_
      · rintro i σ H2 hi ⟨us, ds, x2, x3, x4, rfl, sm, hL2, hA, okA, la, wid⟩
        refine ⟨_, rfl, _, rfl, _, _, rfl, rfl, .inl ⟨by decide, by decide⟩, _, _, rfl, rfl, a, ns, _, rfl, sm.seq hS, hl, by omega, by omega, ?_⟩
        have n0 := drawOf_nn ns (1 + 5 * (0 + (i : Int)))
        have n1 := drawOf_lt ns (1 + 5 * (0 + (i : Int)))
        refine ⟨_, rfl, _, _, rfl, rfl, (by show (0 : Int) < 130; decide), _, rfl, by omega, by omega, fun v1 d1 H3 sm3 hd1 ok1 dep1 len1 => ?_⟩
        have sm13 := sm.trans sm3
        have hL3 := sm3 _ _ hL2
        refine ⟨_, rfl, .inl ⟨rfl, _, SqL.of hL3⟩, ?_⟩
        refine ⟨_, rfl, _, rfl, _, _, rfl, rfl, .inl ⟨by decide, by decide⟩, _, _, rfl, rfl, _, rfl, _, _, rfl, rfl, ⟨by decide, by decide⟩, _, _, rfl, rfl, (by show (0 : Int) < 4; decide), _, rfl, ?_⟩
        refine ⟨a, ns, _, _, v1, d1, rfl, sm13.seq hS, hl, by omega, by omega, by omega, by omega, hd1, ok1, dep1, fun v2 d2 H4 sm4 hd2 ok2 dep2 len2 => ?_⟩
        have hL4 := sm4 _ _ hL3
        have lu := dp_len hA
        refine ⟨L, _, _, rfl, rfl, hL4, len_lt (by omega), ?_⟩
        have kl := KeepT.lst (o := .lst (us ++ [v2])) hL4
        refine ⟨_, ds ++ [d2], _, _, _, rfl, fun b o e => ?_, upd_same, ?_, okDs_app okA (by simp [okDs, ok2]), by rw [List.length_append, la]; rfl, fun e he => ?_⟩
        · rw [upd_ne (ne_of_none e hL)]
          exact sm4 b o (sm13 b o e)
        · exact dp_app (dp_keepAll kl _ _ okA (dp_keepAll (keepT_of (sm3.trans sm4)) _ _ okA hA)) (.cons (dp_keep kl _ _ ok2 hd2) .nil)
        · rcases List.mem_append.mp he with h | h
          · exact wid e h
          · rw [List.mem_singleton.mp h]
            have m4 : (drawOf ns (1 + 5 * (0 + (i : Int))) / 130 % 4).toNat ≤ 3 := by omega
            have m5 : 104 * (drawOf ns (1 + 5 * (0 + (i : Int))) / 130 % 4).toNat ≤ 104 * 3 := Nat.mul_le_mul_left _ m4
            constructor <;> omega
      · rintro σ H2 ⟨us, ds, x2, x3, x4, rfl, sm, hL2, hA, okA, la, wid⟩
        exact ⟨us, ds, _, _, _, rfl, sm, hL2, hA, okA, by omega, by omega, wid⟩
    rintro σ H2 ⟨us, ds, x2, x3, x4, rfl, sm, hL2, hA, okA, la1, la2, wid⟩
    -- registry = Registry()
    refine ⟨fun σ H3 => ∃ (p dn : Addr), σ = [some (.ref a), some (.ref L), x2, x3, x4, some (.ref p)] ∧ Same H2 H3 ∧ RegAt C H3 p dn [], ?_, ?_⟩
    · intro x dx nx ndx nex
      refine ⟨x, dx, rfl, upd_same, fun dn H3 fdn R kp => ⟨rfl, x, dn, rfl, fun b o e => ?_, R⟩⟩
      refine kp b o ?_ (ne_of_none e nx)
      rw [upd_ne (ne_of_none e nx), upd_ne (ne_of_none e ndx)]
      exact e
    rintro σ H3 ⟨p, dn, rfl, sm3, R3⟩
    have hL3 := sm3 _ _ hL2
    have hA3 := dp_keepAll (keepT_of sm3) _ _ okA hA
    -- counts
    refine ⟨fun σ H4 => σ = [some (.ref a), some (.ref L), x2, x3, x4, some (.ref p)] ∧ But dn H3 H4 ∧ KeepT H3 H4 ∧ RegAt C H4 p dn (firstsD ds), ?_, ?_⟩
    · refine ⟨_, rfl, _, rfl, p, dn, L, us, ds, rfl, R3, SqL.of hL3, hA3, okA, by omega, wid, fun H4 R4 bt4 kt4 => ?_⟩
      exact ⟨_, rfl, iteF ⟨rfl, bt4, kt4, R4⟩⟩
    rintro σ H4 ⟨rfl, bt4, kt4, R4⟩
    obtain ⟨⟨dx4, ds4, dp4, hp4⟩, ⟨kvs4, hn4, _, _⟩⟩ := id R4
    have hn3 : ∃ kvs, H3 dn = some (.dK kvs) := by
      obtain ⟨_, ⟨kvs, h, _⟩⟩ := R3
      exact ⟨kvs, h⟩
    obtain ⟨kvs3, hn3⟩ := hn3
    have hL4 := bt4 _ _ hL3 (ne_of hL3 hn3 (by intro z; cases z))
    have hA4 := dp_keepAll kt4 _ _ okA hA3
    -- the second registry, the values reversed
    intro x dx nx ndx nex
    refine ⟨x, dx, rfl, upd_same, fun dn2 H5 fdn2 R5 kp5 => ⟨rfl, ?_⟩⟩
    have sm5 : Same H4 H5 := fun b o e => by
      refine kp5 b o ?_ (ne_of_none e nx)
      rw [upd_ne (ne_of_none e nx), upd_ne (ne_of_none e ndx)]
      exact e
    have hL5 := sm5 _ _ hL4
    have hA5 := dp_keepAll (keepT_of sm5) _ _ okA hA4
    refine ⟨_, rfl, L, us, rfl, SqL.of hL5, fun L2 hL2' => ?_⟩
    have s6 := same_new (o := .lst us.reverse) hL2'
    obtain ⟨⟨dx5, ds5, dp5, hp5⟩, ⟨kvs5, hn5, _, _⟩⟩ := id R5
    have R6 := R5.keep (H' := upd H5 L2 (.lst us.reverse)) (upd_ne (ne_of_none hp5 hL2')) (upd_ne (ne_of_none hn5 hL2'))
    refine ⟨x, dn2, L2, us.reverse, ds.reverse, rfl, R6, SqL.of upd_same, dp_rev (dp_keepAll (keepT_of s6) _ _ okA hA5), okDs_rev okA, by rw [List.length_reverse]; omega, fun e he => wid e (List.mem_reverse.mp he), fun H7 R7 bt7 kt7 => ?_⟩
    refine ⟨_, rfl, iteT ?_⟩
    -- registry.name(values[0]) == 1
    have f46 : ∀ b o, H4 b = some o → H7 b = some o := fun b o e => by
      have e5 := sm5 b o e
      refine bt7 b o (s6 b o e5) ?_
      intro z
      subst z
      have : (upd (upd H4 dx (.own x)) x (.ins C dx [])) b = none := fdn2
      rw [upd_ne (ne_of_none e nx), upd_ne (ne_of_none e ndx), e] at this
      cases this
    have hp7 := f46 _ _ hp4
    have hL7 := f46 _ _ hL4
    have R8 : RegAt C H7 p dn (firstsD ds) := R4.keep (hp7.trans hp4.symm) ((f46 _ _ hn4).trans hn4.symm)
    have hA7 : DpAll K H7 us ds := dp_keepAll (kt7) _ _ okA (dp_keepAll (keepT_of s6) _ _ okA hA5)
    cases ds with
    | nil => simp at la1
    | cons d0 dr =>
      have okd : okD d0 = true := okDs_at (i := 0) okA rfl
      obtain ⟨u0, eu, hu⟩ := dp_at (i := 0) hA7 rfl
      have widd := wid d0 List.mem_cons_self
      have hfst : ∃ r, firstsD (d0 :: dr) = d0 :: r := firsts_head d0 dr []
      obtain ⟨r, hfst⟩ := hfst
      have len0 : (encD d0).length ≤ sizeLine := Nat.le_of_lt (len_lt (by omega))
      have okF : okDs (firstsD (d0 :: dr)) = true ∧ (firstsD (d0 :: dr)).length ≤ (d0 :: dr).length := by
        have gen : ∀ (l acc : List PyData), okDs l = true → okDs acc = true → okDs (l.foldl addD acc) = true ∧ (l.foldl addD acc).length ≤ acc.length + l.length := by
          intro l
          induction l with
          | nil => exact fun acc _ h => ⟨h, Nat.le_refl _⟩
          | cons y ys ih =>
            intro acc h1 h2
            have h1' : okD y = true ∧ okDs ys = true := by simpa [okDs] using h1
            obtain ⟨i1, i2⟩ := ih (addD acc y) h1'.2 (add_ok h2 h1'.1)
            have i3 := add_len acc y
            exact ⟨i1, by rw [List.foldl_cons, List.length_cons]; omega⟩
        have z := gen (d0 :: dr) [] okA rfl
        exact ⟨z.1, by have := z.2; rw [List.length_nil, Nat.zero_add] at this; exact this⟩
      have noName : (regF dn ds4 dp4).lookup ("name" : Str) = none := regF_no _ _ _ (by decide +kernel) (by decide +kernel) (by decide +kernel)
      refine ⟨_, rfl, p, dx4, _, rfl, hp7, noName, _, rfl, L, us, _, u0, rfl, rfl, SqL.of hL7, atI_nat (j := 0) eu, ?_⟩
      refine ⟨p, dn, firstsD (d0 :: dr), u0, d0, rfl, R8, okF.1, by omega, hu, okd, by omega, len0, fun H9 R9 bt9 kt9 => ?_⟩
      have e1 : numD (firstsD (d0 :: dr)) d0 = 1 := by
        rw [hfst]
        unfold numD findD
        rw [if_pos ((eqD_iff d0 d0 okd).mpr rfl)]
      rw [e1]
      exact ⟨rfl, q H9⟩
end
end Vk
namespace Vk
open PySem PySem.Spec PyProof.Rows L2
theorem all_mk {l : PySem.W.OpenLaw} {w : World} {K : PySem.W.Frag} {h : Heap} {mg : Str → Option Value} {fa ft fi fn fd fp fw fs fl fc fx C : Addr} (X : K.In h) (G : h.Ns mainGlobals mg) (hfa : mg "law" = some (.ref fa))
    {odt ant odi ani odn ann odd and odp anp odw anw ods ans odl anl odc anc odx anx : Option Addr} {slt sli sln sld slp slw sls sll slc slx : Array (Option Value)}
    {oct kVt dct pmt cdt ctt oci kVi dci pmi cdi cti ocn kVn dcn pmn cdn ctn ocd kVd dcd pmd cdd ctd ocp kVp dcp pmp cdp ctp ocw kVw dcw pmw cdw ctw ocs kVs dcs pms cds cts ocl kVl dcl pml cdl ctl occ kVc dcc pmc cdc ctc ocx kVx dcx pmx cdx ctx : Value}
    (at_ : PySem.W.nsIn K mainGlobals "_text" = some (some (.ref ft)))
    (lt : K.lookup ft = some ⟨oct, odt, .func (PySem.W.fnOf "_text" "_text" (defArgs s_text) (defBody s_text) (defScope s_text) .none kVt dct pmt ant cdt ctt), slt⟩)
    (ct : PySem.W.codeIn K cdt "_text" = true) (kt : PySem.W.keepIn K (.ref ft) = true)
    (ai : PySem.W.findIn K (.ref C) "__init__" = some (some (.ref fi))) (ii : PySem.W.isFn K (.ref fi) = true)
    (li : K.lookup fi = some ⟨oci, odi, .func (PySem.W.fnOf "__init__" "Registry.__init__" (defArgs s_init) (defBody s_init) (defScope s_init) .none kVi dci pmi ani cdi cti), sli⟩)
    (ci : PySem.W.codeIn K cdi "Registry.__init__" = true) (ki : PySem.W.keepIn K (.ref fi) = true)
    (an_ : PySem.W.findIn K (.ref C) "name" = some (some (.ref fn))) (in_ : PySem.W.isFn K (.ref fn) = true)
    (ln : K.lookup fn = some ⟨ocn, odn, .func (PySem.W.fnOf "name" "Registry.name" (defArgs s_name) (defBody s_name) (defScope s_name) .none kVn dcn pmn ann cdn ctn), sln⟩)
    (cn : PySem.W.codeIn K cdn "Registry.name" = true) (kn : PySem.W.keepIn K (.ref fn) = true)
    (ad : PySem.W.nsIn K mainGlobals "_law_draw" = some (some (.ref fd)))
    (ld : K.lookup fd = some ⟨ocd, odd, .func (PySem.W.fnOf "_law_draw" "_law_draw" (defArgs sDraw) (defBody sDraw) (defScope sDraw) .none kVd dcd pmd and cdd ctd), sld⟩)
    (cd : PySem.W.codeIn K cdd "_law_draw" = true) (kd : PySem.W.keepIn K (.ref fd) = true)
    (ap : PySem.W.nsIn K mainGlobals "_law_part" = some (some (.ref fp)))
    (lp : K.lookup fp = some ⟨ocp, odp, .func (PySem.W.fnOf "_law_part" "_law_part" (defArgs s_part) (defBody s_part) (defScope s_part) .none kVp dcp pmp anp cdp ctp), slp⟩)
    (cp : PySem.W.codeIn K cdp "_law_part" = true) (kp : PySem.W.keepIn K (.ref fp) = true)
    (aw : PySem.W.nsIn K mainGlobals "_law_wrapped" = some (some (.ref fw)))
    (lw : K.lookup fw = some ⟨ocw, odw, .func (PySem.W.fnOf "_law_wrapped" "_law_wrapped" (defArgs s_wrapped) (defBody s_wrapped) (defScope s_wrapped) .none kVw dcw pmw anw cdw ctw), slw⟩)
    (cw : PySem.W.codeIn K cdw "_law_wrapped" = true) (kw : PySem.W.keepIn K (.ref fw) = true)
    (as : PySem.W.nsIn K mainGlobals "_law_same" = some (some (.ref fs)))
    (ls : K.lookup fs = some ⟨ocs, ods, .func (PySem.W.fnOf "_law_same" "_law_same" (defArgs s_same) (defBody s_same) (defScope s_same) .none kVs dcs pms ans cds cts), sls⟩)
    (cs : PySem.W.codeIn K cds "_law_same" = true) (ks : PySem.W.keepIn K (.ref fs) = true)
    (al : PySem.W.nsIn K mainGlobals "_law_place" = some (some (.ref fl)))
    (ll : K.lookup fl = some ⟨ocl, odl, .func (PySem.W.fnOf "_law_place" "_law_place" (defArgs s_place) (defBody s_place) (defScope s_place) .none kVl dcl pml anl cdl ctl), sll⟩)
    (cl : PySem.W.codeIn K cdl "_law_place" = true) (kl : PySem.W.keepIn K (.ref fl) = true)
    (ac : PySem.W.nsIn K mainGlobals "_law_counts" = some (some (.ref fc)))
    (lc : K.lookup fc = some ⟨occ, odc, .func (PySem.W.fnOf "_law_counts" "_law_counts" (defArgs s_counts) (defBody s_counts) (defScope s_counts) .none kVc dcc pmc anc cdc ctc), slc⟩)
    (cc : PySem.W.codeIn K cdc "_law_counts" = true) (kc : PySem.W.keepIn K (.ref fc) = true)
    (ax : PySem.W.nsIn K mainGlobals "law" = some (some (.ref fx)))
    (lx : K.lookup fx = some ⟨ocx, odx, .func (PySem.W.fnOf "law" "law" (defArgs s_law) (defBody s_law) (defScope s_law) .none kVx dcx pmx anx cdx ctx), slx⟩)
    (cx : PySem.W.codeIn K cdx "law" = true) (kx : PySem.W.keepIn K (.ref fx) = true)
    (aC : PySem.W.nsIn K mainGlobals "Registry" = some (some (.ref C)))
    (pgC : PySem.W.plainGet K C Str.empty = true) (hdC : PySem.W.hasDictIn K C = true) (poC : PySem.W.plainOver K C = true) (saC : PySem.W.findIn K (.ref C) "__setattr__" = some (some (.builtin "object.__setattr__"))) (mkC : PySem.W.makesIn K C = true) (kcC : PySem.W.keepIn K (.ref C) = true)
    (nN : PySem.W.findIn K (.ref C) "_names" = some none)
    (nS : PySem.W.findIn K (.ref C) "_sealed" = some none)
    (nP : PySem.W.findIn K (.ref C) "_pens" = some none)
    (z_len : PySem.W.nsIn K mainGlobals "len" = some none)
    (z_int : PySem.W.nsIn K mainGlobals "int" = some none)
    (z_min : PySem.W.nsIn K mainGlobals "min" = some none)
    (z_range : PySem.W.nsIn K mainGlobals "range" = some none)
    (z_isinstance : PySem.W.nsIn K mainGlobals "isinstance" = some none)
    (z_tuple : PySem.W.nsIn K mainGlobals "tuple" = some none)
    (z_bool : PySem.W.nsIn K mainGlobals "bool" = some none)
    (z_repr : PySem.W.nsIn K mainGlobals "repr" = some none)
    : ∃ fd : FuncData, (∀ (s : Shared) (v : Value), BindsTo s fd ⟨[v], []⟩ [("script", v)]) ∧ ∀ base : Heap, K.In base → base.Ns mainGlobals mg → Gk l.prog w K mg base 14 fa fd ["script"] (spLaw K) := by
  have e := hfa.symm.trans (PySem.W.mg_of X G ax)
  cases e
  have Ft := fun_mk (st := s_text) lt ct kt
  have bt := Ft.binds (ps := ["value"]) fun _ _ _ _ _ _ us hl => match us, hl with | [_], _ => rfl
  have Fi := fun_mk (st := s_init) li ci ki
  have bi := Fi.binds (ps := ["self"]) fun _ _ _ _ _ _ us hl => match us, hl with | [_], _ => rfl
  have Fn := fun_mk (st := s_name) ln cn kn
  have bn := Fn.binds (ps := ["self", "value"]) fun _ _ _ _ _ _ us hl => match us, hl with | [_, _], _ => rfl
  have Fd := fun_mk (st := sDraw) ld cd kd
  have bd := Fd.binds (ps := ["script", "k"]) fun _ _ _ _ _ _ us hl => match us, hl with | [_, _], _ => rfl
  have Fp := fun_mk (st := s_part) lp cp kp
  have bp := Fp.binds (ps := ["number"]) fun _ _ _ _ _ _ us hl => match us, hl with | [_], _ => rfl
  have Fw := fun_mk (st := s_wrapped) lw cw kw
  have bw := Fw.binds (ps := ["script", "start", "count", "value"]) fun _ _ _ _ _ _ us hl => match us, hl with | [_, _, _, _], _ => rfl
  have Fs := fun_mk (st := s_same) ls cs ks
  have bs := Fs.binds (ps := ["first", "second"]) fun _ _ _ _ _ _ us hl => match us, hl with | [_, _], _ => rfl
  have Fl := fun_mk (st := s_place) ll cl kl
  have bl := Fl.binds (ps := ["values", "value"]) fun _ _ _ _ _ _ us hl => match us, hl with | [_, _], _ => rfl
  have Fc := fun_mk (st := s_counts) lc cc kc
  have bc := Fc.binds (ps := ["registry", "values"]) fun _ _ _ _ _ _ us hl => match us, hl with | [_, _], _ => rfl
  have Fx := fun_mk (st := s_law) lx cx kx
  refine ⟨PySem.W.fnOf "law" "law" (defArgs s_law) (defBody s_law) (defScope s_law) .none kVx dcx pmx anx cdx ctx, fun s v => .of_eq rfl, fun base _ _ => ?_⟩
  have T : TReg K mg C fi := ⟨⟨pgC, hdC, poC, saC⟩, nN, nS, nP, PySem.W.mg_of X G aC, ⟨mkC, ai, ii, kcC⟩, PySem.W.mg_none_of X G z_len, PySem.W.mg_none_of X G z_repr⟩
  have Td : TDraw mg := ⟨T.len, PySem.W.mg_none_of X G z_int, PySem.W.mg_none_of X G z_min, PySem.W.mg_none_of X G z_range⟩
  have Ts : TSame mg := ⟨T.len, Td.range, PySem.W.mg_none_of X G z_isinstance, PySem.W.mg_none_of X G z_tuple, PySem.W.mg_none_of X G z_bool, Td.int⟩
  have Cd : Cal l.prog w K mg base "_law_draw" 1 fd _ ["script", "k"] (spDraw K) := ⟨ok_draw Fd Td, PySem.W.mg_of X G ad, kd, bd⟩
  have Cp : Cal l.prog w K mg base "_law_part" 1 fp _ ["number"] (spPart K) := ⟨ok_part Fp, PySem.W.mg_of X G ap, kp, bp⟩
  have Cw : Cal l.prog w K mg base "_law_wrapped" 2 fw _ ["script", "start", "count", "value"] (spWrapped K) := ⟨ok_wrapped Fw Td Cd Cp, PySem.W.mg_of X G aw, kw, bw⟩
  have Cs : Cal l.prog w K mg base "_law_same" 11 fs _ ["first", "second"] (spSame K 11) := ⟨ok_same Fs Ts (PySem.W.mg_of X G as) ks bs 11, PySem.W.mg_of X G as, ks, bs⟩
  have Cl : Cal l.prog w K mg base "_law_place" 12 fl _ ["values", "value"] (spPlace K) := ⟨ok_place Fl Ts Cs, PySem.W.mg_of X G al, kl, bl⟩
  have Ct : CalG l.prog w K mg base "_text" 1 ft _ ["value"] (spText K) := ⟨ok_text Ft T, PySem.W.mg_of X G at_, kt, bt⟩
  have Cn : CalM l.prog w K mg base C "name" 2 fn _ ["self", "value"] (spName K C) := ⟨ok_name Fn T Ct, T.cl, ⟨an_, in_, kn⟩, bn⟩
  have Cc : CalG l.prog w K mg base "_law_counts" 13 fc _ ["registry", "values"] (spCounts K C) := ⟨ok_counts Fc Ts Td.int Cl Cn, PySem.W.mg_of X G ac, kc, bc⟩
  exact ok_law Fx T Td Cd Cp Cw Cc Cn (ok_init Fi T) bi
theorem walk {l : PySem.W.OpenLaw} {q : Program} {loose : List Str} {XP : (Str → Option Value) → Heap → Prop} {YP : World → Heap → Prop} {d : DefRec} {K : Params → PySem.W.Frag} (hn : l.most = some 63) (hdf : d.params.defaults = [])
    (hY : ∀ (w : World) (h : Heap), YP w h → (K w.params).In h)
    (F : ∀ (w : World) (mg : Str → Option Value) (fa : Addr) (h : Heap), (K w.params).In h → h.Ns mainGlobals mg → mg d.name = some (.ref fa) →
      ∃ fd : FuncData, (∀ (s : Shared) (u : Value), BindsTo s fd ⟨[u], []⟩ [("script", u)]) ∧ ∀ base : Heap, (K w.params).In base → base.Ns mainGlobals mg → Gk l.prog w (K w.params) mg base 14 fa fd ["script"] (spLaw (K w.params))) :
    PySem.W.WalkO q loose XP YP l.row.toRowW d [] (fun f vs => PySem.call f vs) :=
  walkG (n := 63) (k := 14) (x := "script") (sp := fun w => spLaw (K w.params)) hn (by decide) hdf ⟨rfl, by decide, by decide⟩ hY F (fun _ _ a ns hl _ hS => ⟨a, ns, rfl, hS, hl, fun _ => rfl⟩)
end Vk
open PySem PySem.W PyProof.Rows
set_option maxRecDepth 100000 in
set_option maxHeartbeats 0 in
theorem PySem.Challenge.cw_trothbase_k02_names_holds : PySem.Challenge.rw_trothbase_k02_names.Holds := by
  w_on; o_law; k_head; (case hw => w_witness2)
  k_fill
  refine Vk.walk (l := PySem.Challenge.rw_trothbase_k02_names) rfl rfl (fun w h Y => PySem.W.kIn_of Y) ?F
  case F =>
    intro w mg fa h KX G hmg
    refine' Vk.all_mk KX G hmg ?at_ ?lt ?ct ?kt ?ai ?ii ?li ?ci ?ki ?an_ ?in_ ?ln ?cn ?kn ?ad ?ld ?cd ?kd ?ap ?lp ?cp ?kp ?aw ?lw ?cw ?kw ?as ?ls ?cs ?ks ?al ?ll ?cl ?kl ?ac ?lc ?cc ?kc ?ax ?lx ?cx ?kx ?aC ?pgC ?hdC ?poC ?saC ?mkC ?kcC ?nN ?nS ?nP ?z_len ?z_int ?z_min ?z_range ?z_isinstance ?z_tuple ?z_bool ?z_repr
    (case aC => k_is)
    (case at_ => k_is)
    (case lt => k_is)
    (case ct => k_is)
    (case kt => k_is)
    (case ai => k_is)
    (case ii => k_is)
    (case li => k_is)
    (case ci => k_is)
    (case ki => k_is)
    (case an_ => k_is)
    (case in_ => k_is)
    (case ln => k_is)
    (case cn => k_is)
    (case kn => k_is)
    (case ad => k_is)
    (case ld => k_is)
    (case cd => k_is)
    (case kd => k_is)
    (case ap => k_is)
    (case lp => k_is)
    (case cp => k_is)
    (case kp => k_is)
    (case aw => k_is)
    (case lw => k_is)
    (case cw => k_is)
    (case kw => k_is)
    (case as => k_is)
    (case ls => k_is)
    (case cs => k_is)
    (case ks => k_is)
    (case al => k_is)
    (case ll => k_is)
    (case cl => k_is)
    (case kl => k_is)
    (case ac => k_is)
    (case lc => k_is)
    (case cc => k_is)
    (case kc => k_is)
    (case ax => k_is)
    (case lx => k_is)
    (case cx => k_is)
    (case kx => k_is)
    (case pgC => k_is)
    (case hdC => k_is)
    (case poC => k_is)
    (case saC => k_is)
    (case mkC => k_is)
    (case kcC => k_is)
    (case nN => k_is)
    (case nS => k_is)
    (case nP => k_is)
    (case z_len => k_is)
    (case z_int => k_is)
    (case z_min => k_is)
    (case z_range => k_is)
    (case z_isinstance => k_is)
    (case z_tuple => k_is)
    (case z_bool => k_is)
    (case z_repr => k_is)
#print axioms PySem.Challenge.cw_trothbase_k02_names_holds
