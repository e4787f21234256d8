import PyProof.Rows.All
import Wide.All
import OpenK.AllK
import Wide.FinOn
import PyProof.ReprReads
import PyProof.Rows.StrIntSpec
import HandS.Base
import HandS.Call
import HandS.List
import HandS.Dict
import HandS.Ends
import HandS.Words
import HandS.WordsList
import HandS.WordsDict
import PyProof.ReprRoads
import HandS.IsInst
import HandS.Exc
import HandS.Comp
import HandS.Codes
import HandS.ExcOwn
import HandS.ExcIs
import HandS.RaiseMore
import HandS.WordsExc
import HandS.FStr
import PySem.Challenge.RW_trothbase_k03_seals
set_option Elab.async false
set_option maxRecDepth 100000
set_option maxHeartbeats 4000000
namespace Vk
open PySem
/-! # The text of a plain value tells the value: no two have one text -/
/-! ## integers -/
def intL (i : Int) : List Nat := (Str.ofString (toString i)).cps.toList
theorem ofString_codes (x : String) : (Str.ofString x).cps.toList = x.toList.map Char.toNat := by
  simp [Str.ofString_eq_toList]
theorem codes_inj : ∀ {a b : List Char}, a.map Char.toNat = b.map Char.toNat → a = b
  | [], [], _ => rfl
  | [], _ :: _, h => by cases h
  | _ :: _, [], h => by cases h
  | x :: a, y :: b, h => by
    injection h with h1 h2
    have e : x = y := Char.ext (UInt32.toNat_inj.mp h1)
    rw [e, codes_inj h2]
theorem intL_inj {i j : Int} (h : intL i = intL j) : i = j := by
  unfold intL at h
  rw [ofString_codes, ofString_codes] at h
  have e := codes_inj h
  have e2 : toString i = toString j := String.ext e
  exact Int.repr_inj.mp e2
theorem digits_are (m : Nat) : ∀ c ∈ (Nat.toDigits 10 m).map Char.toNat, 48 ≤ c ∧ c ≤ 57 := by
  intro c hc
  obtain ⟨d, hd, rfl⟩ := List.mem_map.mp hc
  have z := Nat.isDigit_of_mem_toDigits (b := 10) (by decide) (by decide) hd
  simp only [Char.isDigit, Bool.and_eq_true, decide_eq_true_eq, UInt32.le_iff_toNat_le] at z
  exact z
theorem intL_mem (i : Int) : ∀ c ∈ intL i, c = 45 ∨ (48 ≤ c ∧ c ≤ 57) := by
  intro c hc
  cases i with
  | ofNat m =>
    unfold intL at hc
    rw [PyProof.Rows.text_ofNat] at hc
    exact .inr (digits_are m c (by simpa using hc))
  | negSucc m =>
    have e : intL (Int.negSucc m) = 45 :: (Nat.toDigits 10 (m + 1)).map Char.toNat := by
      unfold intL
      rw [ofString_codes]
      show ("-" ++ Nat.repr (m + 1)).toList.map Char.toNat = _
      rw [String.toList_append, List.map_append]
      show [45] ++ (Nat.repr (m + 1)).toList.map Char.toNat = _
      have e2 : (Nat.repr (m + 1)).toList = Nat.toDigits 10 (m + 1) := by
        unfold Nat.repr
        exact String.toList_ofList
      rw [e2]
      rfl
    rw [e] at hc
    rcases List.mem_cons.mp hc with h | h
    · exact .inl h
    · exact .inr (digits_are _ c h)
theorem intL_ne (i : Int) : intL i ≠ [] := by
  intro h
  have e : toString i = "" := by
    unfold intL at h
    rw [ofString_codes] at h
    exact String.ext (List.map_eq_nil_iff.mp h)
  cases i with
  | ofNat m =>
    have len := Nat.length_toDigits_pos (b := 10) (n := m)
    have e2 : Nat.repr m = "" := e
    have e3 : (Nat.repr m).toList = Nat.toDigits 10 m := by
      unfold Nat.repr
      exact String.toList_ofList
    rw [e2] at e3
    rw [← e3] at len
    exact absurd len (by decide)
  | negSucc m =>
    have e2 : "-" ++ Nat.repr (m + 1) = "" := e
    have e3 := congrArg String.toList e2
    rw [String.toList_append] at e3
    cases e3
/-! ## texts -/
/-- signs from the space to ~ -/
def okS (x : Str) : Bool := x.cps.all fun c => decide (32 ≤ c) && decide (c ≤ 126)
theorem okS_mem {x : Str} (h : okS x = true) : ∀ c ∈ x.cps.toList, 32 ≤ c ∧ c ≤ 126 := by
  intro c hc
  unfold okS at h
  rw [Array.all_eq_true'] at h
  have z := h c (Array.mem_toList_iff.mp hc)
  simpa using z
theorem print_ascii : ∀ c : Nat, c < 127 → 32 ≤ c → Unicode.isPrintable c = true := by
  have z : (List.range 127).all (fun c => !decide (32 ≤ c) || Unicode.isPrintable c) = true := by decide +kernel
  intro c h1 h2
  have y := List.all_eq_true.mp z c (List.mem_range.mpr h1)
  simpa [h2] using y
theorem repr_ascii {q c : Nat} (h1 : 32 ≤ c) (h2 : c ≤ 126) : Builtin.Str.reprChar q c = if c = q ∨ c = 92 then [92, c] else [c] := by
  unfold Builtin.Str.reprChar
  by_cases h : c = q ∨ c = 92
  · rw [if_pos h]
    have e : (c == q || c == 92) = true := by
      rcases h with h | h <;> simp [h]
    simp only [e, if_true]
  · rw [if_neg h]
    have e : (c == q || c == 92) = false := by
      simp only [Bool.or_eq_false_iff, beq_eq_false_iff_ne]
      exact ⟨fun z => h (.inl z), fun z => h (.inr z)⟩
    have e1 : (c == 10) = false := beq_eq_false_iff_ne.mpr (by omega)
    have e2 : (c == 13) = false := beq_eq_false_iff_ne.mpr (by omega)
    have e3 : (c == 9) = false := beq_eq_false_iff_ne.mpr (by omega)
    simp [e, e1, e2, e3, print_ascii c (by omega) h1]
def body (q : Nat) : List Nat → List Nat
  | [] => []
  | c :: r => (if c = q ∨ c = 92 then [92, c] else [c]) ++ body q r
theorem body_inj (q : Nat) (hq : q ≠ 92) : ∀ (a b r1 r2 : List Nat), body q a ++ q :: r1 = body q b ++ q :: r2 → a = b ∧ r1 = r2
  | [], [], r1, r2, h => ⟨rfl, by injection h⟩
  | [], c :: b, r1, r2, h => by
    exfalso
    simp only [body] at h
    split at h
    · injection h with h1 _
      exact hq h1
    · rename_i n
      injection h with h1 _
      exact n (.inl h1.symm)
  | c :: a, [], r1, r2, h => by
    exfalso
    simp only [body] at h
    split at h
    · injection h with h1 _
      exact hq h1.symm
    · rename_i n
      injection h with h1 _
      exact n (.inl h1)
  | c :: a, d :: b, r1, r2, h => by
    simp only [body] at h
    split at h <;> split at h
    · simp only [List.cons_append, List.nil_append, List.append_assoc] at h
      injection h with _ h
      injection h with h1 h
      obtain ⟨e1, e2⟩ := body_inj q hq a b r1 r2 h
      exact ⟨by rw [h1, e1], e2⟩
    · rename_i n
      simp only [List.cons_append, List.nil_append] at h
      injection h with h1 _
      exact absurd (.inr h1.symm) n
    · rename_i n _
      simp only [List.cons_append, List.nil_append] at h
      injection h with h1 _
      exact absurd (.inr h1) n
    · simp only [List.cons_append, List.nil_append, List.append_assoc] at h
      injection h with h1 h
      obtain ⟨e1, e2⟩ := body_inj q hq a b r1 r2 h
      exact ⟨by rw [h1, e1], e2⟩
def strL (x : Str) : List Nat := (reprText x).cps.toList
theorem foldl_codes (q : Nat) : ∀ (l : List Nat) (acc : Array Nat), (∀ c ∈ l, 32 ≤ c ∧ c ≤ 126) → (l.foldl (fun out c => out ++ (Builtin.Str.reprChar q c).toArray) acc).toList = acc.toList ++ body q l
  | [], acc, _ => by simp [body]
  | c :: l, acc, h => by
    obtain ⟨h1, h2⟩ := h c List.mem_cons_self
    rw [List.foldl_cons, foldl_codes q l _ (fun d hd => h d (List.mem_cons_of_mem _ hd)), repr_ascii h1 h2]
    simp [body]
theorem quote_is (x : Str) : reprQuote x = 34 ∨ reprQuote x = 39 := by
  unfold reprQuote
  split
  · exact .inl rfl
  · exact .inr rfl
theorem strL_eq {x : Str} (h : okS x = true) : strL x = reprQuote x :: (body (reprQuote x) x.cps.toList ++ [reprQuote x]) := by
  unfold strL reprText
  rw [Array.toList_push, ← Array.foldl_toList, foldl_codes _ _ _ (okS_mem h)]
  simp
theorem strL_inj {x y : Str} (hx : okS x = true) (hy : okS y = true) {r1 r2 : List Nat} (h : strL x ++ r1 = strL y ++ r2) : x = y ∧ r1 = r2 := by
  rw [strL_eq hx, strL_eq hy] at h
  simp only [List.cons_append, List.append_assoc, List.nil_append] at h
  injection h with hq h
  rw [← hq] at h
  obtain ⟨e1, e2⟩ := body_inj (reprQuote x) (by rcases quote_is x with e | e <;> rw [e] <;> decide) _ _ _ _ h
  refine ⟨?_, e2⟩
  cases x
  cases y
  congr
  exact Array.toList_inj.mp e1
end Vk
namespace Vk
open PySem
/-! ## whole values -/
mutual
/-- plain, of signs that are written as they are, of integers that are not too long -/
def okD : PyData → Bool
  | .none => true
  | .bool _ => true
  | .int i => decide (i.natAbs.log2 < 1920)
  | .str x => okS x
  | .tuple xs => okDs xs
  | .list _ => false
  | .dict _ => false
def okDs : List PyData → Bool
  | [] => true
  | x :: xs => okD x && okDs xs
end
def joinL : List (List Nat) → List Nat
  | [] => []
  | [x] => x
  | x :: y :: r => x ++ (44 :: 32 :: joinL (y :: r))
def closeL (n : Nat) : List Nat := if n = 1 then [44, 41] else [41]
mutual
def encD : PyData → List Nat
  | .none => [78, 111, 110, 101]
  | .bool true => [84, 114, 117, 101]
  | .bool false => [70, 97, 108, 115, 101]
  | .int i => intL i
  | .str x => strL x
  | .tuple xs => 40 :: (joinL (encDs xs) ++ closeL xs.length)
  | .list _ => []
  | .dict _ => []
def encDs : List PyData → List (List Nat)
  | [] => []
  | x :: xs => encD x :: encDs xs
end
theorem app_codes (a b : Str) : (a ++ b).cps.toList = a.cps.toList ++ b.cps.toList := by
  show (a.cps ++ b.cps).toList = _
  simp
theorem join_codes (f : PyData → List Nat) : ∀ ts : List Str, (Str.join ", " ts).cps.toList = joinL (ts.map fun t => t.cps.toList)
  | [] => rfl
  | [x] => rfl
  | x :: y :: r => by
    have ih := join_codes f (y :: r)
    show (x ++ ", " ++ Str.join ", " (y :: r)).cps.toList = _
    rw [app_codes, app_codes, ih, ofString_codes]
    simp [joinL]
theorem encDs_len : ∀ xs : List PyData, (encDs xs).length = xs.length
  | [] => rfl
  | x :: xs => by simp [encDs, encDs_len xs]
theorem shownAll_len : ∀ xs : List PyData, (PyData.shownAll xs).length = xs.length
  | [] => rfl
  | x :: xs => by simp [PyData.shownAll, shownAll_len xs]
mutual
theorem shown_codes : ∀ d : PyData, okD d = true → (PyData.shown d).cps.toList = encD d
  | .none, _ => by rw [PyData.shown, encD]; decide +kernel
  | .bool true, _ => by rw [PyData.shown, encD]; decide +kernel
  | .bool false, _ => by rw [PyData.shown, encD]; decide +kernel
  | .int i, _ => by rw [PyData.shown, encD]; rfl
  | .str x, _ => by rw [PyData.shown, encD]; rfl
  | .tuple xs, h => by
    have h' : okDs xs = true := by simpa [okD] using h
    rw [PyData.shown, encD]
    unfold tupleText
    rw [app_codes, app_codes, join_codes encD, shown_codesAll xs h', shownAll_len]
    by_cases e : xs.length = 1
    · simp only [e, closeL, if_true, beq_self_eq_true]
      rw [ofString_codes, ofString_codes]
      simp
    · have e2 : (xs.length == 1) = false := beq_eq_false_iff_ne.mpr e
      simp only [e, e2, closeL, if_false, Bool.false_eq_true]
      rw [ofString_codes, ofString_codes]
      simp
  | .list _, h => by simp [okD] at h
  | .dict _, h => by simp [okD] at h
theorem shown_codesAll : ∀ xs : List PyData, okDs xs = true → (PyData.shownAll xs).map (fun t => t.cps.toList) = encDs xs
  | [], _ => rfl
  | x :: xs, h => by
    have h' : okD x = true ∧ okDs xs = true := by simpa [okDs] using h
    simp only [PyData.shownAll, List.map_cons, encDs, shown_codes x h'.1, shown_codesAll xs h'.2]
end
/-- the kind of a value, by its first sign -/
def kindOf (c : Nat) : Nat := if c = 78 then 0 else if c = 84 ∨ c = 70 then 1 else if c = 34 ∨ c = 39 then 3 else if c = 40 then 4 else 2
def kindD : PyData → Nat
  | .none => 0
  | .bool _ => 1
  | .int _ => 2
  | .str _ => 3
  | .tuple _ => 4
  | .list _ => 5
  | .dict _ => 5
theorem first_sign : ∀ d : PyData, okD d = true → ∃ c t, encD d = c :: t ∧ kindOf c = kindD d ∧ c ≠ 41 ∧ c ≠ 44
  | .none, _ => ⟨78, [111, 110, 101], rfl, rfl, by decide, by decide⟩
  | .bool true, _ => ⟨84, _, rfl, rfl, by decide, by decide⟩
  | .bool false, _ => ⟨70, _, rfl, rfl, by decide, by decide⟩
  | .int i, _ => by
    have m := intL_mem i
    cases e : intL i with
    | nil => exact absurd e (intL_ne i)
    | cons c t =>
      have z := m c (by rw [e]; exact List.mem_cons_self)
      refine ⟨c, t, by rw [encD]; exact e, ?_, by omega, by omega⟩
      show kindOf c = 2
      unfold kindOf
      rw [if_neg (by omega), if_neg (by omega), if_neg (by omega), if_neg (by omega)]
  | .str x, h => by
    have e := strL_eq (x := x) h
    refine ⟨reprQuote x, _, by rw [encD]; exact e, ?_, ?_, ?_⟩
    · rcases quote_is x with z | z <;> rw [z] <;> rfl
    · rcases quote_is x with z | z <;> rw [z] <;> decide
    · rcases quote_is x with z | z <;> rw [z] <;> decide
  | .tuple xs, _ => ⟨40, _, by rw [encD], rfl, by decide, by decide⟩
  | .list _, h => by simp [okD] at h
  | .dict _, h => by simp [okD] at h
def Stop (r : List Nat) : Prop := r = [] ∨ ∃ c t, r = c :: t ∧ (c = 41 ∨ c = 44)
/-- two rows of signs, each behind it a stop: cut at the first stop -/
theorem cut_stop : ∀ (a b r1 r2 : List Nat), (∀ c ∈ a, c ≠ 41 ∧ c ≠ 44) → (∀ c ∈ b, c ≠ 41 ∧ c ≠ 44) → Stop r1 → Stop r2 → a ++ r1 = b ++ r2 → a = b ∧ r1 = r2
  | [], [], _, _, _, _, _, _, h => ⟨rfl, h⟩
  | [], d :: b, r1, r2, _, hb, s1, _, h => by
    exfalso
    have z := hb d List.mem_cons_self
    rcases s1 with rfl | ⟨c, t, rfl, hc⟩
    · cases h
    · injection h with h1 _
      omega
  | c :: a, [], r1, r2, ha, _, _, s2, h => by
    exfalso
    have z := ha c List.mem_cons_self
    rcases s2 with rfl | ⟨d, t, rfl, hc⟩
    · cases h
    · injection h with h1 _
      omega
  | c :: a, d :: b, r1, r2, ha, hb, s1, s2, h => by
    injection h with h1 h
    obtain ⟨e1, e2⟩ := cut_stop a b r1 r2 (fun x hx => ha x (List.mem_cons_of_mem _ hx)) (fun x hx => hb x (List.mem_cons_of_mem _ hx)) s1 s2 h
    exact ⟨by rw [h1, e1], e2⟩
theorem close_stop (n : Nat) (r : List Nat) : Stop (closeL n ++ r) := by
  unfold closeL
  split
  · exact .inr ⟨44, _, rfl, .inr rfl⟩
  · exact .inr ⟨41, _, rfl, .inl rfl⟩
theorem kind_same {d e : PyData} (hd : okD d = true) (he : okD e = true) {r1 r2 : List Nat} (h : encD d ++ r1 = encD e ++ r2) : kindD d = kindD e := by
  obtain ⟨c, t, e1, k1, _⟩ := first_sign d hd
  obtain ⟨c', t', e2, k2, _⟩ := first_sign e he
  rw [e1, e2] at h
  injection h with h1 _
  rw [← k1, ← k2, h1]
mutual
theorem enc_inj : ∀ (d e : PyData) (r1 r2 : List Nat), okD d = true → okD e = true → Stop r1 → Stop r2 → encD d ++ r1 = encD e ++ r2 → d = e ∧ r1 = r2
  | .none, e, r1, r2, hd, he, s1, s2, h => by
    have k := kind_same hd he h
    cases e with
    | none => exact ⟨rfl, List.append_cancel_left h⟩
    | _ => simp [kindD] at k
  | .bool b, e, r1, r2, hd, he, s1, s2, h => by
    have k := kind_same hd he h
    cases e with
    | bool b' =>
      cases b <;> cases b'
      · exact ⟨rfl, List.append_cancel_left h⟩
      · simp [encD] at h
      · simp [encD] at h
      · exact ⟨rfl, List.append_cancel_left h⟩
    | _ => simp [kindD] at k
  | .int i, e, r1, r2, hd, he, s1, s2, h => by
    have k := kind_same hd he h
    cases e with
    | int j =>
      rw [encD, encD] at h
      obtain ⟨e1, e2⟩ := cut_stop _ _ _ _ (fun c hc => by have z := intL_mem i c hc; omega) (fun c hc => by have z := intL_mem j c hc; omega) s1 s2 h
      exact ⟨by rw [intL_inj e1], e2⟩
    | _ => simp [kindD] at k
  | .str x, e, r1, r2, hd, he, s1, s2, h => by
    have k := kind_same hd he h
    cases e with
    | str y =>
      rw [encD, encD] at h
      obtain ⟨e1, e2⟩ := strL_inj (x := x) (y := y) (by simpa [okD] using hd) (by simpa [okD] using he) h
      exact ⟨by rw [e1], e2⟩
    | _ => simp [kindD] at k
  | .tuple xs, e, r1, r2, hd, he, s1, s2, h => by
    have k := kind_same hd he h
    cases e with
    | tuple ys =>
      rw [encD, encD] at h
      simp only [List.cons_append, List.append_assoc] at h
      injection h with _ h
      have hx : okDs xs = true := by simpa [okD] using hd
      have hy : okDs ys = true := by simpa [okD] using he
      cases xs with
      | nil =>
        cases ys with
        | nil => exact ⟨rfl, List.append_cancel_left h⟩
        | cons y ys =>
          exfalso
          have hy' : okD y = true := by simp [okDs] at hy; exact hy.1
          obtain ⟨c, t, e1, _, n1, n2⟩ := first_sign y hy'
          have e2 : ∃ t', joinL (encDs (y :: ys)) = c :: t' := by
            cases ys with
            | nil => exact ⟨t, e1⟩
            | cons z zs => exact ⟨_, by simp only [encDs, joinL, e1]; rfl⟩
          obtain ⟨t', e2⟩ := e2
          rw [e2] at h
          injection h with h1 _
          exact n1 h1.symm
      | cons x xs =>
        cases ys with
        | nil =>
          exfalso
          have hx' : okD x = true := by simp [okDs] at hx; exact hx.1
          obtain ⟨c, t, e1, _, n1, n2⟩ := first_sign x hx'
          have e2 : ∃ t', joinL (encDs (x :: xs)) = c :: t' := by
            cases xs with
            | nil => exact ⟨t, e1⟩
            | cons z zs => exact ⟨_, by simp only [encDs, joinL, e1]; rfl⟩
          obtain ⟨t', e2⟩ := e2
          rw [e2] at h
          injection h with h1 _
          exact n1 h1
        | cons y ys =>
          obtain ⟨e1, e2⟩ := enc_injs (x :: xs) y ys _ _ r1 r2 hx hy h
          exact ⟨by rw [e1], e2⟩
    | _ => simp [kindD] at k
  | .list _, _, _, _, h, _, _, _, _ => by simp [okD] at h
  | .dict _, _, _, _, h, _, _, _, _ => by simp [okD] at h
theorem enc_injs : ∀ (l : List PyData) (y : PyData) (ys : List PyData) (n m : Nat) (r1 r2 : List Nat), okDs l = true → okDs (y :: ys) = true →
    joinL (encDs l) ++ (closeL n ++ r1) = joinL (encDs (y :: ys)) ++ (closeL m ++ r2) → l = y :: ys ∧ r1 = r2
  | [], y, ys, n, m, r1, r2, _, hy, h => by
    exfalso
    have hy' : okD y = true := by simp [okDs] at hy; exact hy.1
    obtain ⟨c, t, e1, _, n1, n2⟩ := first_sign y hy'
    have e2 : ∃ t', joinL (encDs (y :: ys)) = c :: t' := by
      cases ys with
      | nil => exact ⟨t, e1⟩
      | cons z zs => exact ⟨_, by simp only [encDs, joinL, e1]; rfl⟩
    obtain ⟨t', e2⟩ := e2
    rw [e2] at h
    simp only [encDs, joinL, List.nil_append] at h
    unfold closeL at h
    split at h <;> (injection h with h1 _; omega)
  | [x], y, ys, n, m, r1, r2, hx, hy, h => by
    have hx' : okD x = true := by simp [okDs] at hx; exact hx
    have hy' : okD y = true := by simp [okDs] at hy; exact hy.1
    cases ys with
    | nil =>
      simp only [encDs, joinL] at h
      obtain ⟨e1, e2⟩ := enc_inj x y _ _ hx' hy' (close_stop n r1) (close_stop m r2) h
      refine ⟨by rw [e1], ?_⟩
      unfold closeL at e2
      split at e2 <;> split at e2
      · simpa using e2
      · injection e2 with z _; cases z
      · injection e2 with z _; cases z
      · simpa using e2
    | cons z zs =>
      exfalso
      simp only [encDs, joinL, List.append_assoc, List.cons_append] at h
      obtain ⟨e1, e2⟩ := enc_inj x y _ _ hx' hy' (close_stop n r1) (.inr ⟨44, _, rfl, .inr rfl⟩) h
      unfold closeL at e2
      split at e2
      · injection e2 with _ z
        injection z with z _
        cases z
      · injection e2 with z _
        cases z
  | x :: x2 :: l, y, ys, n, m, r1, r2, hx, hy, h => by
    have hx' : okD x = true ∧ okDs (x2 :: l) = true := by
      have z : (okD x && okDs (x2 :: l)) = true := by rw [okDs] at hx; exact hx
      exact Bool.and_eq_true_iff.mp z
    have hy' : okD y = true := by simp [okDs] at hy; exact hy.1
    cases ys with
    | nil =>
      exfalso
      simp only [encDs, joinL, List.append_assoc, List.cons_append] at h
      obtain ⟨e1, e2⟩ := enc_inj x y _ _ hx'.1 hy' (.inr ⟨44, _, rfl, .inr rfl⟩) (close_stop m r2) h
      rcases (show closeL m = [44, 41] ∨ closeL m = [41] by unfold closeL; split <;> simp) with cm | cm
      · rw [cm] at e2
        injection e2 with _ z
        injection z with z _
        cases z
      · rw [cm] at e2
        injection e2 with z _
        cases z
    | cons z zs =>
      have hz : okDs (z :: zs) = true := by
        have q : (okD y && okDs (z :: zs)) = true := by rw [okDs] at hy; exact hy
        exact (Bool.and_eq_true_iff.mp q).2
      have h2 : encD x ++ (44 :: 32 :: (joinL (encDs (x2 :: l)) ++ (closeL n ++ r1))) = encD y ++ (44 :: 32 :: (joinL (encDs (z :: zs)) ++ (closeL m ++ r2))) := by
        simpa only [encDs, joinL, List.append_assoc, List.cons_append] using h
      obtain ⟨e1, e2⟩ := enc_inj x y _ _ hx'.1 hy' (.inr ⟨44, _, rfl, .inr rfl⟩) (.inr ⟨44, _, rfl, .inr rfl⟩) h2
      injection e2 with _ e2
      injection e2 with _ e2
      obtain ⟨e3, e4⟩ := enc_injs (x2 :: l) z zs n m r1 r2 hx'.2 hz e2
      exact ⟨by rw [e1, e3], e4⟩
end
theorem shown_inj {d e : PyData} (hd : okD d = true) (he : okD e = true) (h : PyData.shown d = PyData.shown e) : d = e := by
  have z : encD d ++ [] = encD e ++ [] := by
    rw [List.append_nil, List.append_nil, ← shown_codes d hd, ← shown_codes e he, h]
  exact (enc_inj d e [] [] hd he (.inl rfl) (.inl rfl) z).1
mutual
theorem okD_show : ∀ d : PyData, okD d = true → PyData.showable d = true
  | .none, _ => rfl
  | .bool _, _ => rfl
  | .int i, h => by simpa [okD, PyData.showable] using h
  | .str _, _ => rfl
  | .tuple xs, h => by
    rw [PyData.showable]
    exact okDs_show xs (by simpa [okD] using h)
  | .list _, h => by simp [okD] at h
  | .dict _, h => by simp [okD] at h
theorem okDs_show : ∀ xs : List PyData, okDs xs = true → PyData.showableAll xs = true
  | [], _ => rfl
  | x :: xs, h => by
    have h' : okD x = true ∧ okDs xs = true := by simpa [okDs] using h
    rw [PyData.showableAll, okD_show x h'.1, okDs_show xs h'.2]
    rfl
end
mutual
theorem okD_noDict : ∀ d : PyData, okD d = true → PyData.hasDict d = false
  | .none, _ => rfl
  | .bool _, _ => rfl
  | .int i, _ => rfl
  | .str _, _ => rfl
  | .tuple xs, h => by
    rw [PyData.hasDict]
    exact okDs_noDict xs (by simpa [okD] using h)
  | .list _, h => by simp [okD] at h
  | .dict _, h => by simp [okD] at h
theorem okDs_noDict : ∀ xs : List PyData, okDs xs = true → PyData.hasDictAll xs = false
  | [], _ => rfl
  | x :: xs, h => by
    have h' : okD x = true ∧ okDs xs = true := by simpa [okDs] using h
    rw [PyData.hasDictAll, okD_noDict x h'.1, okDs_noDict xs h'.2]
    rfl
end
end Vk
namespace Vk
open PySem PySem.Spec PyProof.Rows L2
/-! # Defs that write values as texts: they are called where no text of a value is being written (no guard) -/
/-- a def's promise, wherever no guard stands -/
structure Gk (P : Program) (w : World) (K : PySem.W.Frag) (mg : Str → Option Value) (base : Heap) (k : Nat) (f : Addr) (fd : FuncData) (ps : List Str) (sp : Sp) : Prop where
  len : ∀ vs H Q E, sp vs H Q E → vs.length = ps.length
  go : ∀ {A : Around} {out : List Env} {s : Shared} {H : Hp} {args : Args} {us : List Value} {vs : List V} {Q : VK} {E : XK},
    A.guards = some [] → Room k A → Env0 P w K mg base A out s H → BindsTo s fd args (ps.zip us) → Vals vs us → sp vs H Q E →
      codeAny (model P w) A (.call (.ref f) args) (CR CX0 out P w H s Q E) s
section
variable {P : Program} {w : World} {K : PySem.W.Frag} {mg : Str → Option Value} {base : Heap} {k : Nat} {f : Addr} {fd : FuncData} {ps : List Str} {sp : Sp}
theorem Gk.of (F : FnOk P w K mg base CX0 k f fd ps sp) : Gk P w K mg base k f fd ps sp :=
  ⟨F.len, fun {A out s H args us vs Q E} _ r e b v h => F.run A out s H args us vs Q E r e b v h⟩
theorem deeper_guards {A : Around} (env : Env) (h : A.guards = some []) : (A.deeper env).guards = some [] := h
/-- the rule for a def that is called where no guard stands: its body as a term, and the reading of it -/
theorem okG {x qual : Str} {st : Stmt} {N : List Str} (F : Fun K x qual st f fd) (S : FnScope N ps (defScope st))
    (len : ∀ vs H Q E, sp vs H Q E → vs.length = ps.length)
    (bodyOk : ∀ (cd : Value) (A : Around) (out : List Env) (s : Shared) (H : Hp) (vs : List V) (Q : VK) (E : XK),
      (A.deeper (envOfC qual (defScope st) s.heap.objs.size f cd)).guards = some [] →
      Room k (A.deeper (envOfC qual (defScope st) s.heap.objs.size f cd)) → sp vs H Q E →
      ∃ t, PSs (cxOf CX0 P w K mg base N qual (defScope st) f cd A out s H E).nox (defBody st) t ∧
        t { nx := fun _ H' => Q .non H', rt := Q } (start N vs) H) : Gk P w K mg base (k + 1) f fd ps sp := by
  obtain ⟨oc, od, kV, doc, pm, an, cd, ct, sl, rfl, look, code⟩ := F.ex
  refine ⟨len, fun {A out s H args us vs Q E} hg room en bind vals want => ?_⟩
  have n1 := len _ _ _ _ want
  have inK : K.In s.heap := en.mod.kin.keeps (fun b o e => (en.bs b o e).1)
  have noLim : s.heap.NoLimit := en.mod.nolimit.keeps (fun b o e => (en.bs b o e).1)
  have kinds : ∀ y ∈ ps.zip us, (defScope st).names.lookup y.1 = some .local ∨
      ((defScope st).names.lookup y.1 = some .cell ∧ ((cellsFrom (s.heap.objs.size + 1) (defScope st).names []).lookup y.1).isSome = true) := by
    rintro ⟨n, u⟩ hy
    cases S.par n (List.of_mem_zip hy).1 with
    | inl q => exact Or.inl q
    | inr q => exact Or.inr ⟨q, PySem.W.cellsFrom_some _ _ _ (Or.inl q)⟩
  refine codeAny_call_function room.depth (inK _ _ look) rfl S.co S.gen rfl (PySem.W.codeRec_of inK code) (bind _ _ _ _ ?_)
  refine wpAny_newFunctionEnv_cells S.kind kinds (fun env he st1 inCall => ?_)
  cases he
  refine ⟨noLim.keeps inCall.toInCall.keep, codeAny_func ?_⟩
  obtain ⟨t, ht, hq⟩ := bodyOk cd A out s H vs Q E hg (room.deeper _) want
  have inv : Inv (cxOf CX0 P w K mg base N qual (defScope st) f cd A out s H E) [] (start N vs) H st1 := inv_start S room.hd en n1 vals inCall
  refine wpAny_mono (ht.nox.run [] st1 _ H _ inv hq) (fun fl s2 h2 => ?_) (fun e s2 h2 => h2)
  have fin : ∀ {σ : L2.St} {H2 : Hp} {v : V} {u : Value}, Inv (cxOf CX0 P w K mg base N qual (defScope st) f cd A out s H E) [] σ H2 s2 → RelV v u → Q v H2 → CE out P w H s Q u s2 :=
    fun {σ H2 v u} J r q => ⟨v, H2, J.os, J.bare, J.base, J.hok, r, q⟩
  match fl, h2 with
  | .ret u, ⟨v, σ, H2, J, r, q⟩ => exact fin J r q
  | .next, ⟨σ, H2, J, q⟩ => exact fin (v := V.non) (u := Value.none) J rfl q
  | .brk, ⟨_, _, _, q⟩ => exact q.elim
  | .cont, ⟨_, _, _, q⟩ => exact q.elim
end
section
variable {X : Cx} {k : Nat} {f C : Addr} {fd : FuncData} {ps : List Str} {sp : Sp} {x m : Str} {p pos apos : Pos} {e o : Expr} {es : List Expr} {ta : TE} {t : TA}
theorem runG {pins : List (Addr × Obj)} {σ : L2.St} {H : Hp} {s : Shared} {Q : VK} {us : List Value} {vs : List V} (hg : X.A.guards = some []) (F : Gk X.prog X.w X.K X.mg X.base k f fd ps sp) (room : Room k X.A) (B : Binds X.K fd ps [])
    (I : Inv X pins σ H s) (vals : Vals vs us) (want : sp vs H Q E0) : wpAny (model X.prog X.w) X.A (call (.ref f) us) (EP X pins σ Q) X.xe s := by
  have n1 : us.length = ps.length := by
    rw [← vals.length]
    exact F.len _ _ _ _ want
  have bind := B s us I.kIn (by rw [List.append_nil]; exact n1)
  rw [List.append_nil] at bind
  refine wpAny_call (codeAny_mono (F.go (args := ⟨us, []⟩) hg room I.env0 bind vals want) (fun r s2 h2 => ?_))
  match r, h2 with
  | .error _, h => exact h.elim
  | .ok (.ret u), h => exact I.after h
  | .ok .next, h => exact h.elim
  | .ok .brk, h => exact h.elim
  | .ok .cont, h => exact h.elim
/-- f(e, ..) -/
theorem pe_callG (hg : X.A.guards = some []) (F : Gk X.prog X.w X.K X.mg X.base k f fd ps sp) (room : Room k X.A) (gl : Gl X x) (hm : X.mg x = some (.ref f)) (kp : PySem.W.keepIn X.K (.ref f) = true) (B : Binds X.K fd ps [])
    (ha : PA X (e :: es) t) (dbg : (x == ("__debug__" : Str)) = false := by decide)
    (st : starEach (e :: es) X.env = (false, eval e X.env) :: starEach es X.env := by rfl)
    (pl : (backTo pos (starEach es X.env)).any (·.1) = false := by rfl) :
    PE X (.Call (.Name x p) (e :: es) [] pos) (tCall sp [] E0 t) := by
  constructor
  intro pins s σ H Q I h
  refine wpAny_Call_Name_kw (ld_glob I gl hm ?_ dbg)
  refine PySem.W.callWith_K (h₀ := X.base) I.ok.mod.kin kp (thn (ha.run pos pins s σ H _ I h) ?_) st pl
  rintro us s1 ⟨vs, H1, I1, r, q⟩
  rw [List.append_nil] at q
  exact ⟨I1.kIn, runG hg F room B I1 r q⟩
/-- o.m(e, ..) -/
theorem pe_methG {pl : Sem Bool} (hg : X.A.guards = some []) (he : PE X o ta) (c : Cls X.K C) (hm : Meth X.K C m f) (F : Gk X.prog X.w X.K X.mg X.base k f fd ps sp) (room : Room k X.A) (B : Binds X.K fd ps [])
    (ha : PA X (e :: es) t)
    (st : starEach (e :: es) X.env = (false, eval e X.env) :: starEach es X.env := by rfl)
    (pb : (backTo pos (starEach es X.env)).any (·.1) = false := by rfl)
    (ht : eval (.Call (.Attribute o m apos) (e :: es) [] pos) X.env = (do
        let ov ← eval o X.env
        standAt apos.atName
        let fm ← holding [ov] (getMethod ov m pl)
        callWith pos fm.1 fm.2 (backTo pos (starEach (e :: es) X.env)) (backToKw pos (keywordEach [] X.env))) := by rfl) :
    PE X (.Call (.Attribute o m apos) (e :: es) [] pos) (tMeth C m sp [] E0 ta t) := by
  constructor
  intro pins s σ H Q I h
  refine PySem.W.methodCall_KW (pl := pl) (thn (he.run pins s σ H _ I h) ?_) ht
  rintro u s1 ⟨v, H1, I1, rv, a, dx, fs, ev, ea, lo, q⟩
  cases ev
  cases (show u = Value.ref a from rv)
  refine getmeth_ok I1 ea c hm lo ?_
  refine PySem.W.callWith_K (first := [.ref a]) (h₀ := X.base) I.ok.mod.kin hm.kp (thn (ha.run pos pins s1 σ H1 _ I1 q) ?_) st pb
  rintro us s2 ⟨vs, H2, I2, r, q2⟩
  rw [List.append_nil] at q2
  exact ⟨I2.kIn, runG (us := .ref a :: us) (vs := .ref a :: vs) hg F room B I2 (.cons rfl r) q2⟩
/-- repr of a plain value -/
def rRepr (K : PySem.W.Frag) : List V → Hp → VK → Prop := fun xs H Q => ∃ x d, xs = [x] ∧ Dp K H x d ∧ okD d = true ∧ d.depth ≤ 60 ∧ d.shown.length ≤ sizeLine ∧ Q (.str d.shown) H
theorem call_reprD (hg : X.A.guards = some []) (room : Room k X.A) : CallR X (.builtin "repr") (rRepr X.K) := by
  intro pins s σ H xs us Q I r h
  obtain ⟨x, d, rfl, hd, ok, dep, len, q⟩ := h
  obtain ⟨u, rfl, rx⟩ := vals1 r
  have hu := room.units
  cases d with
  | none =>
    cases hd
    cases rx
    exact PySem.P.repr_of_none ⟨.str _, H, I.tok _, ⟨_, rfl⟩, q⟩
  | bool b =>
    cases hd
    cases rx
    exact PySem.P.repr_of_bool ⟨.str _, H, I.tok _, ⟨_, rfl⟩, q⟩
  | int i =>
    cases hd
    obtain ⟨t, rfl⟩ := rx
    exact PySem.P.repr_of_int (by simpa [okD] using ok) ⟨.str _, H, I.tok _, ⟨_, rfl⟩, q⟩
  | str y =>
    cases hd
    obtain ⟨t, rfl⟩ := rx
    exact PySem.P.repr_of_str ⟨.str _, H, I.tok _, ⟨_, rfl⟩, q⟩ (by simpa [PyData.shown] using len)
  | tuple xs =>
    obtain ⟨as, rd⟩ := Dp.reads I _ _ _ hd rx
    cases hd
    cases rx
    refine PySem.repr_of_reads' rd (okD_show _ ok) (fun z => ?_) hg (by omega) (fun _ _ e => e) (fun h' u tk kp => ?_) len
    · rw [okD_noDict _ ok] at z
      cases z
    · exact ⟨.str _, H, I.kept (t' := tk) kp, ⟨u, rfl⟩, q⟩
  | list _ => simp [okD] at ok
  | dict _ => simp [okD] at ok
end
/-! ## the law's own call -/
theorem callG {P : Program} {w : World} {K : PySem.W.Frag} {mg mb : Str → Option Value} {k : Nat} {fa a : Addr} {fd : FuncData} {x : Str} {sp : Sp} {st : Shared} {us : List Value} {ns : List Int}
    (inK : K.In st.heap) (nsM : st.heap.Ns mainGlobals mg) (nsB : st.heap.Ns builtinsNs mb) (boot : ∀ x : Str, x ≠ "__name__" → mb x = bootBuiltins x) (noLim : st.heap.NoLimit) (noGen : st.gens = #[])
    (atA : st.heap.get? a = some { cls := .type "list", data := .seq us.toArray }) (intsA : IntsAre us ns) (len : ns.length ≤ sizeLine) (room : Room k callerA)
    (F : ∀ base : Heap, K.In base → base.Ns mainGlobals mg → Gk P w K mg base k fa fd [x] sp) (bind : ∀ (s : Shared) (u : Value), BindsTo s fd ⟨[u], []⟩ [(x, u)])
    (want : ∀ H : Hp, Only H → SqL K H a (ns.map V.int) → sp [.ref a] H (fun v _ => v = .bl true) fun _ _ _ => False) :
    codeAny (model P w) callerA (.call (.ref fa) ⟨[.ref a], []⟩) (fun r s' => r = .ok (.ret (.bool true)) ∧ OldK st.heap s'.heap ∧ s'.os = st.os ∧ AllBare s'.gens) st := by
  have valsA : Vals (ns.map V.int) us := vals_ints intsA
  have sizes := intsA.length
  have main : ∀ H : Hp, Only H → SqL K H a (ns.map V.int) → HOk P w H st.heap → (∀ b, H b ≠ none → b = a) → (H a ≠ none → K.lookup a = none) →
      codeAny (model P w) callerA (.call (.ref fa) ⟨[.ref a], []⟩) (fun r s' => r = .ok (.ret (.bool true)) ∧ OldK st.heap s'.heap ∧ s'.os = st.os ∧ AllBare s'.gens) st := by
    intro H only sq ok atMost apart
    have dictFree : ∀ {b : Addr} {o : Obj} {es : Array DictEntry} {ep : Nat}, st.heap.get? b = some o → o.data = .dict es ep → H b = none := by
      intro b o es ep e d
      cases hb : H b with
      | none => rfl
      | some u =>
        cases atMost b (by rw [hb]; exact fun z => nomatch z)
        rw [atA] at e
        cases e
        exact nomatch (show Data.seq us.toArray _ = Data.dict es ep from d)
    have nsH : ∀ {b : Addr} {m : Str → Option Value}, st.heap.Ns b m → (hidT st.heap H).Ns b m := by
      rintro b m ⟨o, es, ep, e, d, rest⟩
      exact ⟨o, es, ep, hidT_get e (dictFree e d), d, rest⟩
    have inH : K.In (hidT st.heap H) := by
      intro b o e
      refine hidT_get (inK b o e) ?_
      cases hb : H b with
      | none => rfl
      | some u =>
        have eb := atMost b (by rw [hb]; exact fun z => nomatch z)
        rw [eb] at e hb
        rw [apart (by rw [hb]; exact fun z => nomatch z)] at e
        cases e
    have modH : Mod K mg (hidT st.heap H) := by
      obtain ⟨mc, z1, z2⟩ := id noLim
      exact ⟨inH, nsH nsM, ⟨mb, nsH nsB, boot⟩, ⟨mc, nsH z1, z2⟩⟩
    have en : Env0 P w K mg (hidT st.heap H) callerA [] st H :=
      { frames := rfl, mod := modH, bs := fun b o e => of_hidT e, bsz := Nat.le_of_eq (hidT_size _ _), funs := trivial, frf := (fun b hb => nomatch hb), hok := ok, bare := .of_eq noGen }
    have run := (F _ inH (nsH nsM)).go (out := []) (args := ⟨[.ref a], []⟩) (us := [.ref a]) (vs := [.ref a]) rfl room en (bind st (.ref a)) (.cons rfl .nil) (want H only sq)
    refine codeAny_mono run (fun r s2 h2 => ?_)
    match r, h2 with
    | .error _, h => exact h.elim
    | .ok .next, h => exact h.elim
    | .ok .brk, h => exact h.elim
    | .ok .cont, h => exact h.elim
    | .ok (.ret u), ⟨v, H2, osE, bareE, un, ok2, rv, q⟩ =>
      cases (show v = .bl true from q)
      cases (show u = Value.bool true from rv)
      refine ⟨rfl, OldK.of_keep (fun b o e => ?_), osE, bareE⟩
      cases hb : H b with
      | none => exact un.keep b o e hb (fun z => nomatch z) (fun z => nomatch z)
      | some u =>
        rcases only b with z | ⟨ob, xs, z⟩
        · rw [hb] at z
          cases z
        · have y1 := (ok b _ z).1
          have y2 := (ok2 b _ (un.frzs b ob _ z)).1
          rw [e] at y1
          cases y1
          exact y2
  cases known : K.lookup a with
  | some o =>
    have e := inK a o known
    rw [atA] at e
    cases e
    refine main (fun _ => none) (fun _ => Or.inl rfl) (Or.inr ⟨_, us.toArray, _, known, rfl, rfl, rfl, ?_, by simpa using valsA⟩) (fun b u z => nomatch z) (fun b z => absurd rfl z) (fun z => absurd rfl z)
    rw [List.size_toArray, sizes]
    exact len
  | none =>
    have at1 : ∀ {b : Addr} {o : HO}, (if b = a then some (HO.frz { cls := .type "list", data := .seq us.toArray } (.lst (ns.map V.int))) else none) = some o → b = a ∧ o = HO.frz { cls := .type "list", data := .seq us.toArray } (.lst (ns.map V.int)) := by
      intro b o z
      by_cases hb : b = a
      · rw [if_pos hb] at z
        exact ⟨hb, (Option.some.inj z).symm⟩
      · rw [if_neg hb] at z
        cases z
    refine main (fun b => if b = a then some (.frz { cls := .type "list", data := .seq us.toArray } (.lst (ns.map V.int))) else none) (fun b => ?_) (Or.inl (Or.inr ⟨_, if_pos rfl⟩)) (fun b u z => ?_) (fun b z => ?_) (fun _ => known)
    · by_cases hb : b = a
      · exact Or.inr ⟨_, _, if_pos hb⟩
      · exact Or.inl (if_neg hb)
    · obtain ⟨e1, e2⟩ := at1 z
      subst e1 e2
      exact ⟨atA, by rw [List.length_map]; exact len, us, _, valsA, atA⟩
    · by_cases hb : b = a
      · exact hb
      · exact absurd (if_neg hb) z
theorem walkG {l : PySem.W.OpenLaw} {n k : Nat} {q : Program} {loose : List Str} {XP : (Str → Option Value) → Heap → Prop} {YP : World → Heap → Prop} {d : DefRec} {K : Params → PySem.W.Frag} {sp : World → Sp} {x : Str}
    (most : l.most = some n) (small : n ≤ sizeLine) (plain : d.params.defaults = []) (room : Room k callerA)
    (atK : ∀ (w : World) (h : Heap), YP w h → (K w.params).In h)
    (F : ∀ (w : World) (mg : Str → Option Value) (fa : Addr) (h : Heap), (K w.params).In h → h.Ns mainGlobals mg → mg d.name = some (.ref fa) →
      ∃ fd : FuncData, (∀ (s : Shared) (u : Value), BindsTo s fd ⟨[u], []⟩ [(x, u)]) ∧
        ∀ base : Heap, (K w.params).In base → base.Ns mainGlobals mg → Gk l.prog w (K w.params) mg base k fa fd [x] (sp w))
    (want : ∀ (w : World) (H : Hp) (a : Addr) (ns : List Int), ns.length ≤ n → Only H → SqL (K w.params) H a (ns.map V.int) → sp w [.ref a] H (fun v _ => v = .bl true) fun _ _ _ => False) :
    PySem.W.WalkO q loose XP YP l.row.toRowW d [] (fun f vs => PySem.call f vs) := by
  refine Att.attach_call most plain (fun w s0 st mg mb fa o pm cd doc a us ns G Y hO hD cdo atMg atObj intsA len noGen => ?_)
  have inK := atK w _ Y
  obtain ⟨fd, bind, hF⟩ := F w mg fa _ inK G.T.g atMg
  exact callG inK G.T.g G.T.b G.T.builtins G.T.nolimit noGen atObj intsA (Nat.le_trans len small) room hF bind (fun H hO2 hS => want w H a ns len hO2 hS)
end Vk
namespace Vk
open PySem PySem.Spec PyProof.Rows L2
/-! # Plain data on the heap -/
def KeepT (H H' : Hp) : Prop := ∀ a o, (∃ xs, o = .tup xs ∨ ∃ ob, o = .frz ob (.tup xs)) → H a = some o → H' a = some o
theorem keepT_of {H H' : Hp} (s : Same H H') : KeepT H H' := fun a o _ h => s a o h
theorem KeepT.seq {K : PySem.W.Frag} {H H' : Hp} {a : Addr} {xs : List V} (k : KeepT H H') (h : SqT K H a xs) : SqT K H' a xs := by
  rcases h with (h | ⟨o, h⟩) | h
  · exact .inl (.inl (k _ _ ⟨xs, .inl rfl⟩ h))
  · exact .inl (.inr ⟨o, k _ _ ⟨xs, .inr ⟨o, rfl⟩⟩ h⟩)
  · exact .inr h
theorem KeepT.refl (H : Hp) : KeepT H H := fun _ _ _ h => h
theorem KeepT.trans {H H1 H2 : Hp} (a : KeepT H H1) (b : KeepT H1 H2) : KeepT H H2 := fun c o t h => b c o t (a c o t h)
theorem KeepT.new {H : Hp} {p : Addr} {o : HO} (h : H p = none) : KeepT H (upd H p o) := fun a u _ e => by
  rw [upd_ne (ne_of_none e h)]
  exact e
/-- an object that is no tuple is changed -/
theorem KeepT.put {H : Hp} {p : Addr} {u o : HO} (h : H p = some u) (nt : ∀ xs, u ≠ .tup xs) (nf : ∀ ob xs, u ≠ .frz ob (.tup xs)) : KeepT H (upd H p o) := fun a v t e => by
  have ne : a ≠ p := by
    intro z
    subst z
    rw [h] at e
    cases e
    obtain ⟨ys, t | ⟨ob, t⟩⟩ := t
    · exact nt _ t
    · exact nf _ _ t
  rw [upd_ne ne]
  exact e
theorem KeepT.lst {H : Hp} {p : Addr} {xs : List V} {o : HO} (h : H p = some (.lst xs)) : KeepT H (upd H p o) := KeepT.put h (fun _ z => nomatch z) (fun _ _ z => nomatch z)
theorem KeepT.dK {H : Hp} {p : Addr} {kvs : List (Key × V)} {o : HO} (h : H p = some (.dK kvs)) : KeepT H (upd H p o) := KeepT.put h (fun _ z => nomatch z) (fun _ _ z => nomatch z)
mutual
theorem dp_keep {K : PySem.W.Frag} {H H' : Hp} (k : KeepT H H') : ∀ (d : PyData) (v : V), okD d = true → Dp K H v d → Dp K H' v d
  | .none, _, _, h => by cases h; exact .non
  | .bool b, _, _, h => by cases h; exact .bl b
  | .int i, _, _, h => by cases h; exact .int i
  | .str x, _, _, h => by cases h; exact .str x
  | .list ds, _, n, _ => by simp [okD] at n
  | .dict ds, _, n, _ => by simp [okD] at n
  | .tuple ds, _, n, h => by
    cases h with
    | tup hs ha => exact .tup (k.seq hs) (dp_keepAll k ds _ (by simpa [okD] using n) ha)
theorem dp_keepAll {K : PySem.W.Frag} {H H' : Hp} (k : KeepT H H') : ∀ (ds : List PyData) (vs : List V), okDs ds = true → DpAll K H vs ds → DpAll K H' vs ds
  | [], _, _, h => by cases h; exact .nil
  | d :: ds, _, n, h => by
    have n' : okD d = true ∧ okDs ds = true := by simpa [okDs] using n
    cases h with
    | cons h1 h2 => exact .cons (dp_keep k d _ n'.1 h1) (dp_keepAll k ds _ n'.2 h2)
end
theorem dp_app {K : PySem.W.Frag} {H : Hp} : ∀ {xs ys : List V} {ds es : List PyData}, DpAll K H xs ds → DpAll K H ys es → DpAll K H (xs ++ ys) (ds ++ es)
  | _, _, _, _, .nil, h => h
  | _, _, _, _, .cons a b, h => .cons a (dp_app b h)
theorem dp_len {K : PySem.W.Frag} {H : Hp} : ∀ {xs : List V} {ds : List PyData}, DpAll K H xs ds → xs.length = ds.length
  | _, _, .nil => rfl
  | _, _, .cons _ b => congrArg Nat.succ (dp_len b)
theorem dp_at {K : PySem.W.Frag} {H : Hp} : ∀ {xs : List V} {ds : List PyData} {i : Nat} {d : PyData}, DpAll K H xs ds → ds[i]? = some d → ∃ v, xs[i]? = some v ∧ Dp K H v d
  | _, _, _, _, .nil, h => by simp at h
  | _, _, 0, _, .cons a _, h => by simp at h; subst h; exact ⟨_, rfl, a⟩
  | _, _, i + 1, _, .cons _ b, h => by
    obtain ⟨v, e, q⟩ := dp_at (i := i) b (by simpa using h)
    exact ⟨v, by simpa using e, q⟩
theorem dp_at' {K : PySem.W.Frag} {H : Hp} : ∀ {xs : List V} {ds : List PyData} {i : Nat} {v : V}, DpAll K H xs ds → xs[i]? = some v → ∃ d, ds[i]? = some d ∧ Dp K H v d
  | _, _, _, _, .nil, h => by simp at h
  | _, _, 0, _, .cons a _, h => by simp at h; subst h; exact ⟨_, rfl, a⟩
  | _, _, i + 1, _, .cons _ b, h => by
    obtain ⟨d, e, q⟩ := dp_at' (i := i) b (by simpa using h)
    exact ⟨d, by simpa using e, q⟩
theorem okDs_at : ∀ {ds : List PyData} {i : Nat} {d : PyData}, okDs ds = true → ds[i]? = some d → okD d = true
  | [], _, _, _, h => by simp at h
  | x :: xs, 0, d, o, h => by
    have o' : okD x = true ∧ okDs xs = true := by simpa [okDs] using o
    simp at h; subst h; exact o'.1
  | x :: xs, i + 1, d, o, h => by
    have o' : okD x = true ∧ okDs xs = true := by simpa [okDs] using o
    exact okDs_at (i := i) o'.2 (by simpa using h)
theorem okDs_app : ∀ {ds es : List PyData}, okDs ds = true → okDs es = true → okDs (ds ++ es) = true
  | [], _, _, h => h
  | x :: xs, es, o, h => by
    have o' : okD x = true ∧ okDs xs = true := by simpa [okDs] using o
    simp only [List.cons_append, okDs, o'.1, okDs_app o'.2 h, Bool.and_self]
theorem okDs_all : ∀ {ds : List PyData}, (∀ d ∈ ds, okD d = true) → okDs ds = true
  | [], _ => rfl
  | x :: xs, h => by
    simp only [okDs, h x List.mem_cons_self, okDs_all (ds := xs) fun d hd => h d (List.mem_cons_of_mem _ hd), Bool.and_self]
theorem depth_at : ∀ {ds : List PyData} {i : Nat} {d : PyData}, ds[i]? = some d → d.depth ≤ PyData.depthAll ds
  | [], _, _, h => by simp at h
  | x :: xs, 0, d, h => by
    simp at h; subst h
    simp only [PyData.depthAll]
    omega
  | x :: xs, i + 1, d, h => by
    have z := depth_at (ds := xs) (i := i) (d := d) (by simpa using h)
    simp only [PyData.depthAll]
    omega
/-! ## kinds -/
def tyD : PyData → String
  | .none => "NoneType"
  | .bool _ => "bool"
  | .int _ => "int"
  | .str _ => "str"
  | .tuple _ => "tuple"
  | .list _ => "list"
  | .dict _ => "dict"
theorem sqT_ty {K : PySem.W.Frag} {H : Hp} {a : Addr} {xs : List V} (h : SqT K H a xs) : TyX K H (.ref a) (.type "tuple") := by
  rcases h with (h | ⟨o, h⟩) | ⟨o, its, n, h1, h2, _⟩
  · exact .base (.tup h)
  · exact .fTuple h
  · exact .kTuple h1 h2
theorem dp_ty {K : PySem.W.Frag} {H : Hp} {v : V} {d : PyData} (h : Dp K H v d) (ok : okD d = true) : TyX K H v (.type (tyD d)) := by
  cases h with
  | non => exact .base .non
  | bl b => exact .base (.bl b)
  | int i => exact .base (.int i)
  | str x => exact .base (.str x)
  | lst _ _ => simp [okD] at ok
  | tup hs _ => exact sqT_ty hs
def isTupD : PyData → Bool
  | .tuple _ => true
  | _ => false
def isBoolD : PyData → Bool
  | .bool _ => true
  | _ => false
theorem kit_tup {K : PySem.W.Frag} {d : PyData} (ok : okD d = true) : PySem.W.kitOne K (.type (tyD d)) (.type "tuple") = some (isTupD d) := by
  cases d with
  | none => exact kit_ty (a := "NoneType") (r := false) (by decide +kernel)
  | bool b => exact kit_ty (a := "bool") (r := false) (by decide +kernel)
  | int i => exact kit_ty (a := "int") (r := false) (by decide +kernel)
  | str x => exact kit_ty (a := "str") (r := false) (by decide +kernel)
  | tuple xs => exact kit_ty (a := "tuple") (r := true) (by decide +kernel)
  | list _ => simp [okD] at ok
  | dict _ => simp [okD] at ok
theorem kit_bool {K : PySem.W.Frag} {d : PyData} (ok : okD d = true) : PySem.W.kitOne K (.type (tyD d)) (.type "bool") = some (isBoolD d) := by
  cases d with
  | none => exact kit_ty (a := "NoneType") (r := false) (by decide +kernel)
  | bool b => exact kit_ty (a := "bool") (r := true) (by decide +kernel)
  | int i => exact kit_ty (a := "int") (r := false) (by decide +kernel)
  | str x => exact kit_ty (a := "str") (r := false) (by decide +kernel)
  | tuple xs => exact kit_ty (a := "tuple") (r := false) (by decide +kernel)
  | list _ => simp [okD] at ok
  | dict _ => simp [okD] at ok
/-! ## two values are one -/
mutual
def eqD : PyData → PyData → Bool
  | .none, .none => true
  | .bool a, .bool b => decide (a = b)
  | .int a, .int b => decide (a = b)
  | .str a, .str b => decide (a = b)
  | .tuple xs, .tuple ys => eqDs xs ys
  | _, _ => false
def eqDs : List PyData → List PyData → Bool
  | [], [] => true
  | x :: xs, y :: ys => eqD x y && eqDs xs ys
  | _, _ => false
end
mutual
theorem eqD_iff : ∀ d e : PyData, okD d = true → (eqD d e = true ↔ d = e)
  | .none, e, _ => by cases e <;> simp [eqD]
  | .bool a, e, _ => by cases e <;> simp [eqD]
  | .int a, e, _ => by cases e <;> simp [eqD]
  | .str a, e, _ => by cases e <;> simp [eqD]
  | .tuple xs, e, h => by
    have h' : okDs xs = true := by simpa [okD] using h
    cases e with
    | tuple ys => simp only [eqD, PyData.tuple.injEq]; exact eqDs_iff xs ys h'
    | _ => simp [eqD]
  | .list _, _, h => by simp [okD] at h
  | .dict _, _, h => by simp [okD] at h
theorem eqDs_iff : ∀ xs ys : List PyData, okDs xs = true → (eqDs xs ys = true ↔ xs = ys)
  | [], [], _ => by simp [eqDs]
  | [], _ :: _, _ => by simp [eqDs]
  | _ :: _, [], _ => by simp [eqDs]
  | x :: xs, y :: ys, h => by
    have h' : okD x = true ∧ okDs xs = true := by simpa [okDs] using h
    simp only [eqDs, Bool.and_eq_true, List.cons.injEq, eqD_iff x y h'.1, eqDs_iff xs ys h'.2]
end
theorem eqDs_at : ∀ (xs ys : List PyData), xs.length = ys.length → (eqDs xs ys = true ↔ ∀ (i : Nat) (x y : PyData), xs[i]? = some x → ys[i]? = some y → eqD x y = true)
  | [], [], _ => by simp [eqDs]
  | [], _ :: _, h => by cases h
  | _ :: _, [], h => by cases h
  | x :: xs, y :: ys, h => by
    have ih := eqDs_at xs ys (Nat.succ.inj h)
    simp only [eqDs, Bool.and_eq_true, ih]
    constructor
    · rintro ⟨h1, h2⟩ i a b ha hb
      cases i with
      | zero => simp at ha hb; subst ha hb; exact h1
      | succ i => exact h2 i a b (by simpa using ha) (by simpa using hb)
    · intro h3
      exact ⟨h3 0 x y rfl rfl, fun i a b ha hb => h3 (i + 1) a b (by simpa using ha) (by simpa using hb)⟩
theorem eqDs_len : ∀ (xs ys : List PyData), xs.length ≠ ys.length → eqDs xs ys = false
  | [], [], h => absurd rfl h
  | [], _ :: _, _ => by simp [eqDs]
  | _ :: _, [], _ => by simp [eqDs]
  | x :: xs, y :: ys, h => by
    have ih := eqDs_len xs ys (fun z => h (congrArg Nat.succ z))
    simp [eqDs, ih]
/-! ## lengths of texts -/
theorem enc_one (d : PyData) : (encD (.tuple [d])).length = (encD d).length + 3 := by
  simp only [encD, encDs, joinL, closeL]
  simp
theorem enc_two (d e : PyData) : (encD (.tuple [d, e])).length = (encD d).length + (encD e).length + 4 := by
  simp only [encD, encDs, joinL, closeL]
  simp
  omega
theorem shown_length {d : PyData} (h : okD d = true) : (PyData.shown d).length = (encD d).length := by
  rw [← shown_codes d h]
  show (PyData.shown d).cps.size = _
  simp
theorem intL_len {i : Int} {k : Nat} (hk : 1 ≤ k) (h : i.natAbs < 10 ^ k) : (intL i).length ≤ k + 1 := by
  cases i with
  | ofNat m =>
    unfold intL
    rw [text_ofNat]
    have z := digits10_le hk (n := m) h
    simp
    omega
  | negSucc m =>
    have e : intL (Int.negSucc m) = 45 :: (Nat.toDigits 10 (m + 1)).map Char.toNat := by
      unfold intL
      rw [ofString_codes]
      show ("-" ++ Nat.repr (m + 1)).toList.map Char.toNat = _
      rw [String.toList_append, List.map_append]
      show [45] ++ (Nat.repr (m + 1)).toList.map Char.toNat = _
      have e2 : (Nat.repr (m + 1)).toList = Nat.toDigits 10 (m + 1) := by
        unfold Nat.repr
        exact String.toList_ofList
      rw [e2]
      rfl
    rw [e]
    have z := digits10_le hk (n := m + 1) h
    simp
    omega
theorem int_ok {i : Int} {k : Nat} (h : i.natAbs < 2 ^ k) (hk : k ≤ 1920) (h0 : 0 < k) : okD (.int i) = true := by
  simp only [okD]
  refine decide_eq_true ?_
  by_cases z : i.natAbs = 0
  · rw [z]
    decide
  · exact Nat.lt_of_lt_of_le ((Nat.log2_lt z).mpr h) hk
theorem atI_some {α : Type} {xs : List α} {i : Int} (h0 : 0 ≤ i) (h1 : i < xs.length) : ∃ v, atI xs i = some v ∧ v ∈ xs := by
  have e : i = ((i.toNat : Nat) : Int) := by omega
  have hl : i.toNat < xs.length := by omega
  have z : atI xs ((i.toNat : Nat) : Int) = some xs[i.toNat] := atI_nat (List.getElem?_eq_getElem hl)
  rw [← e] at z
  exact ⟨_, z, List.getElem_mem hl⟩
theorem take_next {α : Type} {l : List α} {i : Nat} {x : α} (h : l[i]? = some x) : l.take (i + 1) = l.take i ++ [x] := by
  rw [List.take_add_one, h]
  rfl
theorem same_new {H : Hp} {p : Addr} {o : HO} (h : H p = none) : Same H (upd H p o) := fun b u e => by
  rw [upd_ne (ne_of_none e h)]
  exact e
theorem ifT {c : Bool} {A B : Prop} (h : c = true) (x : A) : if c = true then A else B := by
  rw [if_pos h]
  exact x
theorem ifF {c : Bool} {A B : Prop} (h : c = false) (x : B) : if c = true then A else B := by
  rw [h, if_neg Bool.false_ne_true]
  exact x
theorem bo_len : bootBuiltins "len" = some (.builtin "len") := by decide +kernel
theorem bo_int : bootBuiltins "int" = some (.type "int") := by decide +kernel
theorem bo_tuple : bootBuiltins "tuple" = some (.type "tuple") := by decide +kernel
theorem bo_list : bootBuiltins "list" = some (.type "list") := by decide +kernel
theorem bo_str : bootBuiltins "str" = some (.type "str") := by decide +kernel
theorem bo_type : bootBuiltins "type" = some (.type "type") := by decide +kernel
theorem bo_isinstance : bootBuiltins "isinstance" = some (.builtin "isinstance") := by decide +kernel
theorem bo_repr : bootBuiltins "repr" = some (.builtin "repr") := by decide +kernel
theorem bo_max : bootBuiltins "max" = some (.builtin "max") := by decide +kernel
theorem bo_min : bootBuiltins "min" = some (.builtin "min") := by decide +kernel
/-- a def that is called: what it promises, where it stands -/
structure Cal (P : Program) (w : World) (K : PySem.W.Frag) (mg : Str → Option Value) (base : Heap) (x : Str) (k : Nat) (f : Addr) (fd : FuncData) (ps : List Str) (sp : Sp) : Prop where
  G : FnOk P w K mg base CX0 k f fd ps sp
  mg : mg x = some (.ref f)
  kp : PySem.W.keepIn K (.ref f) = true
  B : Binds K fd ps []
structure CalG (P : Program) (w : World) (K : PySem.W.Frag) (mg : Str → Option Value) (base : Heap) (x : Str) (k : Nat) (f : Addr) (fd : FuncData) (ps : List Str) (sp : Sp) : Prop where
  G : Gk P w K mg base k f fd ps sp
  mg : mg x = some (.ref f)
  kp : PySem.W.keepIn K (.ref f) = true
  B : Binds K fd ps []
/-- a method that is called -/
structure CalM (P : Program) (w : World) (K : PySem.W.Frag) (mg : Str → Option Value) (base : Heap) (C : Addr) (x : Str) (k : Nat) (f : Addr) (fd : FuncData) (ps : List Str) (sp : Sp) : Prop where
  G : Gk P w K mg base k f fd ps sp
  cl : Cls K C
  mt : Meth K C x f
  B : Binds K fd ps []
end Vk
namespace Vk
open PySem PySem.Spec PyProof.Rows L2
def top (i : Nat) : Stmt := PySem.Challenge.pw_trothbase_k03_seals.main.body.getD i (.Pass ⟨0, 0, 0, 0⟩)
/-! ### the draws -/
/-- the loop of a draw: i quotients -/
def cutBy : Nat → Int → Int
  | 0, c => c
  | n + 1, c => cutBy n c / 100003
def drawOf (ns : List Int) (k : Int) : Int :=
  if ns = [] then k * 5 % 7
  else
    let c := ns.getD (k % (ns.length : Int)).toNat 0
    if c ≥ 1000000000000000000 then cutBy (if (60 : Int) < k / (ns.length : Int) then (60 : Int) else k / (ns.length : Int)).toNat c % 100003
    else (c * 48271 + k * 69621 + 13) % 2147483647 * 16807 % 2147483629
theorem drawOf_nn (ns : List Int) (k : Int) : 0 ≤ drawOf ns k := by
  unfold drawOf
  split
  · omega
  · dsimp only
    split <;> omega
theorem drawOf_lt (ns : List Int) (k : Int) : drawOf ns k < 2147483629 := by
  unfold drawOf
  split
  · omega
  · dsimp only
    split <;> omega
def spDraw (K : PySem.W.Frag) : Sp := fun vs H Q _ => ∃ (a : Addr) (ns : List Int) (k : Int), vs = [.ref a, .int k] ∧ SqL K H a (ns.map V.int) ∧ ns.length ≤ 63 ∧ 0 ≤ k ∧ k ≤ 1000000 ∧ Q (.int (drawOf ns k)) H
abbrev sDraw : Stmt := top 12
structure TDraw (mg : Str → Option Value) : Prop where
  len : mg "len" = none
  int : mg "int" = none
  min : mg "min" = none
  range : mg "range" = none
section
variable {P : Program} {w : World} {K : PySem.W.Frag} {mg : Str → Option Value} {base : Heap}
theorem scDraw : FnScope ["script", "k", "cell", "turn", "step"] ["script", "k"] (defScope sDraw) := ⟨rfl, rfl, rfl, by decide +kernel, rfl, by decide +kernel, by decide +kernel⟩
theorem ok_draw {f : Addr} {fd : FuncData} (F : Fun K "_law_draw" "_law_draw" sDraw f fd) (T : TDraw mg) : FnOk P w K mg base CX0 1 f fd ["script", "k"] (spDraw K) := by
  refine F.ok scDraw (fun vs H Q E h => ?_) (fun cdv A outer s H vs Q E hr h => ?_)
  · obtain ⟨a, ns, k, rfl, _⟩ := h
    rfl
  · obtain ⟨a, ns, k, rfl, hS, hl, hk0, hk, q⟩ := h
    refine ⟨_, pss_cons (ps_if (pt_not (pt_truth (pv 0) (by intro _; rfl))) (pss_one (ps_ret (pe_op op_mod (pe_op op_mul (pv 1) pe_int) pe_int))) pss_nil)
      (pss_cons (ps_set (i := 2) scDraw.nd rfl (Or.inl rfl) (pe_callTy call_int1 (by rfl) T.int (by decide +kernel) (pa_cons (pe_ix ix_list (pv 0) (pe_op op_mod (pv 1) (pe_callB call_len_seq (by rfl) T.len PySem.boot_len (pa_cons (pv 0) pa_nil))) (fun _ _ => rfl)) pa_nil)))
      (pss_cons (ps_set (i := 3) scDraw.nd rfl (Or.inl rfl) (pe_op op_fdiv (pv 1) (pe_callB call_len_seq (by rfl) T.len PySem.boot_len (pa_cons (pv 0) pa_nil))))
      (pss_cons (ps_if (pt_cmpR op_ge (pv 2) pe_int (nomark _))
        (pss_cons (ps_for PassesOwn.never rfl (pi_range1 rfl T.range (pa_cons (pe_callB (call_min2 rfl) (by rfl) T.min (by decide +kernel) (pa_cons (pv 3) (pa_cons pe_int pa_nil))) pa_nil)) (pg_name (i := 4) scDraw.nd rfl (Or.inl rfl))
          (pss_one (ps_set (i := 2) scDraw.nd rfl (Or.inl rfl) (pe_op op_fdiv (pv 2) pe_int))))
        (pss_one (ps_ret (pe_op op_mod (pv 2) pe_int)))) pss_nil)
      (pss_one (ps_ret (pe_op op_mod (pe_op op_mul (pe_op op_mod (pe_op op_add (pe_op op_add (pe_op op_mul (pv 2) pe_int) (pe_op op_mul (pv 1) pe_int)) pe_int) pe_int) pe_int) pe_int)))))), ?_⟩
    refine ⟨_, rfl, _, .inl ⟨_, hS, rfl⟩, ?_⟩
    cases ns with
    | nil =>
      refine iteT ?_
      refine ⟨_, rfl, _, _, rfl, rfl, .inr ⟨by decide, by decide⟩, _, _, rfl, rfl, (by show (0 : Int) < 7; decide), ?_⟩
      have e : drawOf [] k = k * 5 % 7 := by unfold drawOf; rw [if_pos rfl]
      rw [e] at q
      exact q
    | cons n0 nr =>
      refine iteF ?_
      have hlen : ((List.map V.int (n0 :: nr)).length : Int) = (((n0 :: nr).length : Nat) : Int) := by rw [List.length_map]
      have hpos : (0 : Int) < (((n0 :: nr).length : Nat) : Int) := by simp only [List.length_cons]; omega
      have hl2 : (((n0 :: nr).length : Nat) : Int) ≤ 63 := by omega
      have hm0 : 0 ≤ k % (((n0 :: nr).length : Nat) : Int) := Int.emod_nonneg _ (by omega)
      have hm1 : k % (((n0 :: nr).length : Nat) : Int) < (((n0 :: nr).length : Nat) : Int) := Int.emod_lt_of_pos _ hpos
      generalize hns : (n0 :: nr) = ns at hS hl hlen hpos hl2 hm0 hm1 q ⊢
      have hne : ns ≠ [] := by rw [← hns]; exact List.cons_ne_nil _ _
      have hat : atI (ns.map V.int) (k % ((ns.map V.int).length : Int)) = some (.int (ns.getD (k % (ns.length : Int)).toNat 0)) := by
        rw [hlen]
        have e1 : (k % (ns.length : Int)) = (((k % (ns.length : Int)).toNat : Nat) : Int) := by omega
        rw [e1]
        refine atI_nat ?_
        have h2 : (k % (ns.length : Int)).toNat < ns.length := by omega
        rw [Int.toNat_natCast, List.getElem?_map, List.getD_eq_getElem?_getD, List.getElem?_eq_getElem h2]
        rfl
      refine ⟨_, rfl, _, rfl, _, rfl, _, _, rfl, .inl hS, _, _, rfl, rfl, (by rw [hlen]; exact hpos), _, _, _, _, rfl, rfl, hS, hat, .inl ⟨_, rfl, ?_⟩⟩
      refine ⟨_, rfl, _, rfl, _, _, rfl, .inl hS, _, _, rfl, rfl, (by rw [hlen]; exact ⟨hpos, by omega⟩), ?_⟩
      rw [hlen]
      refine ⟨_, rfl, _, _, rfl, rfl, _, rfl, ?_⟩
      have hturn0 : 0 ≤ k / (ns.length : Int) := Int.ediv_nonneg hk0 (by omega)
      have hturn1 : k / (ns.length : Int) ≤ k := Int.ediv_le_self _ hk0
      unfold drawOf at q
      rw [if_neg hne] at q
      dsimp only at q
      by_cases hb : (1000000000000000000 : Int) ≤ ns.getD (k % (ns.length : Int)).toNat 0
      · rw [if_pos hb] at q
        rw [decide_eq_true hb]
        refine iteT ?_
        have b1 : -(2 ^ 62) ≤ (if (60 : Int) < k / (ns.length : Int) then (60 : Int) else k / (ns.length : Int)) := by split <;> omega
        have b2 : (if (60 : Int) < k / (ns.length : Int) then (60 : Int) else k / (ns.length : Int)) < 2 ^ 62 := by split <;> omega
        refine ⟨_, rfl, _, _, rfl, _, rfl, b1, b2, ?_⟩
        refine for_range (fun i σ H' => H' = H ∧ ∃ v, σ = [some (.ref a), some (.int k), some (.int (cutBy i (ns.getD (k % (ns.length : Int)).toNat 0))), some (.int (k / (ns.length : Int))), v]) ⟨rfl, none, rfl⟩ ?_ ?_
        · rintro i σ H' hi ⟨rfl, v, rfl⟩
          exact ⟨_, rfl, _, _, rfl, rfl, ⟨by decide, by decide⟩, rfl, _, rfl⟩
        · rintro σ H' ⟨rfl, v, rfl⟩
          exact ⟨_, rfl, _, _, rfl, rfl, (by show (0 : Int) < 100003; decide), q⟩
      · rw [if_neg hb] at q
        rw [decide_eq_false hb]
        refine iteF ?_
        exact ⟨_, rfl, _, _, rfl, rfl, .inr ⟨by decide, by decide⟩, _, rfl, _, _, rfl, rfl, .inr ⟨by decide, by decide⟩, _, _, rfl, rfl, _, _, rfl, rfl, _, _, rfl, rfl, (by show (0 : Int) < 2147483647; decide), _, _, rfl, rfl, .inr ⟨by decide, by decide⟩, _, _, rfl, rfl, (by show (0 : Int) < 2147483629; decide), q⟩

end
/-! # A registry's seals and pens -/
def memD (l : List PyData) (d : PyData) : Bool := l.any fun e => eqD e d
theorem memD_app (l : List PyData) (e d : PyData) : memD (l ++ [e]) d = (memD l d || eqD e d) := by
  simp [memD, List.any_append]
theorem nm1 : ¬ (("_names" : Str) = "_sealed") := by decide +kernel
theorem nm2 : ¬ (("_names" : Str) = "_pens") := by decide +kernel
theorem nm3 : ¬ (("_sealed" : Str) = "_pens") := by decide +kernel
theorem nm4 : ¬ (("owner" : Str) = "_sealed") := by decide +kernel
def regF (a b c : Addr) : List (Str × V) := putF "_pens" (.ref c) (putF "_sealed" (.ref b) (putF "_names" (.ref a) []))
theorem regF_sealed (a b c : Addr) : (regF a b c).lookup ("_sealed" : Str) = some (.ref b) := by
  unfold regF
  rw [lookup_putF, if_neg nm3, lookup_putF, if_pos rfl]
theorem regF_pens (a b c : Addr) : (regF a b c).lookup ("_pens" : Str) = some (.ref c) := by
  unfold regF
  rw [lookup_putF, if_pos rfl]
theorem regF_no (a b c : Addr) {m : Str} (h1 : ¬ m = "_names") (h2 : ¬ m = "_sealed") (h3 : ¬ m = "_pens") : (regF a b c).lookup m = none := by
  unfold regF
  rw [lookup_putF, if_neg h3, lookup_putF, if_neg h2, lookup_putF, if_neg h1]
  all_goals rfl
def penF (o : Int) (ds : Addr) : List (Str × V) := putF "_sealed" (.ref ds) (putF "owner" (.int o) [])
theorem penF_owner (o : Int) (ds : Addr) : (penF o ds).lookup ("owner" : Str) = some (.int o) := by
  unfold penF
  rw [lookup_putF, if_neg nm4, lookup_putF, if_pos rfl]
theorem penF_sealed (o : Int) (ds : Addr) : (penF o ds).lookup ("_sealed" : Str) = some (.ref ds) := by
  unfold penF
  rw [lookup_putF, if_pos rfl]
theorem penF_no (o : Int) (ds : Addr) {m : Str} (h1 : ¬ m = "owner") (h2 : ¬ m = "_sealed") : (penF o ds).lookup m = none := by
  unfold penF
  rw [lookup_putF, if_neg h2, lookup_putF, if_neg h1]
  all_goals rfl
/-- the dict at ds has the texts of l -/
def SlAt (H : Hp) (ds : Addr) (l : List PyData) : Prop := ∃ kvs, H ds = some (.dK kvs) ∧ kvs.length ≤ l.length ∧ ∀ d, okD d = true → (valV kvs (.inr d.shown : L2.Key)).isSome = memD l d
/-- the dict at dp has the owners os -/
def PnAt (H : Hp) (dp : Addr) (os : List Int) : Prop := ∃ kvs, H dp = some (.dK kvs) ∧ kvs.length ≤ os.length ∧ ∀ i : Int, (valV kvs (.inl i : L2.Key)).isSome = decide (i ∈ os)
def RgAt (C : Addr) (H : Hp) (p ds dp : Addr) : Prop := ∃ dx dn, H p = some (.ins C dx (regF dn ds dp))
def PenAt (CP : Addr) (H : Hp) (q ds : Addr) (o : Int) : Prop := ∃ dx, H q = some (.ins CP dx (penF o ds))
structure TReg (K : PySem.W.Frag) (mg : Str → Option Value) (C fI CP fP : Addr) : Prop where
  cl : Cls K C
  nN : NoAttr K C "_names"
  nS : NoAttr K C "_sealed"
  nP : NoAttr K C "_pens"
  clP : Cls K CP
  pO : NoAttr K CP "owner"
  pS : NoAttr K CP "_sealed"
  mg_Registry : mg "Registry" = some (.ref C)
  mk_Registry : Mk K C fI
  mg_Pen : mg "Pen" = some (.ref CP)
  mk_Pen : Mk K CP fP
  repr : mg "repr" = none
/-- the error's class -/
structure TErr (K : PySem.W.Frag) (mg : Str → Option Value) (CI : Addr) : Prop where
  gA : mg "InvalidArgument" = some (.ref CI)
  xA : PySem.W.excIn K CI [.type "ValueError", .type "Exception", .type "BaseException", .type "object"] "ValueError.__new__" = true
  kA : PySem.W.keepIn K (.ref CI) = true
  bA : PySem.W.subIn K (.ref CI) (.type "BaseException") = some true
  tA : PySem.W.typeIn K (.ref CI) = some (.type "type")
section
variable {P : Program} {w : World} {K : PySem.W.Frag} {mg : Str → Option Value} {base : Heap}
def spText (K : PySem.W.Frag) : Sp := fun vs H Q _ => ∃ v d, vs = [v] ∧ Dp K H v d ∧ okD d = true ∧ d.depth ≤ 60 ∧ (encD d).length ≤ sizeLine ∧ Q (.str d.shown) H
abbrev s_text : Stmt := top 8
theorem sc_text : FnScope ["value"] ["value"] (defScope s_text) := ⟨rfl, rfl, rfl, by decide +kernel, rfl, by decide +kernel, by decide +kernel⟩
theorem ok_text {f C fI CP fP : Addr} {fd : FuncData} (F : Fun K "_text" "_text" s_text f fd) (T : TReg K mg C fI CP fP) : Gk P w K mg base 1 f fd ["value"] (spText K) := by
  refine okG F sc_text (fun vs H Q E h => ?_) (fun cdv A outer s H vs Q E hg hr h => ?_)
  · obtain ⟨v, d, rfl, _⟩ := h
    rfl
  · obtain ⟨v, d, rfl, hd, ok, dep, len, q⟩ := h
    refine ⟨_, (pss_one (ps_ret (pe_callB (call_reprD hg hr) (by rfl) T.repr bo_repr (pa_cons (pv 0) pa_nil)))), ?_⟩
    exact ⟨_, rfl, v, d, rfl, hd, ok, dep, by rw [shown_length ok]; exact len, q⟩
def spInit (C : Addr) : Sp := fun vs H Q _ => ∃ (p dx : Addr), vs = [.ref p] ∧ H p = some (.ins C dx []) ∧
  ∀ (ds dp : Addr) (H' : Hp), H ds = none → H dp = none → ds ≠ dp → RgAt C H' p ds dp → SlAt H' ds [] → PnAt H' dp [] → (∀ b o, H b = some o → b ≠ p → H' b = some o) → Q .non H'
abbrev s_init : Stmt := inClass (top 10) 0
theorem sc_init : FnScope ["self"] ["self"] (defScope s_init) := ⟨rfl, rfl, rfl, by decide +kernel, rfl, by decide +kernel, by decide +kernel⟩
theorem ok_init {f C fI CP fP : Addr} {fd : FuncData} (F : Fun K "__init__" "Registry.__init__" s_init f fd) (T : TReg K mg C fI CP fP) : FnOk P w K mg base CX0 1 f fd ["self"] (spInit C) := by
  refine F.ok sc_init (fun vs H Q E h => ?_) (fun cdv A outer s H vs Q E hr h => ?_)
  · obtain ⟨p, dx, rfl, _⟩ := h
    rfl
  · obtain ⟨p, dx, rfl, hp, k⟩ := h
    refine ⟨_, (pss_cons (ps_fld (pv 0) pe_dnewK rfl)
  (pss_cons (ps_fld (pv 0) pe_dnewK rfl)
  (pss_one (ps_fld (pv 0) pe_dnewK rfl)))), ?_⟩
    intro a ha
    have n1 : p ≠ a := ne_of_none hp ha
    refine ⟨_, rfl, p, C, dx, [], rfl, (by rw [upd_ne n1]; exact hp), T.cl, T.nN, (by show 0 < 1000; decide), ?_⟩
    intro b hb
    have n2 : p ≠ b := ne_of_none upd_same hb
    have n3 : b ≠ a := by
      intro z
      subst z
      rw [upd_ne n1.symm, upd_same] at hb
      cases hb
    refine ⟨_, rfl, p, C, dx, _, rfl, (by rw [upd_ne n2]; exact upd_same), T.cl, T.nS, (by show 1 < 1000; decide), ?_⟩
    intro c hc
    have n4 : p ≠ c := ne_of_none upd_same hc
    have n5 : c ≠ b := by
      intro z
      subst z
      rw [upd_ne n2.symm, upd_same] at hc
      cases hc
    have n6 : c ≠ a := by
      intro z
      subst z
      rw [upd_ne n1.symm, upd_ne n3.symm, upd_ne n1.symm, upd_same] at hc
      cases hc
    refine ⟨_, rfl, p, C, dx, _, rfl, (by rw [upd_ne n4]; exact upd_same), T.cl, T.nP, (by show 2 < 1000; decide), ?_⟩
    have hb0 : H b = none := by
      rw [upd_ne n2.symm, upd_ne n3] at hb
      exact hb
    have hc0 : H c = none := by
      rw [upd_ne n4.symm, upd_ne n5, upd_ne n4.symm, upd_ne n6] at hc
      exact hc
    refine k b c _ hb0 hc0 n5.symm ⟨dx, a, upd_same⟩ ⟨[], ?_, Nat.le_refl _, fun _ _ => rfl⟩ ⟨[], ?_, Nat.le_refl _, fun _ => rfl⟩ fun d o e hd => ?_
    · rw [upd_ne n2.symm, upd_ne n5.symm, upd_ne n2.symm, upd_same]
    · rw [upd_ne n4.symm, upd_same]
    · have d1 : d ≠ a := ne_of_none e ha
      have e1 : (upd (upd H a (.dK [])) p (.ins C dx (putF "_names" (.ref a) []))) d = some o := by rw [upd_ne hd, upd_ne d1]; exact e
      have d2 : d ≠ b := ne_of_none e1 hb
      have e2 : (upd (upd (upd (upd H a (.dK [])) p (.ins C dx (putF "_names" (.ref a) []))) b (.dK [])) p (.ins C dx (putF "_sealed" (.ref b) (putF "_names" (.ref a) [])))) d = some o := by rw [upd_ne hd, upd_ne d2]; exact e1
      have d3 : d ≠ c := ne_of_none e2 hc
      rw [upd_ne hd, upd_ne d3]
      exact e2
def spPInit (CP : Addr) : Sp := fun vs H Q _ => ∃ (p dx ds : Addr) (o : Int), vs = [.ref p, .int o, .ref ds] ∧ H p = some (.ins CP dx []) ∧
  ∀ (H' : Hp), PenAt CP H' p ds o → (∀ b o, H b = some o → b ≠ p → H' b = some o) → Q .non H'
abbrev s_pinit : Stmt := inClass (top 9) 0
theorem sc_pinit : FnScope ["self", "owner", "sealed"] ["self", "owner", "sealed"] (defScope s_pinit) := ⟨rfl, rfl, rfl, by decide +kernel, rfl, by decide +kernel, by decide +kernel⟩
theorem ok_pinit {f C fI CP fP : Addr} {fd : FuncData} (F : Fun K "__init__" "Pen.__init__" s_pinit f fd) (T : TReg K mg C fI CP fP) : FnOk P w K mg base CX0 1 f fd ["self", "owner", "sealed"] (spPInit CP) := by
  refine F.ok sc_pinit (fun vs H Q E h => ?_) (fun cdv A outer s H vs Q E hr h => ?_)
  · obtain ⟨p, dx, ds, o, rfl, _⟩ := h
    rfl
  · obtain ⟨p, dx, ds, o, rfl, hp, k⟩ := h
    refine ⟨_, (pss_cons (ps_fld (pv 0) (pv 1) rfl)
  (pss_one (ps_fld (pv 0) (pv 2) rfl))), ?_⟩
    refine ⟨_, rfl, _, rfl, p, CP, dx, [], rfl, hp, T.clP, T.pO, (by show 0 < 1000; decide), ?_⟩
    refine ⟨_, rfl, _, rfl, p, CP, dx, _, rfl, upd_same, T.clP, T.pS, (by show 1 < 1000; decide), ?_⟩
    refine k _ ⟨dx, upd_same⟩ fun d o e hd => ?_
    rw [upd_ne hd, upd_ne hd]
    exact e
end
end Vk
namespace Vk
open PySem PySem.Spec PyProof.Rows L2
open C8 (pss_cut tCut)
section
variable {X : Cx} {CX : CXT} {k : Nat} {f C : Addr} {fd : FuncData} {ps : List Str} {sp : Sp} {E : L2.St → XK} {m : Str} {p pos apos : Pos} {e o : Expr} {es : List Expr} {ta : TE} {t : TA}
/-- o.m(e, ..), where an error may come out -/
def tMethX (C : Addr) (m : Str) (sp : Sp) (E : L2.St → XK) (ta : TE) (t : TA) : TE := fun σ H Q => tMeth C m sp [] (E σ) ta t σ H Q
theorem pe_methX {pl : Sem Bool} (he : PE X o ta) (c : Cls X.K C) (hm : Meth X.K C m f) (F : FnOk X.prog X.w X.K X.mg X.base CX k f fd ps sp) (room : Room k X.A) (B : Binds X.K fd ps []) (hx : ∀ σ, PassesAt CX X σ (E σ))
    (ha : PA X (e :: es) t)
    (st : starEach (e :: es) X.env = (false, eval e X.env) :: starEach es X.env := by rfl)
    (pb : (backTo pos (starEach es X.env)).any (·.1) = false := by rfl)
    (ht : eval (.Call (.Attribute o m apos) (e :: es) [] pos) X.env = (do
        let ov ← eval o X.env
        standAt apos.atName
        let fm ← holding [ov] (getMethod ov m pl)
        callWith pos fm.1 fm.2 (backTo pos (starEach (e :: es) X.env)) (backToKw pos (keywordEach [] X.env))) := by rfl) :
    PE X (.Call (.Attribute o m apos) (e :: es) [] pos) (tMethX C m sp E ta t) := by
  constructor
  intro pins s σ H Q I h
  refine PySem.W.methodCall_KW (pl := pl) (thn (he.run pins s σ H _ I h) ?_) ht
  rintro u s1 ⟨v, H1, I1, rv, a, dx, fs, ev, ea, lo, q⟩
  cases ev
  cases (show u = Value.ref a from rv)
  refine getmeth_ok I1 ea c hm lo ?_
  refine PySem.W.callWith_K (first := [.ref a]) (h₀ := X.base) I.ok.mod.kin hm.kp (thn (ha.run pos pins s1 σ H1 _ I1 q) ?_) st pb
  rintro us s2 ⟨vs, H2, I2, r, q2⟩
  rw [List.append_nil] at q2
  exact ⟨I2.kIn, run_fnS (us := .ref a :: us) (vs := .ref a :: vs) F room B (hx σ) I2 (.cons rfl r) q2⟩
end
/-- isinstance of the error that is held -/
def rIsEx (K : PySem.W.Frag) (a : Addr) (cls : Value) (d : Option Addr) : List V → Hp → VK → Prop := fun xs H Q => ∃ D, cls = .ref D ∧ d = none ∧ ExcC K D ∧ rIsE K D a xs H Q
theorem call_isEx {X : Cx} {a : Addr} {cls : Value} {d : Option Addr} {oe : Obj} {pn : List (Addr × Obj)} (hz : Zc cls d oe) (hf : ∃ vs, oe.data = .fields vs) : CallR (X.suite a ((a, oe) :: pn)) (.builtin "isinstance") (rIsEx X.K a cls d) := by
  intro pins s σ H xs us Q I r h
  obtain ⟨D, rfl, rfl, hC, h⟩ := h
  exact call_isE hC hz hf pins s σ H xs us Q I r h
theorem pass_no {X : Cx} {P : Program} {w : World} : Passes (L2.CX P w) X E0 := fun _ _ _ _ _ _ _ h => by
  obtain ⟨_, _, _, _, _, _, _, _, _, _, _, _, z⟩ := h
  exact z.elim
section
variable {P : Program} {w : World} {K : PySem.W.Frag} {mg : Str → Option Value} {base : Heap}
def spPen (K : PySem.W.Frag) (C CP CI : Addr) : Sp := fun vs H Q E => ∃ (p ds dp : Addr) (l : List PyData) (os : List Int) (o : Int), vs = [.ref p, .int o] ∧ RgAt C H p ds dp ∧ SlAt H ds l ∧ PnAt H dp os ∧ ds ≠ dp ∧ os.length ≤ 1000 ∧ 0 ≤ o ∧ o < 100000 ∧
  (¬ o ∈ os → ∀ (q : Addr) (H' : Hp), H q = none → PenAt CP H' q ds o → PnAt H' dp (o :: os) → (∀ b u, H b = some u → b ≠ dp → H' b = some u) → Q (.ref q) H') ∧ (o ∈ os → E (.ref CI) none H)
abbrev s_pen : Stmt := inClass (top 10) 2
theorem sc_pen : FnScope ["self", "owner"] ["self", "owner"] (defScope s_pen) := ⟨rfl, rfl, rfl, by decide +kernel, rfl, by decide +kernel, by decide +kernel⟩
theorem ok_pen {f C fI CP fP CI : Addr} {fd fdP : FuncData} (F : Fun K "pen" "Registry.pen" s_pen f fd) (T : TReg K mg C fI CP fP) (TI : TErr K mg CI) (G_pinit : FnOk P w K mg base CX0 1 fP fdP ["self", "owner", "sealed"] (spPInit CP)) (B_pinit : Binds K fdP ["self", "owner", "sealed"] []) :
    FnOk P w K mg base (L2.CX P w) 3 f fd ["self", "owner"] (spPen K C CP CI) := by
  refine F.okX sc_pen (fun vs H Q E h => ?_) (fun cdv A outer s H vs Q E hr h => ?_)
  · obtain ⟨p, ds, dp, l, os, o, rfl, _⟩ := h
    rfl
  · obtain ⟨p, ds, dp, l, os, o, rfl, ⟨dx, dn, hp⟩, hS, ⟨kvs, hd, hk, hv⟩, nsp, lo, lg0, lg1, q1, q2⟩ := h
    refine ⟨_, (pss_cons (ps_if (pt_cmp (pc_din (hu_of hr) (pv 1) (pe_fld (pv 0) rfl))) (pss_one (ps_raise rfl (takes_of rfl rfl rfl rfl) (SkE.pmk_own1 PySem.F.excBase_ValueError TI.xA TI.gA TI.kA (raises_own TI.bA TI.tA) rfl (pe_joined (.cons pe_str (.cons (pe_fmt (pv 1)) (.cons pe_str .nil))))))) pss_nil)
  (pss_cons (ps_dput (hu_of hr) (pe_fld (pv 0) rfl) (pv 1) pe_bl rfl)
  (pss_one (ps_ret (pe_make T.mk_Pen G_pinit (hr.mono (by decide)) rfl T.mg_Pen B_pinit .nil pass0 (pa_cons (pv 1) (pa_cons (pe_fld (pv 0) rfl) pa_nil))))))), ?_⟩
    have ne : p ≠ dp := ne_of hp hd (by intro z; cases z)
    refine ⟨_, rfl, _, rfl, p, C, dx, _, _, rfl, hp, T.cl, T.nP, regF_pens _ _ _, dp, _, rfl, DGet.k (k := (Sum.inl o : L2.Key)) hd, _, rfl, ?_⟩
    have hvo := hv o
    cases e : valV kvs (.inl o : L2.Key) with
    | some y =>
      rw [e] at hvo
      have mem : o ∈ os := of_decide_eq_true hvo.symm
      refine iteT ?_
      have ln := intL_len (i := o) (k := 5) (by decide) (by omega)
      have okI : okD (.int o) = true := int_ok (k := 64) (by omega) (by decide) (by decide)
      have sl := shown_length okI
      have eT : (PyData.int o).shown = (toString o : Str) := rfl
      have eL : (encD (.int o)).length = (intL o).length := by rw [encD]
      have sz : (sizeLine : Nat) = 16777216 := by decide +kernel
      refine ⟨_, rfl, by rw [sz]; decide, _, rfl, .inr ⟨o, rfl, by simpa [okD] using okI, _, rfl, ?_, _, rfl, ?_, q2 mem⟩⟩
      · rw [PySem.Str.length_append, PySem.Str.length_append, ← eT, sl, eL, sz]
        have e1 : (Str.empty : Str).length + ("the pen of owner " : Str).length ≤ 50 := by decide +kernel
        omega
      · rw [PySem.Str.length_append, PySem.Str.length_append, PySem.Str.length_append, ← eT, sl, eL, sz]
        have e1 : (Str.empty : Str).length + ("the pen of owner " : Str).length ≤ 50 := by decide +kernel
        have e2 : (" was given before" : Str).length ≤ 50 := by decide +kernel
        omega
    | none =>
      rw [e] at hvo
      have mem : ¬ o ∈ os := of_decide_eq_false hvo.symm
      refine iteF ?_
      have hl : kvs.length < sizeLine := by
        have e0 : (sizeLine : Nat) = 16777216 := by decide +kernel
        omega
      have hput : DPut H dp (.int o) (.bl true) (upd H dp (.dK (putK kvs (.inl o) (.bl true)))) := DPut.k (k := (Sum.inl o : L2.Key)) hd hl
      have hp2 : (upd H dp (.dK (putK kvs (.inl o) (.bl true)))) p = some (.ins C dx (regF dn ds dp)) := by rw [upd_ne ne]; exact hp
      refine ⟨_, rfl, p, C, dx, _, _, rfl, hp, T.cl, T.nP, regF_pens _ _ _, _, rfl, dp, _, rfl, hput, ?_⟩
      refine ⟨_, rfl, _, rfl, p, C, dx, _, _, rfl, hp2, T.cl, T.nS, regF_sealed _ _ _, ?_⟩
      intro x dx2 nx ndx nex
      refine ⟨x, dx2, ds, o, rfl, upd_same, fun H3 hpen kp => ⟨rfl, ?_⟩⟩
      have xdp : dp ≠ x := ne_of_none upd_same nx
      have ddp : dp ≠ dx2 := ne_of_none upd_same ndx
      have hx0 : H x = none := by
        rw [upd_ne xdp.symm] at nx
        exact nx
      refine q1 mem x H3 hx0 hpen ⟨_, kp dp _ (by rw [upd_ne xdp, upd_ne ddp]; exact upd_same) xdp, ?_, fun i => ?_⟩ (fun b u hb nb => ?_)
      · rw [putK_new _ e, List.length_append, List.length_cons]
        simp only [List.length_cons, List.length_nil]
        omega
      · rw [valV_put]
        by_cases c : i = o
        · subst c
          rw [if_pos rfl]
          simp
        · have c1 : ¬ (Sum.inl i : L2.Key) = Sum.inl o := fun z => c (Sum.inl.inj z)
          rw [if_neg c1, hv i]
          simp [c]
      · have b1 : (upd H dp (.dK (putK kvs (.inl o) (.bl true)))) b = some u := by rw [upd_ne nb]; exact hb
        refine kp b u ?_ (ne_of_none b1 nx)
        rw [upd_ne (ne_of_none b1 nx), upd_ne (ne_of_none b1 ndx)]
        exact b1
theorem okD_two' {d e : PyData} (h : okD d = true) (h' : okD e = true) : okD (.tuple [d, e]) = true := by simp [okD, okDs, h, h']
def spSeal (K : PySem.W.Frag) (CP : Addr) : Sp := fun vs H Q _ => ∃ (q ds : Addr) (l : List PyData) (o : Int) (v : V) (d : PyData), vs = [.ref q, v] ∧ PenAt CP H q ds o ∧ SlAt H ds l ∧ l.length ≤ 1000 ∧ 0 ≤ o ∧ o < 100000 ∧ Dp K H v d ∧ okD d = true ∧ d.depth ≤ 50 ∧ (encD d).length ≤ 10000 ∧
  ∀ (t : Addr) (H' : Hp), H' t = some (.tup [.str "sealed", .int o, v]) → SlAt H' ds (l ++ [.tuple [.int o, d]]) → (∀ b u, H b = some u → b ≠ ds → H' b = some u) → KeepT H H' → Q (.ref t) H'
theorem okD_int {o : Int} (h0 : 0 ≤ o) (h1 : o < 100000) : okD (.int o) = true := int_ok (k := 64) (by omega) (by decide) (by decide)
theorem enc_int {o : Int} (h0 : 0 ≤ o) (h1 : o < 100000) : (encD (.int o)).length ≤ 10 := by
  have ln := intL_len (i := o) (k := 5) (by decide) (by omega)
  rw [encD]
  omega
abbrev s_seal : Stmt := inClass (top 9) 1
theorem sc_seal : FnScope ["self", "body"] ["self", "body"] (defScope s_seal) := ⟨rfl, rfl, rfl, by decide +kernel, rfl, by decide +kernel, by decide +kernel⟩
theorem ok_seal {f C fI CP fP ft : Addr} {fd fdt : FuncData} (F : Fun K "seal" "Pen.seal" s_seal f fd) (T : TReg K mg C fI CP fP) (C_text : CalG P w K mg base "_text" 1 ft fdt ["value"] (spText K)) : Gk P w K mg base 2 f fd ["self", "body"] (spSeal K CP) := by
  refine okG F sc_seal (fun vs H Q E h => ?_) (fun cdv A outer s H vs Q E hg hr h => ?_)
  · obtain ⟨q, ds, l, o, v, d, rfl, _⟩ := h
    rfl
  · obtain ⟨q, ds, l, o, v, d, rfl, ⟨dx, hq⟩, ⟨kvs, hd, hk, hv⟩, ll, o0, o1, hv1, okd, dep, len, k⟩ := h
    refine ⟨_, (pss_cons (ps_dput (hu_of hr) (pe_fld (pv 0) rfl) (pe_callG hg C_text.G (hr.mono (by decide)) rfl C_text.mg C_text.kp C_text.B (pa_cons (pe_tup (pa_cons (pe_fld (pv 0) rfl) (pa_cons (pv 1) pa_nil))) pa_nil)) pe_bl rfl)
  (pss_one (ps_ret (pe_tup (pa_cons pe_str (pa_cons (pe_fld (pv 0) rfl) (pa_cons (pv 1) pa_nil))))))), ?_⟩
    have ne : q ≠ ds := ne_of hq hd (by intro z; cases z)
    have sz : (sizeLine : Nat) = 16777216 := by decide +kernel
    refine ⟨_, rfl, q, CP, dx, _, _, rfl, hq, T.clP, T.pS, penF_sealed _ _, ?_⟩
    refine ⟨_, rfl, q, CP, dx, _, _, rfl, hq, T.clP, T.pO, penF_owner _ _, _, rfl, by show 2 ≤ sizeLine; omega, fun t0 h0 => ?_⟩
    have s0 := same_new (o := .tup [.int o, v]) h0
    have okI := okD_int o0 o1
    have lI := enc_int o0 o1
    have okP : okD (.tuple [.int o, d]) = true := by simp [okD, okDs, okd]; simpa [okD] using okI
    have dpP : Dp K (upd H t0 (.tup [.int o, v])) (.ref t0) (.tuple [.int o, d]) := .tup (SqT.of upd_same) (.cons (.int o) (.cons (dp_keep (keepT_of s0) _ _ okd hv1) .nil))
    have depI : (PyData.int o).depth = 0 := rfl
    refine ⟨_, _, rfl, dpP, okP, by simp only [PyData.depth, PyData.depthAll]; omega, by rw [enc_two, sz]; omega, ?_⟩
    have hd0 : (upd H t0 (.tup [.int o, v])) ds = some (.dK kvs) := s0 _ _ hd
    have hput : DPut (upd H t0 (.tup [.int o, v])) ds (.str (PyData.tuple [.int o, d]).shown) (.bl true) (upd (upd H t0 (.tup [.int o, v])) ds (.dK (putK kvs (.inr (PyData.tuple [.int o, d]).shown) (.bl true)))) :=
      DPut.k (k := (Sum.inr (PyData.tuple [.int o, d]).shown : L2.Key)) hd0 (by rw [sz]; omega)
    refine ⟨ds, _, rfl, hput, ?_⟩
    have hq1 : (upd (upd H t0 (.tup [.int o, v])) ds (.dK (putK kvs (.inr (PyData.tuple [.int o, d]).shown) (.bl true)))) q = some (.ins CP dx (penF o ds)) := by
      rw [upd_ne ne]
      exact s0 _ _ hq
    refine ⟨_, rfl, q, CP, dx, _, _, rfl, hq1, T.clP, T.pO, penF_owner _ _, _, rfl, by show 3 ≤ sizeLine; omega, fun t1 h1 => ?_⟩
    have nd : ds ≠ t1 := ne_of_none upd_same h1
    have kt : KeepT (upd H t0 (.tup [.int o, v])) (upd (upd H t0 (.tup [.int o, v])) ds (.dK (putK kvs (.inr (PyData.tuple [.int o, d]).shown) (.bl true)))) := KeepT.dK hd0
    refine k t1 _ upd_same ⟨putK kvs (.inr (PyData.tuple [.int o, d]).shown) (.bl true), by rw [upd_ne nd]; exact upd_same, ?_, fun e oke => ?_⟩ (fun b u hb nb => ?_) ?_
    · have := length_putK kvs (.inr (PyData.tuple [.int o, d]).shown : L2.Key) (.bl true)
      rw [List.length_append]
      simp only [List.length_cons, List.length_nil]
      omega
    · rw [valV_put, memD_app]
      by_cases c : e = .tuple [.int o, d]
      · subst c
        rw [if_pos rfl, (eqD_iff _ _ oke).mpr rfl]
        simp
      · have c1 : ¬ (Sum.inr e.shown : L2.Key) = Sum.inr (PyData.tuple [.int o, d]).shown := fun z => c (shown_inj oke okP (Sum.inr.inj z))
        have c2 : eqD (.tuple [.int o, d]) e = false := by
          cases z : eqD (.tuple [.int o, d]) e with
          | false => rfl
          | true => exact absurd ((eqD_iff _ _ okP).mp z).symm c
        rw [if_neg c1, hv e oke, c2, Bool.or_false]
    · have b1 := s0 b u hb
      have b2 : (upd (upd H t0 (.tup [.int o, v])) ds (.dK (putK kvs (.inr (PyData.tuple [.int o, d]).shown) (.bl true)))) b = some u := by
        rw [upd_ne nb]
        exact b1
      rw [upd_ne (ne_of_none b2 h1)]
      exact b2
    · exact ((keepT_of s0).trans kt).trans (keepT_of (same_new h1))
def spSealed (K : PySem.W.Frag) (C : Addr) : Sp := fun vs H Q _ => ∃ (p ds dp : Addr) (l : List PyData) (ov v : V) (od d : PyData), vs = [.ref p, ov, v] ∧ RgAt C H p ds dp ∧ SlAt H ds l ∧ Dp K H ov od ∧ okD od = true ∧ od.depth ≤ 10 ∧ (encD od).length ≤ 1000 ∧ Dp K H v d ∧ okD d = true ∧ d.depth ≤ 50 ∧ (encD d).length ≤ 10000 ∧
  ∀ (H' : Hp), Same H H' → Q (.bl (memD l (.tuple [od, d]))) H'
abbrev s_is_sealed : Stmt := inClass (top 10) 3
theorem sc_is_sealed : FnScope ["self", "owner", "value"] ["self", "owner", "value"] (defScope s_is_sealed) := ⟨rfl, rfl, rfl, by decide +kernel, rfl, by decide +kernel, by decide +kernel⟩
theorem ok_sealed {f C fI CP fP ft : Addr} {fd fdt : FuncData} (F : Fun K "is_sealed" "Registry.is_sealed" s_is_sealed f fd) (T : TReg K mg C fI CP fP) (C_text : CalG P w K mg base "_text" 1 ft fdt ["value"] (spText K)) : Gk P w K mg base 2 f fd ["self", "owner", "value"] (spSealed K C) := by
  refine okG F sc_is_sealed (fun vs H Q E h => ?_) (fun cdv A outer s H vs Q E hg hr h => ?_)
  · obtain ⟨p, ds, dp, l, ov, v, od, d, rfl, _⟩ := h
    rfl
  · obtain ⟨p, ds, dp, l, ov, v, od, d, rfl, ⟨dx, dn, hp⟩, ⟨kvs, hd, hk, hv⟩, ho1, oko, depo, leno, hv1, okd, dep, len, k⟩ := h
    refine ⟨_, (pss_one (ps_ret (pe_cmp (pc_din (hu_of hr) (pe_callG hg C_text.G (hr.mono (by decide)) rfl C_text.mg C_text.kp C_text.B (pa_cons (pe_tup (pa_cons (pv 1) (pa_cons (pv 2) pa_nil))) pa_nil)) (pe_fld (pv 0) rfl))))), ?_⟩
    have sz : (sizeLine : Nat) = 16777216 := by decide +kernel
    refine ⟨_, rfl, _, rfl, by show 2 ≤ sizeLine; omega, fun t0 h0 => ?_⟩
    have s0 := same_new (o := .tup [ov, v]) h0
    have okP := okD_two' oko okd
    have dpP : Dp K (upd H t0 (.tup [ov, v])) (.ref t0) (.tuple [od, d]) := .tup (SqT.of upd_same) (.cons (dp_keep (keepT_of s0) _ _ oko ho1) (.cons (dp_keep (keepT_of s0) _ _ okd hv1) .nil))
    refine ⟨_, _, rfl, dpP, okP, by simp only [PyData.depth, PyData.depthAll]; omega, by rw [enc_two, sz]; omega, ?_⟩
    refine ⟨_, rfl, p, C, dx, _, _, rfl, s0 _ _ hp, T.cl, T.nS, regF_sealed _ _ _, ds, _, rfl, DGet.k (k := (Sum.inr (PyData.tuple [od, d]).shown : L2.Key)) (s0 _ _ hd), ?_⟩
    rw [hv _ okP]
    exact k _ s0
end
end Vk
namespace Vk
open PySem PySem.Spec PyProof.Rows L2
open C8 (pss_cut tCut)
structure TCls (K : PySem.W.Frag) (mg : Str → Option Value) (CT CI CR CM CO : Addr) : Prop where
  gT : mg "TrothError" = some (.ref CT)
  gI : mg "InvalidArgument" = some (.ref CI)
  gR : mg "Refused" = some (.ref CR)
  gM : mg "MissingPage" = some (.ref CM)
  gO : mg "PowerOff" = some (.ref CO)
  ex : PySem.W.exmOne K (.ref CI) (.ref CT) = some true
  kI : PySem.W.kitOne K (.ref CI) (.ref CI) = some true
  kR : PySem.W.kitOne K (.ref CI) (.ref CR) = some false
  kM : PySem.W.kitOne K (.ref CI) (.ref CM) = some false
  kO : PySem.W.kitOne K (.ref CI) (.ref CO) = some false
  exc : ExcC K CI
  isinstance : mg "isinstance" = none
section
variable {P : Program} {w : World} {K : PySem.W.Frag} {mg : Str → Option Value} {base : Heap}
def spRefused (K : PySem.W.Frag) (C : Addr) : Sp := fun vs H Q _ => ∃ (p ds dp : Addr) (l : List PyData) (os : List Int) (o : Int), vs = [.ref p, .int o] ∧ RgAt C H p ds dp ∧ SlAt H ds l ∧ PnAt H dp os ∧ ds ≠ dp ∧ os.length ≤ 1000 ∧ 0 ≤ o ∧ o < 100000 ∧ o ∈ os ∧ Q (.bl true) H
abbrev s_refused : Stmt := top 17
theorem sc_refused : FnScope ["registry", "owner", "error"] ["registry", "owner"] (defScope s_refused) := ⟨rfl, rfl, rfl, by decide +kernel, rfl, by decide +kernel, by decide +kernel⟩
theorem ok_refused {f C CP CT CI CR CM CO fn : Addr} {fd fdn : FuncData} (F : Fun K "_law_refused" "_law_refused" s_refused f fd) (T : TCls K mg CT CI CR CM CO) (cl : Cls K C) (mt : Meth K C "pen" fn) (G_pen : FnOk P w K mg base (L2.CX P w) 3 fn fdn ["self", "owner"] (spPen K C CP CI)) (B_pen : Binds K fdn ["self", "owner"] []) :
    FnOk P w K mg base CX0 4 f fd ["registry", "owner"] (spRefused K C) := by
  refine F.ok sc_refused (fun vs H Q E h => ?_) (fun cdv A outer s H vs Q E hr h => ?_)
  · obtain ⟨p, ds, dp, l, os, o, rfl, _⟩ := h
    rfl
  · obtain ⟨p, ds, dp, l, os, o, rfl, hp, hS, hP, nsp, lo, o0, o1, mem, q⟩ := h
    have hr3 : Room 3 _ := hr.mono (by decide)
    refine ⟨_, (pss_cons (ps_try_as (i := 2) rfl rfl sc_refused.nd rfl rfl ⟨rfl, by decide, .inl T.gT⟩ takes0
        (fun W pn xe tk _ => pss_one (ps_expr (pe_methX (pv 0) cl mt G_pen hr3 B_pen (fun σ => passAt tk σ) (by exact (pa_cons (pv 1) pa_nil)))))
        (fun a oe cls d pn hz hf => pss_cons (ps_if (PW.pt (pw_or (pt_val (pe_callB (r := rIsEx K a cls d) (call_isEx hz hf) (by rfl) T.isinstance bo_isinstance (pa_cons (pv 2) (pa_cons (pe_glob (v := .ref CR) rfl T.gR rfl) pa_nil))))
            (pw_or (pt_val (pe_callB (r := rIsEx K a cls d) (call_isEx hz hf) (by rfl) T.isinstance bo_isinstance (pa_cons (pv 2) (pa_cons (pe_glob (v := .ref CM) rfl T.gM rfl) pa_nil))))
            (pw_or1 (pt_val (pe_callB (r := rIsEx K a cls d) (call_isEx hz hf) (by rfl) T.isinstance bo_isinstance (pa_cons (pv 2) (pa_cons (pe_glob (v := .ref CO) rfl T.gO rfl) pa_nil)))))))) (pss_one (ps_ret pe_bl)) pss_nil)
          (pss_one (ps_ret (pe_callB (r := rIsEx K a cls d) (call_isEx hz hf) (by rfl) T.isinstance bo_isinstance (pa_cons (pv 2) (pa_cons (pe_glob (v := .ref CI) rfl T.gI rfl) pa_nil)))))))
      (pss_one (ps_ret pe_bl))), ?_⟩
    have hm : ∀ dn, (regF dn ds dp).lookup ("pen" : Str) = none := fun dn => regF_no _ _ _ (by decide +kernel) (by decide +kernel) (by decide +kernel)
    obtain ⟨dx, dn, hp'⟩ := id hp
    refine ⟨_, rfl, p, dx, _, rfl, hp', hm dn, _, rfl, p, ds, dp, l, os, o, rfl, hp, hS, hP, nsp, lo, o0, o1, fun n => absurd mem n, fun _ => ?_⟩
    refine ⟨true, T.ex, fun _ a ha => ?_, fun z => Bool.noConfusion z⟩
    refine ⟨_, rfl, CI, rfl, rfl, T.exc, .ref CR, _, _, rfl, fun u h => h, T.kR, _, rfl, iteF ?_⟩
    refine ⟨_, rfl, CI, rfl, rfl, T.exc, .ref CM, _, _, rfl, fun u h => h, T.kM, _, rfl, iteF ?_⟩
    refine ⟨_, rfl, CI, rfl, rfl, T.exc, .ref CO, _, _, rfl, fun u h => h, T.kO, _, rfl, iteF ?_⟩
    exact ⟨_, rfl, CI, rfl, rfl, T.exc, .ref CI, _, _, rfl, fun u h => h, T.kI, q⟩
end
end Vk
namespace Vk
open PySem PySem.Spec PyProof.Rows L2
open C8 (pss_cut tCut)
theorem joinL_big : ∀ ls : List (List Nat), 2 * ls.length ≤ (joinL ls).length + 2
  | [] => by simp
  | [x] => by simp
  | x :: y :: r => by
    have ih := joinL_big (y :: r)
    simp only [joinL, List.length_append, List.length_cons] at ih ⊢
    omega
theorem joinL_mem : ∀ (ls : List (List Nat)) (l : List Nat), l ∈ ls → l.length ≤ (joinL ls).length
  | [], _, h => by cases h
  | [x], l, h => by
    rw [List.mem_singleton.mp h]
    exact Nat.le_refl _
  | x :: y :: r, l, h => by
    have ih := joinL_mem (y :: r) l
    simp only [joinL, List.length_append, List.length_cons]
    rcases List.mem_cons.mp h with h | h
    · rw [h]
      omega
    · have := ih h
      omega
theorem encDs_at : ∀ {xs : List PyData} {i : Nat} {d : PyData}, xs[i]? = some d → encD d ∈ encDs xs
  | [], _, _, h => by simp at h
  | x :: xs, 0, d, h => by
    simp at h
    subst h
    exact List.mem_cons_self
  | x :: xs, i + 1, d, h => List.mem_cons_of_mem _ (encDs_at (i := i) (by simpa using h))
theorem enc_item {xs : List PyData} {i : Nat} {d : PyData} (h : xs[i]? = some d) : (encD d).length ≤ (encD (.tuple xs)).length := by
  have z := joinL_mem _ _ (encDs_at h)
  simp only [encD, List.length_cons, List.length_append]
  omega
theorem enc_wide (xs : List PyData) : xs.length ≤ (encD (.tuple xs)).length + 2 := by
  have z := joinL_big (encDs xs)
  rw [encDs_len] at z
  simp only [encD, List.length_cons, List.length_append]
  omega
theorem notTup {d : PyData} (h : ¬ isTupD d = true) : isTupD d = false := by
  cases e : isTupD d with
  | true => exact absurd e h
  | false => rfl
section
variable {P : Program} {w : World} {K : PySem.W.Frag} {mg : Str → Option Value} {base : Heap}
def spSame (K : PySem.W.Frag) (n : Nat) : Sp := fun vs H Q _ => ∃ v1 v2 d1 d2, vs = [v1, v2] ∧ Dp K H v1 d1 ∧ Dp K H v2 d2 ∧ okD d1 = true ∧ okD d2 = true ∧ d1.depth < n ∧ (encD d1).length ≤ 100000 ∧ Q (.bl (eqD d1 d2)) H
structure TSame (mg : Str → Option Value) : Prop where
  len : mg "len" = none
  range : mg "range" = none
  isinstance : mg "isinstance" = none
  tuple : mg "tuple" = none
  bool : mg "bool" = none
  int : mg "int" = none
abbrev s_same : Stmt := top 13
theorem sc_same : FnScope ["first", "second", "k"] ["first", "second"] (defScope s_same) := ⟨rfl, rfl, rfl, by decide +kernel, rfl, by decide +kernel, by decide +kernel⟩
theorem ok_same {f : Addr} {fd : FuncData} (F : Fun K "_law_same" "_law_same" s_same f fd) (T : TSame mg) (mgS : mg "_law_same" = some (.ref f)) (kpS : PySem.W.keepIn K (.ref f) = true) (bS : Binds K fd ["first", "second"] []) :
    ∀ n, FnOk P w K mg base CX0 n f fd ["first", "second"] (spSame K n)
  | 0 => ⟨fun vs H Q E h => by obtain ⟨v1, v2, d1, d2, rfl, _⟩ := h; rfl, fun A outer s H args us vs Q E _ _ _ _ h => by
      obtain ⟨v1, v2, d1, d2, _, _, _, _, _, dep, _⟩ := h
      exact absurd dep (Nat.not_lt_zero _)⟩
  | n + 1 => by
    have C_same : Cal P w K mg base "_law_same" n f fd ["first", "second"] (spSame K n) := ⟨ok_same F T mgS kpS bS n, mgS, kpS, bS⟩
    refine F.ok sc_same (fun vs H Q E h => ?_) (fun cdv A outer s H vs Q E hr h => ?_)
    · obtain ⟨v1, v2, d1, d2, rfl, _⟩ := h
      rfl
    · obtain ⟨v1, v2, d1, d2, rfl, h1, h2, ok1, ok2, dep, len, q⟩ := h
      refine ⟨_, (pss_cut (ps_if (PW.pt (pw_and (pt_val (pe_callB (r := rIsi K) call_isi (by rfl) T.isinstance bo_isinstance (pa_cons (pv 0) (pa_cons (pe_bltn (v := .ty "tuple") (by rfl) T.tuple (by decide +kernel) rfl) pa_nil)))) (pw_and1 (pt_val (pe_callB (r := rIsi K) call_isi (by rfl) T.isinstance bo_isinstance (pa_cons (pv 1) (pa_cons (pe_bltn (v := .ty "tuple") (by rfl) T.tuple (by decide +kernel) rfl) pa_nil))))))) (pss_cons (ps_if (pt_cmpR op_ne (pe_callB call_len_seq (by rfl) T.len bo_len (pa_cons (pv 0) pa_nil)) (pe_callB call_len_seq (by rfl) T.len bo_len (pa_cons (pv 1) pa_nil)) (nomark _)) (pss_one (ps_ret pe_bl)) pss_nil)
  (pss_cons (ps_for PassesOwn.never rfl (pi_range1 rfl T.range (pa_cons (pe_callB call_len_seq (by rfl) T.len bo_len (pa_cons (pv 0) pa_nil)) pa_nil)) (pg_name (i := 2) sc_same.nd rfl (Or.inl rfl))
  (pss_one (ps_if (pt_not (pt_val (pe_call C_same.G hr rfl C_same.mg C_same.kp C_same.B .nil pass0 (pa_cons (pe_ix ix_tup (pv 0) (pv 2) (fun _ _ => rfl)) (pa_cons (pe_ix ix_tup (pv 1) (pv 2) (fun _ _ => rfl)) pa_nil))))) (pss_one (ps_ret pe_bl)) pss_nil)))
  (pss_one (ps_ret pe_bl)))) pss_nil)
  (pss_cut (ps_if (PW.pt (pw_or (pt_val (pe_callB (r := rIsi K) call_isi (by rfl) T.isinstance bo_isinstance (pa_cons (pv 0) (pa_cons (pe_bltn (v := .ty "tuple") (by rfl) T.tuple (by decide +kernel) rfl) pa_nil)))) (pw_or1 (pt_val (pe_callB (r := rIsi K) call_isi (by rfl) T.isinstance bo_isinstance (pa_cons (pv 1) (pa_cons (pe_bltn (v := .ty "tuple") (by rfl) T.tuple (by decide +kernel) rfl) pa_nil))))))) (pss_one (ps_ret pe_bl)) pss_nil)
  (pss_cons (ps_if (PW.pt (pw_or (pt_val (pe_callB (r := rIsi K) call_isi (by rfl) T.isinstance bo_isinstance (pa_cons (pv 0) (pa_cons (pe_bltn (v := .ty "bool") (by rfl) T.bool (by decide +kernel) rfl) pa_nil)))) (pw_or1 (pt_val (pe_callB (r := rIsi K) call_isi (by rfl) T.isinstance bo_isinstance (pa_cons (pv 1) (pa_cons (pe_bltn (v := .ty "bool") (by rfl) T.bool (by decide +kernel) rfl) pa_nil))))))) (pss_one (ps_ret (pe_and (pe_callB (r := rIsi K) call_isi (by rfl) T.isinstance bo_isinstance (pa_cons (pv 0) (pa_cons (pe_bltn (v := .ty "bool") (by rfl) T.bool (by decide +kernel) rfl) pa_nil))) (pe_and (pe_callB (r := rIsi K) call_isi (by rfl) T.isinstance bo_isinstance (pa_cons (pv 1) (pa_cons (pe_bltn (v := .ty "bool") (by rfl) T.bool (by decide +kernel) rfl) pa_nil))) (pe_one (pe_cmpR op_eq (pv 0) (pv 1) (nomark _))))))) pss_nil)
  (pss_one (ps_ret (pe_cmpR op_eq (pv 0) (pv 1) (nomark _))))))), ?_⟩
      have ht1 := dp_ty h1 ok1
      have ht2 := dp_ty h2 ok2
      have hk1 := kit_tup (K := K) ok1
      have hk2 := kit_tup (K := K) ok2
      -- both are tuples
      refine ⟨fun σ H' => H' = H ∧ σ = [some v1, some v2, none] ∧ ¬ (isTupD d1 = true ∧ isTupD d2 = true), ?_, ?_⟩
      · refine ⟨_, rfl, _, _, _, _, _, rfl, .ty "tuple", ht1, hk1, _, rfl, ?_⟩
        by_cases c1 : isTupD d1 = true
        · refine ifT c1 ?_
          refine ⟨_, rfl, _, _, _, _, _, rfl, .ty "tuple", ht2, hk2, _, rfl, ?_⟩
          by_cases c2 : isTupD d2 = true
          · refine ifT c2 ?_
            cases h1 with
            | non => cases c1
            | bl b => cases c1
            | int i => cases c1
            | str x => cases c1
            | lst _ _ => simp [okD] at ok1
            | @tup a1 vs1 xs hs1 ha1 =>
            cases h2 with
            | non => cases c2
            | bl b => cases c2
            | int i => cases c2
            | str x => cases c2
            | lst _ _ => simp [okD] at ok2
            | @tup a2 vs2 ys hs2 ha2 =>
            have l1 := dp_len ha1
            have l2 := dp_len ha2
            have wide := enc_wide xs
            have okx : okDs xs = true := by simpa [okD] using ok1
            have oky : okDs ys = true := by simpa [okD] using ok2
            have qe : eqD (.tuple xs) (.tuple ys) = eqDs xs ys := by simp [eqD]
            rw [qe] at q
            refine ⟨_, rfl, _, _, rfl, .inr hs1, _, rfl, _, _, rfl, .inr hs2, rfl, _, rfl, ?_⟩
            by_cases c : xs.length = ys.length
            · refine iteNS (c := V.int (vs1.length : Int) = V.int (vs2.length : Int)) (by rw [l1, l2, c]) ?_
              refine ⟨_, rfl, _, _, rfl, .inr hs1, _, rfl, by omega, by omega, ?_⟩
              refine for_range (n := ((vs1.length : Nat) : Int).toNat) (fun i σ H' => H' = H ∧ (∃ v, σ = [some (.ref a1), some (.ref a2), v]) ∧ ∀ (j : Nat) (x y : PyData), j < i → xs[j]? = some x → ys[j]? = some y → eqD x y = true)
                ⟨rfl, ⟨none, rfl⟩, fun j x y hj => absurd hj (Nat.not_lt_zero j)⟩ ?_ ?_
              · rintro i σ H' hi ⟨rfl, ⟨v, rfl⟩, hall⟩
                have hi1 : i < xs.length := by omega
                have ex := List.getElem?_eq_getElem hi1
                have ey := List.getElem?_eq_getElem (show i < ys.length by omega)
                obtain ⟨u1, eu1, hu1⟩ := dp_at ha1 ex
                obtain ⟨u2, eu2, hu2⟩ := dp_at ha2 ey
                have oi : ((0 : Int) + (i : Int)) = ((i : Nat) : Int) := by omega
                have dpi := depth_at ex
                have leni := enc_item ex
                refine ⟨_, rfl, _, rfl, a1, vs1, _, u1, rfl, rfl, hs1, by rw [oi]; exact atI_nat eu1, _, rfl, _, rfl, a2, vs2, _, u2, rfl, rfl, hs2, by rw [oi]; exact atI_nat eu2, ?_⟩
                refine ⟨u1, u2, _, _, rfl, hu1, hu2, okDs_at okx ex, okDs_at oky ey, by simp only [PyData.depth] at dep; omega, by omega, _, rfl, ?_⟩
                cases ce : eqD xs[i] ys[i] with
                | true =>
                  refine iteF ?_
                  refine ⟨rfl, ⟨_, rfl⟩, fun j x y hj hx hy => ?_⟩
                  by_cases e : j = i
                  · subst e
                    rw [ex] at hx
                    rw [ey] at hy
                    cases hx
                    cases hy
                    exact ce
                  · exact hall j x y (by omega) hx hy
                | false =>
                  refine iteT ?_
                  have z : eqDs xs ys = false := by
                    cases e : eqDs xs ys with
                    | false => rfl
                    | true =>
                      have := (eqDs_at xs ys c).mp e i _ _ ex ey
                      rw [ce] at this
                      cases this
                  rw [z] at q
                  exact q
              · rintro σ H' ⟨rfl, ⟨v, rfl⟩, hall⟩
                have z : eqDs xs ys = true := (eqDs_at xs ys c).mpr (fun j x y hx hy => hall j x y (by have := (List.getElem?_eq_some_iff.mp hx).1; omega) hx hy)
                rw [z] at q
                exact q
            · have ne : ¬ (V.int (vs1.length : Int)) = V.int (vs2.length : Int) := fun z => by
                have := V.int.inj z
                omega
              refine ifT (by rw [decide_eq_false ne]; rfl) ?_
              rw [eqDs_len xs ys c] at q
              exact q
          · exact ifF (notTup c2) ⟨rfl, rfl, fun z => c2 z.2⟩
        · exact ifF (notTup c1) ⟨rfl, rfl, fun z => c1 z.1⟩
      -- one of them is
      rintro σ H' ⟨rfl, rfl, notBoth⟩
      refine ⟨fun σ H2 => H2 = H' ∧ σ = [some v1, some v2, none] ∧ isTupD d1 = false ∧ isTupD d2 = false, ?_, ?_⟩
      · refine ⟨_, rfl, _, _, _, _, _, rfl, .ty "tuple", ht1, hk1, _, rfl, ?_⟩
        by_cases c1 : isTupD d1 = true
        · refine ifT c1 ?_
          have c2 := notTup (d := d2) (fun z => notBoth ⟨c1, z⟩)
          have z : eqD d1 d2 = false := by
            cases d1 <;> cases d2 <;> first | rfl | (simp [isTupD] at c1 c2; done) | simp [eqD]
          rw [z] at q
          exact q
        · refine ifF (notTup c1) ?_
          refine ⟨_, rfl, _, _, _, _, _, rfl, .ty "tuple", ht2, hk2, _, rfl, ?_⟩
          by_cases c2 : isTupD d2 = true
          · refine ifT c2 ?_
            have z : eqD d1 d2 = false := by
              have c1' := notTup c1
              cases d1 <;> cases d2 <;> first | rfl | (simp [isTupD] at c1' c2; done) | simp [eqD]
            rw [z] at q
            exact q
          · exact ifF (notTup c2) ⟨rfl, rfl, notTup c1, notTup c2⟩
      rintro σ H2 ⟨rfl, rfl, n1, n2⟩
      have hb1 := kit_bool (K := K) ok1
      have hb2 := kit_bool (K := K) ok2
      refine ⟨_, rfl, _, _, _, _, _, rfl, .ty "bool", ht1, hb1, _, rfl, ?_⟩
      cases h1 with
      | lst _ _ => simp [okD] at ok1
      | tup _ _ => cases n1
      | bl b =>
        refine iteT ?_
        refine ⟨_, rfl, _, _, _, _, _, rfl, .ty "bool", ht1, hb1, _, rfl, iteT ?_⟩
        refine ⟨_, rfl, _, _, _, _, _, rfl, .ty "bool", ht2, hb2, _, rfl, ?_⟩
        cases h2 with
        | lst _ _ => simp [okD] at ok2
        | tup _ _ => cases n2
        | bl b2 =>
          refine iteT ?_
          refine ⟨_, rfl, _, rfl, rfl, ?_⟩
          have z : decide (V.bl b = V.bl b2) = eqD (.bool b) (.bool b2) := by simp [eqD]
          rw [z]
          exact q
        | non => exact iteF (by simpa [eqD] using q)
        | int i => exact iteF (by simpa [eqD] using q)
        | str x => exact iteF (by simpa [eqD] using q)
      | non =>
        refine iteF ?_
        refine ⟨_, rfl, _, _, _, _, _, rfl, .ty "bool", ht2, hb2, _, rfl, ?_⟩
        cases h2 with
        | lst _ _ => simp [okD] at ok2
        | tup _ _ => cases n2
        | bl b2 =>
          refine iteT ?_
          refine ⟨_, rfl, _, _, _, _, _, rfl, .ty "bool", ht1, hb1, _, rfl, iteF ?_⟩
          simpa [eqD] using q
        | non => exact iteF ⟨_, rfl, _, rfl, rfl, by simpa [eqD] using q⟩
        | int i => exact iteF ⟨_, rfl, _, rfl, rfl, by simpa [eqD] using q⟩
        | str x => exact iteF ⟨_, rfl, _, rfl, rfl, by simpa [eqD] using q⟩
      | int i1 =>
        refine iteF ?_
        refine ⟨_, rfl, _, _, _, _, _, rfl, .ty "bool", ht2, hb2, _, rfl, ?_⟩
        cases h2 with
        | lst _ _ => simp [okD] at ok2
        | tup _ _ => cases n2
        | bl b2 =>
          refine iteT ?_
          refine ⟨_, rfl, _, _, _, _, _, rfl, .ty "bool", ht1, hb1, _, rfl, iteF ?_⟩
          simpa [eqD] using q
        | non => exact iteF ⟨_, rfl, _, rfl, rfl, by simpa [eqD] using q⟩
        | int i => exact iteF ⟨_, rfl, _, rfl, rfl, by simpa [eqD] using q⟩
        | str x => exact iteF ⟨_, rfl, _, rfl, rfl, by simpa [eqD] using q⟩
      | str x1 =>
        refine iteF ?_
        refine ⟨_, rfl, _, _, _, _, _, rfl, .ty "bool", ht2, hb2, _, rfl, ?_⟩
        cases h2 with
        | lst _ _ => simp [okD] at ok2
        | tup _ _ => cases n2
        | bl b2 =>
          refine iteT ?_
          refine ⟨_, rfl, _, _, _, _, _, rfl, .ty "bool", ht1, hb1, _, rfl, iteF ?_⟩
          simpa [eqD] using q
        | non => exact iteF ⟨_, rfl, _, rfl, rfl, by simpa [eqD] using q⟩
        | int i => exact iteF ⟨_, rfl, _, rfl, rfl, by simpa [eqD] using q⟩
        | str x => exact iteF ⟨_, rfl, _, rfl, rfl, by simpa [eqD] using q⟩
def spIs : Sp := fun vs H Q _ => ∃ a b : Bool, vs = [.bl a, .bl b] ∧ Q (.bl (decide (V.bl a = V.bl b))) H
abbrev s_is : Stmt := top 16
theorem sc_is : FnScope ["answer", "due"] ["answer", "due"] (defScope s_is) := ⟨rfl, rfl, rfl, by decide +kernel, rfl, by decide +kernel, by decide +kernel⟩
theorem ok_is {f : Addr} {fd : FuncData} (F : Fun K "_law_is" "_law_is" s_is f fd) (T : TSame mg) : FnOk P w K mg base CX0 1 f fd ["answer", "due"] spIs := by
  refine F.ok sc_is (fun vs H Q E h => ?_) (fun cdv A outer s H vs Q E hr h => ?_)
  · obtain ⟨a, b, rfl, _⟩ := h
    rfl
  · obtain ⟨a, b, rfl, q⟩ := h
    refine ⟨_, (pss_one (ps_ret (pe_and (pe_callB (r := rIsi K) call_isi (by rfl) T.isinstance bo_isinstance (pa_cons (pv 0) (pa_cons (pe_bltn (v := .ty "bool") (by rfl) T.bool (by decide +kernel) rfl) pa_nil))) (pe_one (pe_cmpR op_eq (pv 0) (pv 1) (nomark _)))))), ?_⟩
    have ht : TyX K H (.bl a) (.type "bool") := .base (.bl a)
    have hk : PySem.W.kitOne K (.type "bool") (.type "bool") = some true := kit_ty (a := "bool") (r := true) (by decide +kernel)
    refine ⟨_, rfl, _, _, _, _, _, rfl, .ty "bool", ht, hk, _, rfl, iteT ?_⟩
    exact ⟨_, rfl, _, rfl, rfl, q⟩
theorem okD_three {a b c : PyData} (h1 : okD a = true) (h2 : okD b = true) (h3 : okD c = true) : okD (.tuple [a, b, c]) = true := by simp [okD, okDs, h1, h2, h3]
theorem enc_three (a b c : PyData) : (encD (.tuple [a, b, c])).length = (encD a).length + (encD b).length + (encD c).length + 6 := by
  simp only [encD, encDs, joinL, List.length_cons, List.length_append, List.length_nil, closeL]
  simp
  omega
/-- a body: three parts -/
structure Body (d : PyData) : Prop where
  ok : okD d = true
  dep : d.depth ≤ 3
  len : (encD d).length ≤ 100
  three : ∃ a b c, d = .tuple [a, b, c]
def spBody (K : PySem.W.Frag) : Sp := fun vs H Q _ => ∃ n : Int, vs = [.int n] ∧ 0 ≤ n ∧ n < 2 ^ 31 ∧ ∀ v d H', Same H H' → Dp K H' v d → Body d → Q v H'
abbrev s_body : Stmt := top 14
theorem sc_body : FnScope ["number", "last"] ["number"] (defScope s_body) := ⟨rfl, rfl, rfl, by decide +kernel, rfl, by decide +kernel, by decide +kernel⟩
theorem ok_body {f : Addr} {fd : FuncData} (F : Fun K "_law_body" "_law_body" s_body f fd) : FnOk P w K mg base CX0 1 f fd ["number"] (spBody K) := by
  refine F.ok sc_body (fun vs H Q E h => ?_) (fun cdv A outer s H vs Q E hr h => ?_)
  · obtain ⟨n, rfl, _⟩ := h
    rfl
  · obtain ⟨n, rfl, n0, n1, q⟩ := h
    refine ⟨_, (pss_cons (ps_set (i := 1) sc_body.nd rfl (Or.inl rfl) (pe_ix ix_list (pe_lst (pa_cons pe_non (pa_cons pe_int (pa_cons pe_bl (pa_cons pe_int (pa_cons pe_bl (pa_cons pe_str (pa_cons (pe_tup pa_nil) (pa_cons (pe_tup (pa_cons pe_non pa_nil)) pa_nil))))))))) (pe_op op_mod (pv 0) pe_int) (fun _ _ => rfl)))
  (pss_one (ps_ret (pe_tup (pa_cons (pe_ix ix_list (pe_lst (pa_cons pe_str (pa_cons pe_str pa_nil))) (pe_op op_mod (pe_op op_fdiv (pv 0) pe_int) pe_int) (fun _ _ => rfl)) (pa_cons (pe_op op_add pe_int (pe_op op_mod (pe_op op_fdiv (pv 0) pe_int) pe_int)) (pa_cons (pv 1) pa_nil))))))), ?_⟩
    refine ⟨Nat.zero_le _, fun t0 h0 => ⟨by show 1 ≤ sizeLine; decide, fun t1 h1 => ⟨by show 8 ≤ sizeLine; decide, fun p hp => ?_⟩⟩⟩
    have s0 := same_new (o := .tup []) h0
    generalize hA : upd H t0 (.tup []) = HA at *
    have f0 : HA t0 = some (.tup []) := by rw [← hA]; exact upd_same
    have s1 := same_new (o := .tup [.non]) h1
    generalize hB : upd HA t1 (.tup [.non]) = HB at *
    have f1 : HB t1 = some (.tup [.non]) := by rw [← hB]; exact upd_same
    have s2 := same_new (o := .lst [.non, .int 0, .bl false, .int 1, .bl true, .str "1", .ref t0, .ref t1]) hp
    generalize hC : upd HB p (.lst [.non, .int 0, .bl false, .int 1, .bl true, .str "1", .ref t0, .ref t1]) = HC at *
    have f2 : HC p = some (.lst [.non, .int 0, .bl false, .int 1, .bl true, .str "1", .ref t0, .ref t1]) := by rw [← hC]; exact upd_same
    obtain ⟨v, hv, hm⟩ := atI_some (xs := [V.non, .int 0, .bl false, .int 1, .bl true, .str "1", .ref t0, .ref t1]) (i := n % 8) (by omega) (by show n % 8 < 8; omega)
    have hz : ∃ d, Dp K HC v d ∧ okD d = true ∧ d.depth ≤ 2 ∧ (encD d).length ≤ 20 := by
      simp only [List.mem_cons, List.not_mem_nil, or_false] at hm
      rcases hm with h | h | h | h | h | h | h | h
      · subst h; exact ⟨.none, .non, rfl, by decide, by decide +kernel⟩
      · subst h; exact ⟨.int 0, .int 0, by decide +kernel, by decide, by decide +kernel⟩
      · subst h; exact ⟨.bool false, .bl _, rfl, by decide, by decide +kernel⟩
      · subst h; exact ⟨.int 1, .int 1, by decide +kernel, by decide, by decide +kernel⟩
      · subst h; exact ⟨.bool true, .bl _, rfl, by decide, by decide +kernel⟩
      · subst h; exact ⟨.str "1", .str _, by decide +kernel, by simp [PyData.depth], by decide +kernel⟩
      · subst h; exact ⟨.tuple [], .tup (SqT.of (s2 _ _ (s1 _ _ f0))) .nil, rfl, by simp [PyData.depth, PyData.depthAll], by decide +kernel⟩
      · subst h; exact ⟨.tuple [.none], .tup (SqT.of (s2 _ _ f1)) (.cons .non .nil), by decide +kernel, by simp [PyData.depth, PyData.depthAll], by decide +kernel⟩
    obtain ⟨d, dp, ok, dep, len⟩ := hz
    refine ⟨_, rfl, _, _, rfl, rfl, (by show (0 : Int) < 8; decide), p, _, _, _, rfl, rfl, SqL.of f2, hv, ?_⟩
    refine ⟨by show 2 ≤ sizeLine; decide, fun p2 hp2 => ?_⟩
    have s3 := same_new (o := .lst [.str "prevote", .str "precommit"]) hp2
    generalize hD : upd HC p2 (.lst [.str "prevote", .str "precommit"]) = HD at *
    have f3 : HD p2 = some (.lst [.str "prevote", .str "precommit"]) := by rw [← hD]; exact upd_same
    obtain ⟨v2, hv2, hm2⟩ := atI_some (xs := [V.str "prevote", .str "precommit"]) (i := n / 8 % 2) (by omega) (by show n / 8 % 2 < 2; omega)
    have hz2 : ∃ y : Str, v2 = .str y ∧ okD (.str y) = true ∧ (encD (.str y)).length ≤ 20 := by
      simp only [List.mem_cons, List.not_mem_nil, or_false] at hm2
      rcases hm2 with h | h <;> exact ⟨_, h, by decide +kernel, by decide +kernel⟩
    obtain ⟨y, rfl, oky, leny⟩ := hz2
    refine ⟨_, rfl, _, _, rfl, rfl, ⟨by decide, by decide⟩, _, _, rfl, rfl, (by show (0 : Int) < 2; decide), p2, _, _, _, rfl, rfl, SqL.of f3, hv2, ?_⟩
    refine ⟨_, rfl, _, _, rfl, rfl, ⟨by decide, by decide⟩, _, _, rfl, rfl, (by show (0 : Int) < 3; decide), _, _, rfl, rfl, _, rfl, by show 3 ≤ sizeLine; decide, fun p3 hp3 => ?_⟩
    have s4 := same_new (o := .tup [.str y, .int (1 + n / 16 % 3), v]) hp3
    have dp4 := dp_keep (keepT_of (s3.trans s4)) _ _ ok dp
    have okI : okD (.int (1 + n / 16 % 3)) = true := okD_int (by omega) (by omega)
    have lI := enc_int (o := 1 + n / 16 % 3) (by omega) (by omega)
    refine q _ _ _ ((((s0.trans s1).trans s2).trans s3).trans s4) (.tup (SqT.of upd_same) (.cons (.str y) (.cons (.int _) (.cons dp4 .nil)))) ⟨okD_three oky okI ok, ?_, ?_, _, _, _, rfl⟩
    · simp only [PyData.depth, PyData.depthAll]
      omega
    · rw [enc_three]
      omega
def pairD (x : Int × PyData) : PyData := .tuple [.int x.1, x.2]
theorem eqD_pair (a b : Int) (d e : PyData) : eqD (pairD (a, d)) (pairD (b, e)) = (decide (a = b) && eqD d e) := by
  simp [pairD, eqD, eqDs]
structure Pairs (xs : List (Int × PyData)) : Prop where
  ok : ∀ x ∈ xs, 0 ≤ x.1 ∧ x.1 < 100000 ∧ Body x.2
theorem Pairs.okDs {xs : List (Int × PyData)} (h : Pairs xs) : okDs (xs.map pairD) = true := okDs_all fun d hd => by
  obtain ⟨x, hx, rfl⟩ := List.mem_map.mp hd
  obtain ⟨h1, h2, h3⟩ := h.ok x hx
  exact okD_two' (okD_int h1 h2) h3.ok
theorem memD_false {l : List PyData} {d : PyData} (h : ∀ e ∈ l, eqD e d = false) : memD l d = false := by
  unfold memD
  rw [List.any_eq_false]
  intro e he
  rw [h e he]
  decide
theorem memD_true {l : List PyData} {d e : PyData} (he : e ∈ l) (h : eqD e d = true) : memD l d = true := by
  unfold memD
  rw [List.any_eq_true]
  exact ⟨e, he, h⟩
def spHas (K : PySem.W.Frag) : Sp := fun vs H Q _ => ∃ (n : Addr) (us : List V) (xs : List (Int × PyData)) (o : Int) (v : V) (d : PyData), vs = [.ref n, .int o, v] ∧ SqL K H n us ∧ DpAll K H us (xs.map pairD) ∧ Pairs xs ∧ Dp K H v d ∧ Body d ∧
  Q (.bl (memD (xs.map pairD) (pairD (o, d)))) H
abbrev s_has : Stmt := top 15
theorem sc_has : FnScope ["noted", "owner", "body", "other", "sealed"] ["noted", "owner", "body"] (defScope s_has) := ⟨rfl, rfl, rfl, by decide +kernel, rfl, by decide +kernel, by decide +kernel⟩
theorem ok_has {f fs : Addr} {fd fds : FuncData} (F : Fun K "_law_has" "_law_has" s_has f fd) (C_same : Cal P w K mg base "_law_same" 11 fs fds ["first", "second"] (spSame K 11)) : FnOk P w K mg base CX0 12 f fd ["noted", "owner", "body"] (spHas K) := by
  refine F.ok sc_has (fun vs H Q E h => ?_) (fun cdv A outer s H vs Q E hr h => ?_)
  · obtain ⟨n, us, xs, o, v, d, rfl, _⟩ := h
    rfl
  · obtain ⟨n, us, xs, o, v, d, rfl, hn, hA, hP, hv, B, q⟩ := h
    refine ⟨_, (pss_cons (ps_for PassesOwn.never rfl (pi_list (pv 0)) (pg_tup rfl (pgs_cons (pg_name (i := 3) sc_has.nd rfl (Or.inl rfl)) (pgs_cons (pg_name (i := 4) sc_has.nd rfl (Or.inl rfl)) pgs_nil)))
  (pss_one (ps_if (PW.pt (pw_and (pt_cmpR op_eq (pv 3) (pv 1) (nomark _)) (pw_and1 (pt_val (pe_call C_same.G (hr.mono (by decide)) rfl C_same.mg C_same.kp C_same.B .nil pass0 (pa_cons (pv 4) (pa_cons (pv 2) pa_nil))))))) (pss_one (ps_ret pe_bl)) pss_nil)))
  (pss_one (ps_ret pe_bl))), ?_⟩
    have lu := dp_len hA
    refine ⟨_, rfl, n, rfl, ⟨_, hn⟩, ?_⟩
    refine for_list (K := K) (a := n) (xs := us) (fun i σ H' => H' = H ∧ (∃ y3 y4, σ = [some (.ref n), some (.int o), some v, y3, y4]) ∧ ∀ j x, j < i → xs[j]? = some x → eqD (pairD x) (pairD (o, d)) = false)
      ⟨rfl, ⟨none, none, rfl⟩, fun j x hj => absurd hj (Nat.not_lt_zero j)⟩ (fun i σ H' _ ⟨e, _⟩ => by rw [e]; exact hn) ?_ ?_
    · rintro i u σ H' hi ⟨rfl, ⟨y3, y4, rfl⟩, hall⟩
      obtain ⟨e, he, hu⟩ := dp_at' hA hi
      rw [List.getElem?_map] at he
      obtain ⟨x, ex, rfl⟩ := Option.map_eq_some_iff.mp he
      obtain ⟨b0, b1, Bx⟩ := hP.ok x (List.mem_of_getElem? ex)
      obtain ⟨oi, di⟩ := x
      dsimp only at b0 b1 Bx
      have hu' : ∃ a vi, u = .ref a ∧ SqT K H' a [.int oi, vi] ∧ Dp K H' vi di := by
        unfold pairD at hu
        cases hu with
        | tup hs ha =>
          cases ha with
          | cons h1 h2 =>
            cases h1
            cases h2 with
            | cons h3 h4 =>
              cases h4
              exact ⟨_, _, rfl, hs, h3⟩
      obtain ⟨a, vi, rfl, hs, hvi⟩ := hu'
      refine ⟨a, _, rfl, hs, rfl, _, _, rfl, _, _, rfl, rfl, ?_⟩
      have ep := eqD_pair oi o di d
      have keep : ∀ (b : Bool), eqD (pairD (oi, di)) (pairD (o, d)) = false → H' = H' ∧ (∃ y3 y4, ([some (V.ref n), some (V.int o), some v, some (V.int oi), some vi] : L2.St) = [some (.ref n), some (.int o), some v, y3, y4]) ∧ ∀ j x, j < i + 1 → xs[j]? = some x → eqD (pairD x) (pairD (o, d)) = false :=
        fun _ hf => ⟨rfl, ⟨_, _, rfl⟩, fun j x hj hx => by
          by_cases e : j = i
          · subst e
            rw [ex] at hx
            cases hx
            exact hf
          · exact hall j x (by omega) hx⟩
      refine ⟨_, rfl, _, rfl, rfl, _, rfl, ?_⟩
      by_cases c : oi = o
      · subst c
        refine ifT (by simp) ?_
        refine ⟨_, rfl, _, rfl, vi, v, di, d, rfl, hvi, hv, Bx.ok, B.ok, by have := Bx.dep; omega, by have := Bx.len; omega, _, rfl, ?_⟩
        cases ce : eqD di d with
        | true =>
          refine iteT ?_
          have z : memD (xs.map pairD) (pairD (oi, d)) = true := memD_true (List.mem_map.mpr ⟨_, List.mem_of_getElem? ex, rfl⟩) (by rw [ep, ce]; simp)
          rw [z] at q
          exact q
        | false =>
          refine iteF ?_
          exact keep true (by rw [ep, ce, Bool.and_false])
      · have c2 : ¬ V.int oi = V.int o := fun z => c (V.int.inj z)
        refine ifF (decide_eq_false c2) ?_
        exact keep true (by rw [ep, decide_eq_false c, Bool.false_and])
    · rintro σ H' ⟨rfl, ⟨y3, y4, rfl⟩, hall⟩
      have z : memD (xs.map pairD) (pairD (o, d)) = false := memD_false fun e he => by
        obtain ⟨x, hx, rfl⟩ := List.mem_map.mp he
        obtain ⟨j, ej⟩ := List.mem_iff_getElem?.mp hx
        exact hall j x (by have := (List.getElem?_eq_some_iff.mp ej).1; rw [List.length_map] at lu; omega) ej
      rw [z] at q
      exact q
end
end Vk
namespace Vk
open PySem PySem.Spec PyProof.Rows L2
open C8 (pss_cut tCut)
theorem RgAt.same {C : Addr} {H H' : Hp} {p ds dp : Addr} (h : RgAt C H p ds dp) (s : Same H H') : RgAt C H' p ds dp := by
  obtain ⟨dx, dn, e⟩ := h
  exact ⟨dx, dn, s _ _ e⟩
theorem SlAt.same {H H' : Hp} {ds : Addr} {l : List PyData} (h : SlAt H ds l) (s : Same H H') : SlAt H' ds l := by
  obtain ⟨kvs, e, r⟩ := h
  exact ⟨kvs, s _ _ e, r⟩
theorem no_sealed (dn ds dp : Addr) : (regF dn ds dp).lookup ("is_sealed" : Str) = none := regF_no _ _ _ (by decide +kernel) (by decide +kernel) (by decide +kernel)
theorem no_pen (dn ds dp : Addr) : (regF dn ds dp).lookup ("pen" : Str) = none := regF_no _ _ _ (by decide +kernel) (by decide +kernel) (by decide +kernel)
theorem no_seal (o : Int) (ds : Addr) : (penF o ds).lookup ("seal" : Str) = none := penF_no _ _ (by decide +kernel) (by decide +kernel)
section
variable {P : Program} {w : World} {K : PySem.W.Frag} {mg : Str → Option Value} {base : Heap}
def spKnown (K : PySem.W.Frag) (C : Addr) : Sp := fun vs H Q _ => ∃ (p ds dp p2 ds2 dp2 LO Ln Lb : Addr) (os : List Int) (us bs : List V) (xs : List (Int × PyData)) (bd : List PyData), vs = [.ref p, .ref p2, .ref LO, .ref Ln, .ref Lb] ∧
  RgAt C H p ds dp ∧ SlAt H ds (xs.map pairD) ∧ RgAt C H p2 ds2 dp2 ∧ SlAt H ds2 [] ∧ SqL K H LO (os.map V.int) ∧ (∀ o ∈ os, 0 ≤ o ∧ o < 100000) ∧ SqL K H Ln us ∧ DpAll K H us (xs.map pairD) ∧ Pairs xs ∧ SqL K H Lb bs ∧ DpAll K H bs bd ∧ (∀ d ∈ bd, Body d) ∧
  ∀ H', Same H H' → Q (.bl true) H'
abbrev s_known : Stmt := top 18
theorem sc_known : FnScope ["registry", "other", "owners", "noted", "bodies", "body", "owner"] ["registry", "other", "owners", "noted", "bodies"] (defScope s_known) := ⟨rfl, rfl, rfl, by decide +kernel, rfl, by decide +kernel, by decide +kernel⟩
theorem ok_known {f C fs fi fh : Addr} {fd fds fdi fdh : FuncData} (F : Fun K "_law_known" "_law_known" s_known f fd)
    (C_is_sealed : CalM P w K mg base C "is_sealed" 2 fs fds ["self", "owner", "value"] (spSealed K C)) (C_is : Cal P w K mg base "_law_is" 1 fi fdi ["answer", "due"] spIs) (C_has : Cal P w K mg base "_law_has" 12 fh fdh ["noted", "owner", "body"] (spHas K)) :
    Gk P w K mg base 13 f fd ["registry", "other", "owners", "noted", "bodies"] (spKnown K C) := by
  refine okG F sc_known (fun vs H Q E h => ?_) (fun cdv A outer s H vs Q E hg hr h => ?_)
  · obtain ⟨p, ds, dp, p2, ds2, dp2, LO, Ln, Lb, os, us, bs, xs, bd, rfl, _⟩ := h
    rfl
  · obtain ⟨p, ds, dp, p2, ds2, dp2, LO, Ln, Lb, os, us, bs, xs, bd, rfl, hp, hS, hp2, hS2, hO, bO, hN, hA, hP, hB, hBA, bB, q⟩ := h
    refine ⟨_, (pss_cons (ps_for PassesOwn.never rfl (pi_list (pv 4)) (pg_name (i := 5) sc_known.nd rfl (Or.inl rfl))
  (pss_one (ps_for PassesOwn.never rfl (pi_list (pv 2)) (pg_name (i := 6) sc_known.nd rfl (Or.inl rfl))
  (pss_cons (ps_if (pt_not (pt_val (pe_call C_is.G (hr.mono (by decide)) rfl C_is.mg C_is.kp C_is.B .nil pass0 (pa_cons (pe_methG hg (pv 0) C_is_sealed.cl C_is_sealed.mt C_is_sealed.G (hr.mono (by decide)) C_is_sealed.B (pa_cons (pv 6) (pa_cons (pv 5) pa_nil))) (pa_cons (pe_call C_has.G (hr.mono (by decide)) rfl C_has.mg C_has.kp C_has.B .nil pass0 (pa_cons (pv 3) (pa_cons (pv 6) (pa_cons (pv 5) pa_nil)))) pa_nil))))) (pss_one (ps_ret pe_bl)) pss_nil)
  (pss_one (ps_if (pt_not (pt_val (pe_call C_is.G (hr.mono (by decide)) rfl C_is.mg C_is.kp C_is.B .nil pass0 (pa_cons (pe_methG hg (pv 1) C_is_sealed.cl C_is_sealed.mt C_is_sealed.G (hr.mono (by decide)) C_is_sealed.B (pa_cons (pv 6) (pa_cons (pv 5) pa_nil))) (pa_cons pe_bl pa_nil))))) (pss_one (ps_ret pe_bl)) pss_nil))))))
  (pss_one (ps_ret pe_bl))), ?_⟩
    have okB : okDs bd = true := okDs_all fun d hd => (bB d hd).ok
    refine ⟨_, rfl, Lb, rfl, ⟨_, hB⟩, ?_⟩
    refine for_list (K := K) (a := Lb) (xs := bs) (fun i σ H' => Same H H' ∧ ∃ y5 y6, σ = [some (.ref p), some (.ref p2), some (.ref LO), some (.ref Ln), some (.ref Lb), y5, y6])
      ⟨Same.refl H, none, none, rfl⟩ (fun i σ H' _ ⟨s, _⟩ => s.seq hB) ?_ ?_
    · rintro i v σ H1 hi ⟨s1, y5, y6, rfl⟩
      obtain ⟨d, ed, hv⟩ := dp_at' hBA hi
      have Bd := bB d (List.mem_of_getElem? ed)
      have hv1 := dp_keep (keepT_of s1) _ _ Bd.ok hv
      refine ⟨_, rfl, LO, rfl, ⟨_, s1.seq hO⟩, ?_⟩
      refine for_list (K := K) (a := LO) (xs := os.map V.int) (fun i σ H' => Same H1 H' ∧ ∃ y6, σ = [some (.ref p), some (.ref p2), some (.ref LO), some (.ref Ln), some (.ref Lb), some v, y6])
        ⟨Same.refl H1, y6, rfl⟩ (fun i σ H' _ ⟨s, _⟩ => s.seq (s1.seq hO)) ?_ ?_
      · rintro j ov σ H2 hj ⟨s2, y6, rfl⟩
        rw [List.getElem?_map] at hj
        obtain ⟨o, eo, rfl⟩ := Option.map_eq_some_iff.mp hj
        obtain ⟨o0, o1⟩ := bO o (List.mem_of_getElem? eo)
        have s12 := s1.trans s2
        have okI := okD_int o0 o1
        have lI := enc_int o0 o1
        have hv2 := dp_keep (keepT_of s2) _ _ Bd.ok hv1
        have dep := Bd.dep
        have len := Bd.len
        obtain ⟨dx, dn, ep⟩ := hp.same s12
        refine ⟨_, rfl, p, dx, _, rfl, ep, no_sealed _ _ _, _, rfl, _, rfl, p, ds, dp, xs.map pairD, .int o, v, .int o, d, rfl, ⟨dx, dn, ep⟩, hS.same s12, .int o, okI, by simp [PyData.depth], by omega, hv2, Bd.ok, by omega, by omega, fun H3 s3 => ?_⟩
        have s13 := s12.trans s3
        have hv3 := dp_keep (keepT_of s3) _ _ Bd.ok hv2
        refine ⟨_, rfl, _, rfl, _, rfl, Ln, us, xs, o, v, d, rfl, s13.seq hN, dp_keepAll (keepT_of s13) _ _ hP.okDs hA, hP, hv3, Bd, ?_⟩
        refine ⟨_, _, rfl, ?_⟩
        have e1 : decide (V.bl (memD (xs.map pairD) (.tuple [.int o, d])) = V.bl (memD (xs.map pairD) (pairD (o, d)))) = true := decide_eq_true rfl
        rw [e1]
        refine ⟨_, rfl, iteF ?_⟩
        obtain ⟨dx2, dn2, ep2⟩ := hp2.same s13
        refine ⟨_, rfl, p2, dx2, _, rfl, ep2, no_sealed _ _ _, _, rfl, _, rfl, p2, ds2, dp2, [], .int o, v, .int o, d, rfl, ⟨dx2, dn2, ep2⟩, hS2.same s13, .int o, okI, by simp [PyData.depth], by omega, hv3, Bd.ok, by omega, by omega, fun H4 s4 => ?_⟩
        refine ⟨_, _, rfl, ?_⟩
        have e2 : decide (V.bl (memD [] (.tuple [.int o, d])) = V.bl false) = true := decide_eq_true rfl
        rw [e2]
        refine ⟨_, rfl, iteF ?_⟩
        exact ⟨(s2.trans s3).trans s4, _, rfl⟩
      · rintro σ H2 ⟨s2, y6, rfl⟩
        exact ⟨s1.trans s2, _, _, rfl⟩
    · rintro σ H' ⟨s, y5, y6, rfl⟩
      exact q H' s
end
end Vk
namespace Vk
open PySem PySem.Spec PyProof.Rows L2
open C8 (pss_cut tCut)
section
variable {P : Program} {w : World} {K : PySem.W.Frag} {mg : Str → Option Value} {base : Heap}
def spLaw (K : PySem.W.Frag) : Sp := fun vs H Q _ => ∃ (a : Addr) (ns : List Int), vs = [.ref a] ∧ SqL K H a (ns.map V.int) ∧ ns.length ≤ 63 ∧ ∀ H', Q (.bl true) H'
theorem seq_fr {K : PySem.W.Frag} {H H' : Hp} {a d : Addr} {xs : List V} {kvs : List (L2.Key × V)} (h : SqL K H a xs) (hd : H d = some (.dK kvs)) (s : ∀ b u, H b = some u → b ≠ d → H' b = some u) : SqL K H' a xs := by
  rcases h with (h | ⟨ob, h⟩) | h
  · exact .inl (.inl (s _ _ h (ne_of h hd (by intro z; cases z))))
  · exact .inl (.inr ⟨ob, s _ _ h (ne_of h hd (by intro z; cases z))⟩)
  · exact .inr h
/-- the two registries: each with its dicts, none of which is one of the others -/
structure Two (C : Addr) (H : Hp) (p ds dp p2 ds2 dp2 : Addr) : Prop where
  r1 : RgAt C H p ds dp
  r2 : RgAt C H p2 ds2 dp2
  n1 : ds ≠ dp
  n2 : ds2 ≠ dp2
  n3 : ds ≠ ds2
  n4 : ds ≠ dp2
  n5 : dp ≠ ds2
  n6 : dp ≠ dp2
theorem RgAt.keep {C : Addr} {H H' : Hp} {p ds dp : Addr} (h : RgAt C H p ds dp) (s : ∀ b u, H b = some u → (∃ dx fs, u = .ins C dx fs) → H' b = some u) : RgAt C H' p ds dp := by
  obtain ⟨dx, dn, e⟩ := h
  exact ⟨dx, dn, s _ _ e ⟨_, _, rfl⟩⟩
structure Lp (K : PySem.W.Frag) (H0 : Hp) (ds Ln Lb : Addr) (os : List Int) (xs : List (Int × PyData)) (bd : List PyData) (us bs : List V) (H : Hp) : Prop where
  fr : ∀ b u, H0 b = some u → b ≠ ds → H b = some u
  n : H Ln = some (.lst us)
  b : H Lb = some (.lst bs)
  s : SlAt H ds (xs.map pairD)
  ua : DpAll K H us (xs.map pairD)
  ba : DpAll K H bs bd
  bb : ∀ d ∈ bd, Body d
  ps : Pairs xs
  mem : ∀ x ∈ xs, x.1 ∈ os
theorem Lp.same {K : PySem.W.Frag} {H0 H H' : Hp} {ds Ln Lb : Addr} {os : List Int} {xs : List (Int × PyData)} {bd : List PyData} {us bs : List V} (L : Lp K H0 ds Ln Lb os xs bd us bs H) (s : Same H H') : Lp K H0 ds Ln Lb os xs bd us bs H' :=
  ⟨fun b u e nb => s _ _ (L.fr b u e nb), s _ _ L.n, s _ _ L.b, L.s.same s, dp_keepAll (keepT_of s) _ _ L.ps.okDs L.ua, dp_keepAll (keepT_of s) _ _ (okDs_all fun d hd => (L.bb d hd).ok) L.ba, L.bb, L.ps, L.mem⟩
theorem pair_at {K : PySem.W.Frag} {H : Hp} {us : List V} {xs : List (Int × PyData)} {i : Nat} {u : V} (hA : DpAll K H us (xs.map pairD)) (hi : us[i]? = some u) : ∃ o d a vi, xs[i]? = some (o, d) ∧ u = .ref a ∧ SqT K H a [.int o, vi] ∧ Dp K H vi d := by
  obtain ⟨e, he, hu⟩ := dp_at' hA hi
  rw [List.getElem?_map] at he
  obtain ⟨x, ex, rfl⟩ := Option.map_eq_some_iff.mp he
  obtain ⟨o, d⟩ := x
  unfold pairD at hu
  cases hu with
  | tup hs ha =>
    cases ha with
    | cons h1 h2 =>
      cases h1
      cases h2 with
      | cons h3 h4 =>
        cases h4
        exact ⟨o, d, _, _, ex, rfl, hs, h3⟩
theorem eqD_two (a b c d : PyData) : eqD (.tuple [a, b]) (.tuple [c, d]) = (eqD a c && eqD b d) := by
  have e1 : eqD (.tuple [a, b]) (.tuple [c, d]) = eqDs [a, b] [c, d] := by rw [eqD]
  rw [e1, eqDs, eqDs, eqDs, Bool.and_true]
theorem body_le (q : Nat) : ∀ l : List Nat, (Vk.body q l).length ≤ 2 * l.length
  | [] => Nat.le_refl _
  | c :: r => by
    have ih := body_le q r
    simp only [Vk.body, List.length_append, List.length_cons]
    split <;> simp <;> omega
theorem okD_text (o : Int) : okD (.str (Str.ofString (toString o))) = true := by
  have z : okS (Str.ofString (toString o)) = true := by
    unfold okS
    rw [Array.all_eq_true']
    intro c hc
    have y := intL_mem o c (by unfold intL; exact Array.mem_toList_iff.mpr hc)
    simp only [Bool.and_eq_true, decide_eq_true_eq]
    omega
  simpa [okD] using z
theorem enc_text {o : Int} (h0 : 0 ≤ o) (h1 : o < 100000) : (encD (.str (Str.ofString (toString o)))).length ≤ 20 := by
  have ok : okS (Str.ofString (toString o)) = true := by simpa [okD] using okD_text o
  have e : encD (.str (Str.ofString (toString o))) = strL (Str.ofString (toString o)) := by rw [encD]
  rw [e, strL_eq ok]
  have ln := intL_len (i := o) (k := 5) (by decide) (by omega)
  have bl := body_le (reprQuote (Str.ofString (toString o))) (Str.ofString (toString o)).cps.toList
  unfold intL at ln
  simp only [List.length_cons, List.length_append, List.length_nil]
  omega
abbrev s_law : Stmt := top 19
theorem sc_law : FnScope ["script", "registry", "other", "first", "owners", "pens", "owner", "stranger", "noted", "bodies", "k", "who", "body", "word", "strange", "fourth", "late"] ["script"] (defScope s_law) := ⟨rfl, rfl, rfl, by decide +kernel, rfl, by decide +kernel, by decide +kernel⟩
theorem ok_law {f C fI CP fP CI fr fb fk fis fse fsa frf fpe fh : Addr} {fd fdI fdr fdb fdk fdis fdse fdsa fdrf fdpe fdh : FuncData} (F : Fun K "law" "law" s_law f fd) (T : TReg K mg C fI CP fP) (Td : TDraw mg) (Ts : TSame mg) (bs_ : mg "str" = none)
    (C_draw : Cal P w K mg base "_law_draw" 1 fr fdr ["script", "k"] (spDraw K)) (C_body : Cal P w K mg base "_law_body" 1 fb fdb ["number"] (spBody K))
    (C_known : CalG P w K mg base "_law_known" 13 fk fdk ["registry", "other", "owners", "noted", "bodies"] (spKnown K C)) (C_is : Cal P w K mg base "_law_is" 1 fis fdis ["answer", "due"] spIs)
    (C_seal : CalM P w K mg base CP "seal" 2 fse fdse ["self", "body"] (spSeal K CP)) (C_is_sealed : CalM P w K mg base C "is_sealed" 2 fsa fdsa ["self", "owner", "value"] (spSealed K C))
    (C_refused : Cal P w K mg base "_law_refused" 4 frf fdrf ["registry", "owner"] (spRefused K C)) (C_same : Cal P w K mg base "_law_same" 11 fh fdh ["first", "second"] (spSame K 11))
    (clC : Cls K C) (mtP : Meth K C "pen" fpe) (G_pen : FnOk P w K mg base (L2.CX P w) 3 fpe fdpe ["self", "owner"] (spPen K C CP CI)) (B_pen : Binds K fdpe ["self", "owner"] [])
    (G_init : FnOk P w K mg base CX0 1 fI fdI ["self"] (spInit C)) (B_init : Binds K fdI ["self"] []) : Gk P w K mg base 14 f fd ["script"] (spLaw K) := by
  refine okG F sc_law (fun vs H Q E h => ?_) (fun cdv A outer s H vs Q E hg hr h => ?_)
  · obtain ⟨a, ns, rfl, _⟩ := h
    rfl
  · obtain ⟨a, ns, rfl, hS, hl, q⟩ := h
    refine ⟨_, (pss_cons (ps_set (i := 1) sc_law.nd rfl (Or.inr rfl) (pe_make0 T.mk_Registry G_init (hr.mono (by decide)) rfl T.mg_Registry B_init .nil pass0))
  (pss_cons (ps_set (i := 2) sc_law.nd rfl (Or.inl rfl) (pe_make0 T.mk_Registry G_init (hr.mono (by decide)) rfl T.mg_Registry B_init .nil pass0))
  (pss_cons (ps_set (i := 3) sc_law.nd rfl (Or.inl rfl) (pe_ix ix_list (pe_lst (pa_cons pe_int (pa_cons (pe_op op_add pe_int (pe_op op_mod (pe_call C_draw.G (hr.mono (by decide)) rfl C_draw.mg C_draw.kp C_draw.B .nil pass0 (pa_cons (pv 0) (pa_cons pe_int pa_nil))) pe_int)) (pa_cons (pe_op op_add pe_int (pe_op op_mod (pe_call C_draw.G (hr.mono (by decide)) rfl C_draw.mg C_draw.kp C_draw.B .nil pass0 (pa_cons (pv 0) (pa_cons pe_int pa_nil))) pe_int)) pa_nil)))) (pe_op op_mod (pe_op op_fdiv (pe_call C_draw.G (hr.mono (by decide)) rfl C_draw.mg C_draw.kp C_draw.B .nil pass0 (pa_cons (pv 0) (pa_cons pe_int pa_nil))) pe_int) pe_int) (fun _ _ => rfl)))
  (pss_cons (ps_set (i := 4) sc_law.nd rfl (Or.inl rfl) (pe_lst (pa_cons (pv 3) (pa_cons (pe_op op_add pe_int (pe_op op_mod (pe_call C_draw.G (hr.mono (by decide)) rfl C_draw.mg C_draw.kp C_draw.B .nil pass0 (pa_cons (pv 0) (pa_cons pe_int pa_nil))) pe_int)) (pa_cons (pe_op op_add pe_int (pe_op op_mod (pe_call C_draw.G (hr.mono (by decide)) rfl C_draw.mg C_draw.kp C_draw.B .nil pass0 (pa_cons (pv 0) (pa_cons pe_int pa_nil))) pe_int)) pa_nil)))))
  (pss_cut (ps_setLc (i := 5) (own := [("owner", 6)]) (g := gName 6) (tt := tYes) rfl sc_law.nd rfl rfl (sw_true rfl rfl rfl (by decide +kernel)) (pi_list (pv 4)) (blkOk_by (N := ["script", "registry", "other", "first", "owners", "pens", "owner", "stranger", "noted", "bodies", "k", "who", "body", "word", "strange", "fourth", "late"]) (sc := defScope s_law) (by decide +kernel)) (fun _ _ _ _ _ => pg_name (i := 6) sc_law.nd rfl (Or.inl rfl)) (fun _ _ _ _ _ => pts_nil) (fun _ _ _ _ _ => (pe_meth (pv 1) clC mtP G_pen (hr.mono (by decide)) B_pen .nil pass_no (pa_cons (pv 6) pa_nil))))
  (pss_cut (ps_set (i := 7) sc_law.nd rfl (Or.inl rfl) (pe_meth (pv 2) clC mtP G_pen (hr.mono (by decide)) B_pen .nil pass_no (pa_cons (pe_ix ix_list (pv 4) pe_int (fun _ _ => rfl)) pa_nil)))
  (pss_cons (ps_set (i := 8) sc_law.nd rfl (Or.inl rfl) (pe_lst pa_nil))
  (pss_cons (ps_set (i := 9) sc_law.nd rfl (Or.inl rfl) (pe_lst pa_nil))
  (pss_cut (ps_for PassesOwn.never rfl (pi_range1 rfl Td.range (pa_cons (pe_op op_add pe_int (pe_op op_mod (pe_call C_draw.G (hr.mono (by decide)) rfl C_draw.mg C_draw.kp C_draw.B .nil pass0 (pa_cons (pv 0) (pa_cons pe_int pa_nil))) pe_int)) pa_nil)) (pg_name (i := 10) sc_law.nd rfl (Or.inl rfl))
  (pss_cons (ps_set (i := 11) sc_law.nd rfl (Or.inl rfl) (pe_op op_mod (pe_call C_draw.G (hr.mono (by decide)) rfl C_draw.mg C_draw.kp C_draw.B .nil pass0 (pa_cons (pv 0) (pa_cons (pe_op op_add pe_int (pe_op op_mul pe_int (pv 10))) pa_nil))) pe_int))
  (pss_cons (ps_set (i := 12) sc_law.nd rfl (Or.inl rfl) (pe_call C_body.G (hr.mono (by decide)) rfl C_body.mg C_body.kp C_body.B .nil pass0 (pa_cons (pe_call C_draw.G (hr.mono (by decide)) rfl C_draw.mg C_draw.kp C_draw.B .nil pass0 (pa_cons (pv 0) (pa_cons (pe_op op_add pe_int (pe_op op_mul pe_int (pv 10))) pa_nil))) pa_nil)))
  (pss_cons (ps_expr (pe_bm PySem.F.plainAttrs_list PySem.F.slot_list_append PySem.F.type_list_append mt_append (pv 9) (pa_cons (pv 12) pa_nil)))
  (pss_cut (ps_if (PW.pt (pw_and (pt_cmpR op_eq (pe_op op_mod (pv 10) pe_int) pe_int (nomark _)) (pw_and1 (pt_not (pt_val (pe_callG hg C_known.G (hr.mono (by decide)) rfl C_known.mg C_known.kp C_known.B (pa_cons (pv 1) (pa_cons (pv 2) (pa_cons (pv 4) (pa_cons (pv 8) (pa_cons (pv 9) pa_nil))))))))))) (pss_one (ps_ret pe_bl)) pss_nil)
  (pss_cons (ps_set (i := 13) sc_law.nd rfl (Or.inl rfl) (pe_methG hg (pe_ix ix_list (pv 5) (pv 11) (fun _ _ => rfl)) C_seal.cl C_seal.mt C_seal.G (hr.mono (by decide)) C_seal.B (pa_cons (pv 12) pa_nil)))
  (pss_cons (ps_expr (pe_bm PySem.F.plainAttrs_list PySem.F.slot_list_append PySem.F.type_list_append mt_append (pv 8) (pa_cons (pe_tup (pa_cons (pe_ix ix_list (pv 4) (pv 11) (fun _ _ => rfl)) (pa_cons (pv 12) pa_nil))) pa_nil)))
  (pss_cons (ps_if (PW.pt (pw_or (pt_cmpR op_ne (pe_fld (pe_ix ix_list (pv 5) (pv 11) (fun _ _ => rfl)) rfl) (pe_ix ix_list (pv 4) (pv 11) (fun _ _ => rfl)) (nomark _)) (pw_or (pt_not (pt_val (pe_callB (r := rIsi K) call_isi (by rfl) Ts.isinstance bo_isinstance (pa_cons (pv 13) (pa_cons (pe_bltn (v := .ty "tuple") (by rfl) Ts.tuple (by decide +kernel) rfl) pa_nil))))) (pw_or1 (pt_cmpR op_ne (pe_callB call_len_seq (by rfl) Ts.len bo_len (pa_cons (pv 13) pa_nil)) pe_int (nomark _)))))) (pss_one (ps_ret pe_bl)) pss_nil)
  (pss_one (ps_if (pt_not (pt_val (pe_call C_same.G (hr.mono (by decide)) rfl C_same.mg C_same.kp C_same.B .nil pass0 (pa_cons (pv 13) (pa_cons (pe_tup (pa_cons pe_str (pa_cons (pe_ix ix_list (pv 4) (pv 11) (fun _ _ => rfl)) (pa_cons (pv 12) pa_nil)))) pa_nil))))) (pss_one (ps_ret pe_bl)) pss_nil))))))))))
  (pss_cons (ps_if (pt_not (pt_val (pe_callG hg C_known.G (hr.mono (by decide)) rfl C_known.mg C_known.kp C_known.B (pa_cons (pv 1) (pa_cons (pv 2) (pa_cons (pv 4) (pa_cons (pv 8) (pa_cons (pv 9) pa_nil)))))))) (pss_one (ps_ret pe_bl)) pss_nil)
  (pss_cut (ps_for PassesOwn.never rfl (pi_list (pv 8)) (pg_tup rfl (pgs_cons (pg_name (i := 6) sc_law.nd rfl (Or.inl rfl)) (pgs_cons (pg_name (i := 12) sc_law.nd rfl (Or.inl rfl)) pgs_nil)))
  (pss_one (ps_for PassesOwn.never rfl (pi_list (pe_lst (pa_cons (pe_cmpR op_eq (pv 6) (pe_ix ix_list (pv 4) pe_int (fun _ _ => rfl)) (nomark _)) (pa_cons (pe_callTy call_str_int (by rfl) bs_ bo_str (pa_cons (pv 6) pa_nil)) (pa_cons (pe_tup (pa_cons (pv 6) pa_nil)) (pa_cons pe_non pa_nil)))))) (pg_name (i := 14) sc_law.nd rfl (Or.inl rfl))
  (pss_one (ps_if (pt_not (pt_val (pe_call C_is.G (hr.mono (by decide)) rfl C_is.mg C_is.kp C_is.B .nil pass0 (pa_cons (pe_methG hg (pv 1) C_is_sealed.cl C_is_sealed.mt C_is_sealed.G (hr.mono (by decide)) C_is_sealed.B (pa_cons (pv 14) (pa_cons (pv 12) pa_nil))) (pa_cons pe_bl pa_nil))))) (pss_one (ps_ret pe_bl)) pss_nil)))))
  (pss_cons (ps_expr (pe_methG hg (pv 7) C_seal.cl C_seal.mt C_seal.G (hr.mono (by decide)) C_seal.B (pa_cons (pe_tup (pa_cons pe_str (pa_cons pe_int pa_nil))) pa_nil)))
  (pss_cons (ps_if (PW.pt (pw_or (pt_val (pe_methG hg (pv 1) C_is_sealed.cl C_is_sealed.mt C_is_sealed.G (hr.mono (by decide)) C_is_sealed.B (pa_cons (pe_ix ix_list (pv 4) pe_int (fun _ _ => rfl)) (pa_cons (pe_tup (pa_cons pe_str (pa_cons pe_int pa_nil))) pa_nil)))) (pw_or1 (pt_not (pt_val (pe_methG hg (pv 2) C_is_sealed.cl C_is_sealed.mt C_is_sealed.G (hr.mono (by decide)) C_is_sealed.B (pa_cons (pe_ix ix_list (pv 4) pe_int (fun _ _ => rfl)) (pa_cons (pe_tup (pa_cons pe_str (pa_cons pe_int pa_nil))) pa_nil)))))))) (pss_one (ps_ret pe_bl)) pss_nil)
  (pss_cons (ps_for PassesOwn.never rfl (pi_list (pv 4)) (pg_name (i := 6) sc_law.nd rfl (Or.inl rfl))
  (pss_one (ps_if (pt_not (pt_val (pe_call C_refused.G (hr.mono (by decide)) rfl C_refused.mg C_refused.kp C_refused.B .nil pass0 (pa_cons (pv 1) (pa_cons (pv 6) pa_nil))))) (pss_one (ps_ret pe_bl)) pss_nil)))
  (pss_cons (ps_set (i := 15) sc_law.nd rfl (Or.inl rfl) (pe_op op_add pe_int (pe_op op_mod (pe_op op_sub (pe_ix ix_list (pv 4) pe_int (fun _ _ => rfl)) pe_int) pe_int)))
  (pss_cons (ps_set (i := 16) sc_law.nd rfl (Or.inl rfl) (pe_meth (pv 1) clC mtP G_pen (hr.mono (by decide)) B_pen .nil pass_no (pa_cons (pv 15) pa_nil)))
  (pss_one (ps_ret (pe_and (pe_cmpR op_eq (pe_fld (pv 16) rfl) (pv 15) (nomark _)) (pe_one (pe_not (pe_methG hg (pv 1) C_is_sealed.cl C_is_sealed.mt C_is_sealed.G (hr.mono (by decide)) C_is_sealed.B (pa_cons (pv 15) (pa_cons (pe_ix ix_list (pv 9) pe_int (fun _ _ => rfl)) pa_nil)))))))))))))))))))))))), ?_⟩
    -- the registries
    intro x dx nx ndx nex
    refine ⟨x, dx, rfl, upd_same, fun ds1 dp1 H2 fs1 fp1 ne1 R1 S1 P1 kp1 => ⟨rfl, ?_⟩⟩
    intro y dy ny ndy ney
    refine ⟨y, dy, rfl, upd_same, fun ds2 dp2 H3 fs2 fp2 ne2 R2 S2 P2 kp2 => ⟨rfl, ?_⟩⟩
    have sA : Same H H2 := fun b o e => by
      refine kp1 b o ?_ (ne_of_none e nx)
      rw [upd_ne (ne_of_none e nx), upd_ne (ne_of_none e ndx)]
      exact e
    have up2 : ∀ b o, H2 b = some o → (upd (upd H2 dy (HO.own y)) y (HO.ins C dy [])) b = some o := fun b o e => by
      rw [upd_ne (ne_of_none e ny), upd_ne (ne_of_none e ndy)]
      exact e
    have sB : Same H2 H3 := fun b o e => kp2 b o (up2 b o e) (ne_of_none e ny)
    obtain ⟨k1, hd1, _⟩ := id S1
    obtain ⟨k2, hd2, _⟩ := id P1
    have W3 : Two C H3 x ds1 dp1 y ds2 dp2 := ⟨R1.same sB, R2, ne1, ne2, ne_of_none (up2 _ _ hd1) fs2, ne_of_none (up2 _ _ hd1) fp2, ne_of_none (up2 _ _ hd2) fs2, ne_of_none (up2 _ _ hd2) fp2⟩
    have S13 := S1.same sB
    have P13 : PnAt H3 dp1 [] := by
      obtain ⟨kvs, e, r⟩ := P1
      exact ⟨kvs, sB _ _ e, r⟩
    have s3 : Same H H3 := sA.trans sB
    clear kp1 kp2 up2 fs1 fp1 fs2 fp2 nx ndx ny ndy nex ney R1 S1 P1 hd1 hd2
    have g0 := drawOf_nn ns 0
    have g1 := drawOf_nn ns 1
    have g2 := drawOf_nn ns 2
    have g3 := drawOf_nn ns 3
    -- first
    refine ⟨_, rfl, a, ns, _, rfl, s3.seq hS, hl, by decide, by decide, ?_⟩
    refine ⟨_, _, rfl, rfl, (by show (0 : Int) < 300; decide), _, _, rfl, rfl, ?_⟩
    refine ⟨_, rfl, a, ns, _, rfl, s3.seq hS, hl, by decide, by decide, ?_⟩
    refine ⟨_, _, rfl, rfl, (by show (0 : Int) < 300; decide), _, _, rfl, rfl, by show 3 ≤ sizeLine; decide, fun p4 h4 => ?_⟩
    have s4 := same_new (o := .lst [.int 1, .int (1 + drawOf ns 0 % 300), .int (1 + drawOf ns 0 % 300)]) h4
    refine ⟨_, rfl, a, ns, _, rfl, (s3.trans s4).seq hS, hl, by decide, by decide, ?_⟩
    obtain ⟨v, hv, hm⟩ := atI_some (xs := [V.int 1, .int (1 + drawOf ns 0 % 300), .int (1 + drawOf ns 0 % 300)]) (i := drawOf ns 0 / 300 % 3) (by omega) (by show drawOf ns 0 / 300 % 3 < 3; omega)
    have hz : ∃ o1 : Int, v = .int o1 ∧ 1 ≤ o1 ∧ o1 ≤ 300 := by
      simp only [List.mem_cons, List.not_mem_nil, or_false] at hm
      rcases hm with h | h | h <;> exact ⟨_, h, by omega, by omega⟩
    obtain ⟨o1, rfl, o1a, o1b⟩ := hz
    refine ⟨_, _, rfl, rfl, ⟨by decide, by decide⟩, _, _, rfl, rfl, (by show (0 : Int) < 3; decide), p4, _, _, _, rfl, rfl, SqL.of upd_same, hv, ?_⟩
    -- owners
    have s34 := s3.trans s4
    refine ⟨_, rfl, _, rfl, a, ns, _, rfl, s34.seq hS, hl, by decide, by decide, ?_⟩
    refine ⟨_, _, rfl, rfl, (by show (0 : Int) < 699; decide), _, _, rfl, rfl, ?_⟩
    refine ⟨_, rfl, a, ns, _, rfl, s34.seq hS, hl, by decide, by decide, ?_⟩
    refine ⟨_, _, rfl, rfl, (by show (0 : Int) < 9000; decide), _, _, rfl, rfl, by show 3 ≤ sizeLine; decide, fun LO hLO => ?_⟩
    obtain ⟨o2, e2⟩ : ∃ o2 : Int, o2 = 301 + drawOf ns 1 % 699 := ⟨_, rfl⟩
    obtain ⟨o3, e3⟩ : ∃ o3 : Int, o3 = 1000 + drawOf ns 2 % 9000 := ⟨_, rfl⟩
    have s5 := same_new (o := .lst [.int o1, .int (301 + drawOf ns 1 % 699), .int (1000 + drawOf ns 2 % 9000)]) hLO
    have s45 := s4.trans s5
    generalize hH4 : upd H3 p4 (.lst [.int 1, .int (1 + drawOf ns 0 % 300), .int (1 + drawOf ns 0 % 300)]) = H4 at *
    have fLO : (upd H4 LO (.lst [.int o1, .int (301 + drawOf ns 1 % 699), .int (1000 + drawOf ns 2 % 9000)])) LO = some (.lst ([o1, o2, o3].map V.int)) := by rw [upd_same, e2, e3]; rfl
    have sz : (sizeLine : Nat) = 16777216 := by decide +kernel
    have hno : ∀ (i : Nat) (o : Int), [o1, o2, o3][i]? = some o → ¬ o ∈ ([o1, o2, o3].take i).reverse ∧ 0 ≤ o ∧ o < 100000 := by
      intro i o h
      match i, h with
      | 0, h => cases h; exact ⟨by simp, by omega, by omega⟩
      | 1, h => cases h; exact ⟨by simp; omega, by omega, by omega⟩
      | 2, h => cases h; exact ⟨by simp; omega, by omega, by omega⟩
      | i + 3, h => simp at h
    refine ⟨fun σ H7 => ∃ (LP : Addr) (qs : List Addr) (x6 : Option V), σ = [some (.ref a), some (.ref x), some (.ref y), some (.int o1), some (.ref LO), some (.ref LP), x6, none, none, none, none, none, none, none, none, none, none] ∧ qs.length = 3 ∧ H7 LP = some (.lst (qs.map V.ref)) ∧
      (∀ (j : Nat) (qa : Addr) (o : Int), qs[j]? = some qa → [o1, o2, o3][j]? = some o → PenAt CP H7 qa ds1 o) ∧ PnAt H7 dp1 [o3, o2, o1] ∧ H7 LO = some (.lst ([o1, o2, o3].map V.int)) ∧ (∀ b u, H3 b = some u → b ≠ dp1 → H7 b = some u), ?_, ?_⟩
    · refine ⟨_, rfl, LO, rfl, ⟨_, SqL.of fLO⟩, fun D hD => ?_⟩
      generalize hH5 : upd H4 LO (.lst [.int o1, .int (301 + drawOf ns 1 % 699), .int (1000 + drawOf ns 2 % 9000)]) = H5 at *
      have nd : dp1 ≠ D := by
        obtain ⟨kvs, e, _⟩ := P13
        exact ne_of_none (s45 _ _ e) hD
      have nLO : LO ≠ dp1 := by
        obtain ⟨kvs, e, _⟩ := P13
        exact fun z => by rw [z, s45 _ _ e] at fLO; cases fLO
      refine lc_list (K := K) (a := LO) (xs := [o1, o2, o3].map V.int) (fun i H7 => (∀ b u, H5 b = some u → b ≠ dp1 → H7 b = some u) ∧ PnAt H7 dp1 ([o1, o2, o3].take i).reverse ∧ ∃ qs : List Addr, qs.length = i ∧ H7 D = some (.lst (qs.map V.ref)) ∧ ∀ (j : Nat) (qa : Addr) (o : Int), qs[j]? = some qa → [o1, o2, o3][j]? = some o → PenAt CP H7 qa ds1 o)
        ⟨fun b u hb _ => same_new hD _ _ hb, ?_, [], rfl, upd_same, fun j qa o h => by simp at h⟩ (fun i H7 _ ⟨fr, _⟩ => SqL.of (fr _ _ fLO nLO)) ?_ ?_
      · obtain ⟨kvs, e, r⟩ := P13
        exact ⟨kvs, by rw [upd_ne nd]; exact s45 _ _ e, r⟩
      · rintro i u H7 hi ⟨fr, hP, qs, lq, hD7, hq⟩
        rw [List.getElem?_map] at hi
        obtain ⟨o, eo, rfl⟩ := Option.map_eq_some_iff.mp hi
        obtain ⟨nin, ob0, ob1⟩ := hno i o eo
        have il : i < 3 := (List.getElem?_eq_some_iff.mp eo).1
        have fr3 : ∀ b u, H3 b = some u → b ≠ dp1 → H7 b = some u := fun b u hb nb => fr b u (s45 _ _ hb) nb
        have hR : RgAt C H7 x ds1 dp1 := by
          obtain ⟨dx', dn', e⟩ := W3.r1
          refine ⟨dx', dn', fr3 _ _ e ?_⟩
          obtain ⟨kvs, e', _⟩ := P13
          exact ne_of e e' (by intro z; cases z)
        have hSl : SlAt H7 ds1 [] := by
          obtain ⟨kvs, e, r⟩ := S13
          exact ⟨kvs, fr3 _ _ e W3.n1, r⟩
        obtain ⟨dx', dn', ep⟩ := id hR
        refine ⟨rfl, _, rfl, x, dx', _, rfl, ep, no_pen _ _ _, _, rfl, x, ds1, dp1, [], ([o1, o2, o3].take i).reverse, o, rfl, hR, hSl, hP, W3.n1, by simp; omega, ob0, ob1, fun _ qa H8 hqa pen pn8 fr8 => ?_, fun z => absurd z nin⟩
        have nD2 : D ≠ dp1 := nd.symm
        have hD8 := fr8 _ _ hD7 nD2
        refine ⟨qs.map V.ref, hD8, by rw [List.length_map, lq, sz]; omega, fun b u hb nb => ?_, ?_, qs ++ [qa], by rw [List.length_append, lq]; rfl, by rw [upd_same, List.map_append]; rfl, ?_⟩
        · rw [upd_ne (ne_of_none hb hD)]
          exact fr8 _ _ (fr _ _ hb nb) nb
        · obtain ⟨kvs, e, r⟩ := pn8
          refine ⟨kvs, by rw [upd_ne nd]; exact e, ?_⟩
          have et : ([o1, o2, o3].take (i + 1)).reverse = o :: ([o1, o2, o3].take i).reverse := by
            rw [List.take_add_one, eo]
            simp
          rw [et]
          exact r
        · intro j qb o' hj ho'
          have nq : ∀ qb, PenAt CP H8 qb ds1 o' → qb ≠ D := fun qb ⟨dx, e⟩ => ne_of e hD8 (by intro z; cases z)
          have tr : PenAt CP H8 qb ds1 o' → PenAt CP (upd H8 D (.lst (qs.map V.ref ++ [.ref qa]))) qb ds1 o' := fun z => by
            obtain ⟨dx, e⟩ := id z
            exact ⟨dx, by rw [upd_ne (nq _ z)]; exact e⟩
          apply tr
          by_cases c : j < qs.length
          · rw [List.getElem?_append_left c] at hj
            obtain ⟨dx, e⟩ := hq j qb o' hj ho'
            exact ⟨dx, fr8 _ _ e (by obtain ⟨kvs, e', _⟩ := hP; exact ne_of e e' (by intro z; cases z))⟩
          · have ej : j = i := by
              have := (List.getElem?_eq_some_iff.mp hj).1
              rw [List.length_append] at this
              simp at this
              omega
            subst ej
            rw [List.getElem?_append_right (by omega), lq] at hj
            simp at hj
            subst hj
            rw [eo] at ho'
            cases ho'
            exact pen
      · rintro H7 ⟨fr, hP, qs, lq, hD7, hq⟩
        exact ⟨D, qs, _, rfl, lq, hD7, hq, hP, fr _ _ fLO nLO, fun b u hb nb => fr _ _ (s45 _ _ hb) nb⟩
    rintro σ H7 ⟨LP, qs, x6, rfl, lq, fLP, hq, hP, fLO7, fr7⟩
    have keepR : RgAt C H7 x ds1 dp1 := by
      obtain ⟨dx', dn', e⟩ := W3.r1
      obtain ⟨kvs, e', _⟩ := P13
      exact ⟨dx', dn', fr7 _ _ e (ne_of e e' (by intro z; cases z))⟩
    have keepR2 : RgAt C H7 y ds2 dp2 := by
      obtain ⟨dx', dn', e⟩ := W3.r2
      obtain ⟨kvs, e', _⟩ := P13
      exact ⟨dx', dn', fr7 _ _ e (ne_of e e' (by intro z; cases z))⟩
    have S17 : SlAt H7 ds1 [] := by
      obtain ⟨kvs, e, r⟩ := S13
      exact ⟨kvs, fr7 _ _ e W3.n1, r⟩
    have S27 : SlAt H7 ds2 [] := by
      obtain ⟨kvs, e, r⟩ := S2
      exact ⟨kvs, fr7 _ _ e W3.n5.symm, r⟩
    have P27 : PnAt H7 dp2 [] := by
      obtain ⟨kvs, e, r⟩ := P2
      exact ⟨kvs, fr7 _ _ e W3.n6.symm, r⟩
    have hS7 : SqL K H7 a (ns.map V.int) := by
      obtain ⟨kvs, e, _⟩ := P13
      exact seq_fr (s3.seq hS) e fr7
    -- the stranger's pen
    refine ⟨fun σ H8 => ∃ qst, σ = [some (.ref a), some (.ref x), some (.ref y), some (.int o1), some (.ref LO), some (.ref LP), x6, some (.ref qst), none, none, none, none, none, none, none, none, none] ∧ PenAt CP H8 qst ds2 o1 ∧ (∀ b u, H7 b = some u → b ≠ dp2 → H8 b = some u), ?_, ?_⟩
    · obtain ⟨dx', dn', ep⟩ := id keepR2
      refine ⟨_, rfl, y, dx', _, rfl, ep, no_pen _ _ _, _, rfl, LO, _, 0, .int o1, rfl, rfl, SqL.of fLO7, atI_nat (j := 0) rfl, ?_⟩
      refine ⟨y, ds2, dp2, [], [], o1, rfl, keepR2, S27, P27, W3.n2, by simp, by omega, by omega, fun _ qa H8 hqa pen pn8 fr8 => ⟨qa, rfl, pen, fr8⟩, fun z => by cases z⟩
    rintro σ H8 ⟨qst, rfl, hst, fr8⟩
    obtain ⟨kd, fd2, _⟩ := id P27
    have S18 : SlAt H8 ds1 [] := by
      obtain ⟨kvs, e, r⟩ := S17
      exact ⟨kvs, fr8 _ _ e W3.n4, r⟩
    have S28 : SlAt H8 ds2 [] := by
      obtain ⟨kvs, e, r⟩ := S27
      exact ⟨kvs, fr8 _ _ e W3.n2, r⟩
    have P18 : PnAt H8 dp1 [o3, o2, o1] := by
      obtain ⟨kvs, e, r⟩ := hP
      exact ⟨kvs, fr8 _ _ e W3.n6, r⟩
    have R18 : RgAt C H8 x ds1 dp1 := by
      obtain ⟨dx', dn', e⟩ := keepR
      exact ⟨dx', dn', fr8 _ _ e (ne_of e fd2 (by intro z; cases z))⟩
    have R28 : RgAt C H8 y ds2 dp2 := by
      obtain ⟨dx', dn', e⟩ := keepR2
      exact ⟨dx', dn', fr8 _ _ e (ne_of e fd2 (by intro z; cases z))⟩
    have hS8 := seq_fr hS7 fd2 fr8
    have fLO8 := fr8 _ _ fLO7 (ne_of fLO7 fd2 (by intro z; cases z))
    have fLP8 := fr8 _ _ fLP (ne_of fLP fd2 (by intro z; cases z))
    have hq8 : ∀ (j : Nat) (qa : Addr) (o : Int), qs[j]? = some qa → [o1, o2, o3][j]? = some o → PenAt CP H8 qa ds1 o := fun j qa o h1 h2 => by
      obtain ⟨dx', e⟩ := hq j qa o h1 h2
      exact ⟨dx', fr8 _ _ e (ne_of e fd2 (by intro z; cases z))⟩
    obtain ⟨kS, fS1, _⟩ := id S18
    have bO : ∀ o ∈ [o1, o2, o3], 0 ≤ o ∧ o < 100000 := fun o ho => by
      obtain ⟨j, ej⟩ := List.mem_iff_getElem?.mp ho
      exact (hno j o ej).2
    clear fr7 fr8 hq hP keepR keepR2 S17 S27 P27 hS7 hS P13 S13 P2 S2 fd2
    -- noted, bodies
    refine ⟨Nat.zero_le _, fun Ln hLn => ⟨Nat.zero_le _, fun Lb hLb => ?_⟩⟩
    have sN := same_new (o := .lst []) hLn
    have sNb := same_new (o := .lst []) hLb
    have s89 := sN.trans sNb
    have nNb : Ln ≠ Lb := ne_of_none upd_same hLb
    have nS1n : ds1 ≠ Ln := ne_of_none fS1 hLn
    have nS1b : ds1 ≠ Lb := ne_of_none (sN _ _ fS1) hLb
    have nLnOld : ∀ b u, H8 b = some u → b ≠ Ln := fun b u e => ne_of_none e hLn
    have nLbOld : ∀ b u, H8 b = some u → b ≠ Lb := fun b u e => ne_of_none (sN _ _ e) hLb
    have P0 : Lp K H8 ds1 Ln Lb [o1, o2, o3] [] [] [] [] (upd (upd H8 Ln (.lst [])) Lb (.lst [])) :=
      ⟨fun b u e _ => s89 _ _ e, sNb _ _ upd_same, upd_same, S18.same s89, .nil, .nil, (fun d hd => by cases hd), ⟨fun x hx => by cases hx⟩, (fun x hx => by cases hx)⟩
    generalize upd (upd H8 Ln (.lst [])) Lb (.lst []) = H9 at P0 ⊢
    clear hLn hLb sN sNb s89
    have regs : ∀ {H : Hp} {xs : List (Int × PyData)} {bd : List PyData} {us bs : List V}, Lp K H8 ds1 Ln Lb [o1, o2, o3] xs bd us bs H → RgAt C H x ds1 dp1 ∧ RgAt C H y ds2 dp2 ∧ SlAt H ds2 [] ∧ PnAt H dp1 [o3, o2, o1] ∧ H LO = some (.lst ([o1, o2, o3].map V.int)) ∧ H LP = some (.lst (qs.map V.ref)) := by
      intro H xs bd us bs L
      refine ⟨?_, ?_, ?_, ?_, L.fr _ _ fLO8 (ne_of fLO8 fS1 (by intro z; cases z)), L.fr _ _ fLP8 (ne_of fLP8 fS1 (by intro z; cases z))⟩
      · obtain ⟨dx', dn', e⟩ := R18
        exact ⟨dx', dn', L.fr _ _ e (ne_of e fS1 (by intro z; cases z))⟩
      · obtain ⟨dx', dn', e⟩ := R28
        exact ⟨dx', dn', L.fr _ _ e (ne_of e fS1 (by intro z; cases z))⟩
      · obtain ⟨kvs, e, r⟩ := S28
        exact ⟨kvs, L.fr _ _ e W3.n3.symm, r⟩
      · obtain ⟨kvs, e, r⟩ := P18
        exact ⟨kvs, L.fr _ _ e W3.n1.symm, r⟩
    refine ⟨fun σ H10 => ∃ (xs : List (Int × PyData)) (bd : List PyData) (us bs : List V) (y10 y11 y12 y13 : Option V), σ = [some (.ref a), some (.ref x), some (.ref y), some (.int o1), some (.ref LO), some (.ref LP), x6, some (.ref qst), some (.ref Ln), some (.ref Lb), y10, y11, y12, y13, none, none, none] ∧
      Lp K H8 ds1 Ln Lb [o1, o2, o3] xs bd us bs H10 ∧ 1 ≤ bd.length ∧ xs.length ≤ 30, ?_, ?_⟩
    · refine ⟨_, rfl, a, ns, _, rfl, seq_fr hS8 fS1 P0.fr, hl, by decide, by decide, ?_⟩
      refine ⟨_, _, rfl, rfl, (by show (0 : Int) < 30; decide), _, _, rfl, rfl, _, rfl, by omega, by omega, ?_⟩
      refine for_range (n := (1 + drawOf ns 3 % 30).toNat) (fun i σ H10 => ∃ (xs : List (Int × PyData)) (bd : List PyData) (us bs : List V) (y10 y11 y12 y13 : Option V), σ = [some (.ref a), some (.ref x), some (.ref y), some (.int o1), some (.ref LO), some (.ref LP), x6, some (.ref qst), some (.ref Ln), some (.ref Lb), y10, y11, y12, y13, none, none, none] ∧
        Lp K H8 ds1 Ln Lb [o1, o2, o3] xs bd us bs H10 ∧ bd.length = i ∧ xs.length = i)
        ⟨[], [], [], [], none, none, none, none, rfl, P0, rfl, rfl⟩ ?_ ?_
      · rintro i σ H10 hi ⟨xs, bd, us, bs, y10, y11, y12, y13, rfl, L, lbd, lxs⟩
        have hSc := seq_fr hS8 fS1 L.fr
        refine ⟨_, rfl, _, rfl, _, _, rfl, rfl, .inl ⟨by decide, by decide⟩, _, _, rfl, rfl, a, ns, _, rfl, hSc, hl, by omega, by omega, ?_⟩
        have n0 := drawOf_nn ns (4 + 2 * (0 + (i : Int)))
        refine ⟨_, _, rfl, rfl, (by show (0 : Int) < 3; decide), ?_⟩
        have n2 := drawOf_nn ns (5 + 2 * (0 + (i : Int)))
        have n3 := drawOf_lt ns (5 + 2 * (0 + (i : Int)))
        obtain ⟨w0, ew⟩ : ∃ w0 : Nat, drawOf ns (4 + 2 * (0 + (i : Int))) % 3 = (w0 : Int) ∧ w0 < 3 := ⟨(drawOf ns (4 + 2 * (0 + (i : Int))) % 3).toNat, by omega, by omega⟩
        obtain ⟨ew, w3⟩ := ew
        have eqa : ∃ qa, qs[w0]? = some qa := ⟨_, List.getElem?_eq_getElem (by omega)⟩
        obtain ⟨qa, eqa⟩ := eqa
        have eoo : ∃ o, [o1, o2, o3][w0]? = some o := ⟨_, List.getElem?_eq_getElem (by show w0 < 3; omega)⟩
        obtain ⟨o, eoo⟩ := eoo
        obtain ⟨ob0, ob1⟩ := bO o (List.mem_of_getElem? eoo)
        refine ⟨_, rfl, _, rfl, _, _, rfl, rfl, .inl ⟨by decide, by decide⟩, _, _, rfl, rfl, a, ns, _, rfl, hSc, hl, by omega, by omega, ?_⟩
        refine ⟨_, rfl, n2, by omega, fun v d H11 s11 hd Bd => ?_⟩
        -- bodies.append(body)
        have okB := Bd.ok
        have lB : H11 Lb = some (.lst bs) := s11 _ _ L.b
        have lub := dp_len L.ba
        have lun := dp_len L.ua
        rw [List.length_map] at lun
        refine ⟨_, rfl, .inl ⟨rfl, _, SqL.of lB⟩, _, rfl, Lb, _, _, rfl, rfl, lB, by rw [sz]; omega, ?_⟩
        have kt1 : KeepT H11 (upd H11 Lb (.lst (bs ++ [v]))) := KeepT.lst lB
        have okbd : okDs bd = true := okDs_all fun d hd => (L.bb d hd).ok
        have hd2 := dp_keep kt1 _ _ okB hd
        have L2 : Lp K H8 ds1 Ln Lb [o1, o2, o3] xs (bd ++ [d]) us (bs ++ [v]) (upd H11 Lb (.lst (bs ++ [v]))) := by
          refine ⟨fun b u e nb => ?_, ?_, upd_same, ?_, dp_keepAll kt1 _ _ L.ps.okDs (dp_keepAll (keepT_of s11) _ _ L.ps.okDs L.ua), dp_app (dp_keepAll kt1 _ _ okbd (dp_keepAll (keepT_of s11) _ _ okbd L.ba)) (.cons hd2 .nil), fun e he => ?_, L.ps, L.mem⟩
          · rw [upd_ne (nLbOld _ _ e)]
            exact s11 _ _ (L.fr _ _ e nb)
          · rw [upd_ne nNb]
            exact s11 _ _ L.n
          · obtain ⟨kvs, e, r⟩ := L.s
            exact ⟨kvs, by rw [upd_ne nS1b]; exact s11 _ _ e, r⟩
          · rcases List.mem_append.mp he with h | h
            · exact L.bb e h
            · rw [List.mem_singleton.mp h]
              exact Bd
        generalize upd H11 Lb (.lst (bs ++ [v])) = H12 at L2 hd2 ⊢
        clear kt1
        -- known, now and then
        refine ⟨fun σ H13 => σ = [some (.ref a), some (.ref x), some (.ref y), some (.int o1), some (.ref LO), some (.ref LP), x6, some (.ref qst), some (.ref Ln), some (.ref Lb), some (.int (0 + (i : Int))), some (.int (drawOf ns (4 + 2 * (0 + (i : Int))) % 3)), some v, y13, none, none, none] ∧ Same H12 H13, ?_, ?_⟩
        · refine ⟨_, rfl, _, _, rfl, rfl, (by show (0 : Int) < 7; decide), rfl, _, rfl, ?_⟩
          refine ite2 (fun _ => ?_) (fun _ => iteF ⟨rfl, Same.refl _⟩)
          obtain ⟨c1, c2, c3, c4, c5, c6⟩ := regs L2
          exact ⟨_, rfl, _, rfl, _, rfl, _, rfl, _, rfl, x, ds1, dp1, y, ds2, dp2, LO, Ln, Lb, [o1, o2, o3], us, _, xs, _, rfl, c1, L2.s, c2, c3, SqL.of c5, bO, SqL.of L2.n, L2.ua, L2.ps, SqL.of L2.b, L2.ba, L2.bb, fun H' s' => ⟨_, rfl, iteF ⟨rfl, s'⟩⟩⟩
        rintro σ H13 ⟨rfl, s13⟩
        have L3 := L2.same s13
        have hd3 := dp_keep (keepT_of s13) _ _ okB hd2
        obtain ⟨c1, c2, c3, c4, c5, c6⟩ := regs L3
        have pen13 : PenAt CP H13 qa ds1 o := by
          obtain ⟨dx', e⟩ := hq8 w0 qa o eqa eoo
          exact ⟨dx', L3.fr _ _ e (ne_of e fS1 (by intro z; cases z))⟩
        obtain ⟨dxq, eq13⟩ := id pen13
        have atP : atI (qs.map V.ref) (drawOf ns (4 + 2 * (0 + (i : Int))) % 3) = some (.ref qa) := by
          rw [ew]
          exact atI_nat (by rw [List.getElem?_map, eqa]; rfl)
        have atO : atI ([o1, o2, o3].map V.int) (drawOf ns (4 + 2 * (0 + (i : Int))) % 3) = some (.int o) := by
          rw [ew]
          exact atI_nat (by rw [List.getElem?_map, eoo]; rfl)
        have bdep := Bd.dep
        have blen := Bd.len
        -- word = pens[who].seal(body)
        refine ⟨_, rfl, _, rfl, LP, _, _, _, rfl, rfl, SqL.of c6, atP, qa, dxq, _, rfl, eq13, no_seal _ _, _, rfl, ?_⟩
        refine ⟨qa, ds1, xs.map pairD, o, v, d, rfl, pen13, L3.s, by rw [List.length_map]; omega, ob0, ob1, hd3, okB, by omega, by omega, fun tw H14 htw S14 fr14 kt14 => ?_⟩
        have hd4 := dp_keep kt14 _ _ okB hd3
        have hN14 := fr14 _ _ L3.n nS1n.symm
        have c5' := fr14 _ _ c5 (ne_of fLO8 fS1 (by intro z; cases z))
        have c6' := fr14 _ _ c6 (ne_of fLP8 fS1 (by intro z; cases z))
        have eq14 := fr14 _ _ eq13 (ne_of (hq8 w0 qa o eqa eoo).choose_spec fS1 (by intro z; cases z))
        refine ⟨_, rfl, .inl ⟨rfl, _, SqL.of hN14⟩, _, rfl, _, rfl, LO, _, _, _, rfl, rfl, SqL.of c5', atO, _, rfl, by show 2 ≤ sizeLine; omega, fun tq htq => ?_⟩
        have s15 := same_new (o := .tup [.int o, v]) htq
        have n15 : Ln ≠ tq := ne_of_none hN14 htq
        have nw : tw ≠ tq := ne_of_none htw htq
        generalize hH15 : upd H14 tq (.tup [.int o, v]) = H15 at s15 ⊢
        have f15 : H15 tq = some (.tup [.int o, v]) := by rw [← hH15]; exact upd_same
        have hN15 := s15 _ _ hN14
        refine ⟨Ln, _, _, rfl, rfl, hN15, by rw [sz]; omega, ?_⟩
        have kt5 : KeepT H15 (upd H15 Ln (.lst (us ++ [.ref tq]))) := KeepT.lst hN15
        have hd5 := dp_keep (keepT_of s15) _ _ okB hd4
        have hd6 := dp_keep kt5 _ _ okB hd5
        have kall : KeepT H13 (upd H15 Ln (.lst (us ++ [.ref tq]))) := (kt14.trans (keepT_of s15)).trans kt5
        have ft6 : (upd H15 Ln (.lst (us ++ [.ref tq]))) tq = some (.tup [.int o, v]) := by rw [upd_ne n15.symm]; exact f15
        have fw6 : (upd H15 Ln (.lst (us ++ [.ref tq]))) tw = some (.tup [.str "sealed", .int o, v]) := by
          rw [upd_ne (ne_of htw hN14 (by intro z; cases z))]
          exact s15 _ _ htw
        have L5 : Lp K H8 ds1 Ln Lb [o1, o2, o3] (xs ++ [(o, d)]) (bd ++ [d]) (us ++ [.ref tq]) (bs ++ [v]) (upd H15 Ln (.lst (us ++ [.ref tq]))) := by
          refine ⟨fun b u e nb => ?_, upd_same, ?_, ?_, ?_, dp_keepAll kall _ _ (okDs_all fun d hd => (L3.bb d hd).ok) L3.ba, L3.bb, ⟨fun e he => ?_⟩, fun e he => ?_⟩
          · rw [upd_ne (nLnOld _ _ e)]
            exact s15 _ _ (fr14 _ _ (L3.fr _ _ e nb) nb)
          · rw [upd_ne nNb.symm]
            exact s15 _ _ (fr14 _ _ L3.b nS1b.symm)
          · obtain ⟨kvs, e, r1, r2⟩ := S14
            refine ⟨kvs, by rw [upd_ne nS1n]; exact s15 _ _ e, ?_, ?_⟩
            · rw [List.map_append]
              exact r1
            · rw [List.map_append]
              exact r2
          · rw [List.map_append]
            exact dp_app (dp_keepAll kall _ _ L3.ps.okDs L3.ua) (.cons (.tup (SqT.of ft6) (.cons (.int o) (.cons hd6 .nil))) .nil)
          · rcases List.mem_append.mp he with h | h
            · exact L3.ps.ok e h
            · rw [List.mem_singleton.mp h]
              exact ⟨ob0, ob1, Bd⟩
          · rcases List.mem_append.mp he with h | h
            · exact L3.mem e h
            · rw [List.mem_singleton.mp h]
              exact List.mem_of_getElem? eoo
        have eq16 : (upd H15 Ln (.lst (us ++ [.ref tq]))) qa = some (.ins CP dxq (penF o ds1)) := by
          rw [upd_ne (ne_of eq14 hN14 (by intro z; cases z))]
          exact s15 _ _ eq14
        generalize upd H15 Ln (.lst (us ++ [.ref tq])) = H16 at L5 hd6 ft6 fw6 eq16 kt5 kall ⊢
        obtain ⟨e1, e2, e3, e4, e5, e6⟩ := regs L5
        -- the three tests of the word
        refine ⟨_, rfl, _, rfl, LP, _, _, _, rfl, rfl, SqL.of e6, atP, qa, CP, dxq, _, _, rfl, eq16, T.clP, T.pO, penF_owner _ _, _, rfl, _, rfl, LO, _, _, _, rfl, rfl, SqL.of e5, atO, rfl, _, rfl, ifF (by simp) ?_⟩
        have okS_ : okD (.str "sealed") = true := by decide +kernel
        have okI := okD_int ob0 ob1
        have okW : okD (.tuple [.str "sealed", .int o, d]) = true := okD_three okS_ okI okB
        have hW : Dp K H16 (.ref tw) (.tuple [.str "sealed", .int o, d]) := .tup (SqT.of fw6) (.cons (.str _) (.cons (.int o) (.cons hd6 .nil)))
        refine ⟨_, rfl, _, _, _, _, _, rfl, .ty "tuple", dp_ty hW okW, kit_tup okW, _, rfl, iteF ?_⟩
        refine ⟨_, rfl, tw, _, rfl, .inr (SqT.of fw6), rfl, _, rfl, ifF (by simp) ?_⟩
        -- the word itself
        refine ⟨_, rfl, _, rfl, _, rfl, LO, _, _, _, rfl, rfl, SqL.of e5, atO, _, rfl, by show 3 ≤ sizeLine; omega, fun tz htz => ?_⟩
        have s17 := same_new (o := .tup [.str "sealed", .int o, v]) htz
        have hd7 := dp_keep (keepT_of s17) _ _ okB hd6
        have hZ : Dp K (upd H16 tz (.tup [.str "sealed", .int o, v])) (.ref tz) (.tuple [.str "sealed", .int o, d]) := .tup (SqT.of upd_same) (.cons (.str _) (.cons (.int o) (.cons hd7 .nil)))
        have lI := enc_int ob0 ob1
        have lS : (encD (.str "sealed")).length ≤ 20 := by decide +kernel
        refine ⟨.ref tw, .ref tz, _, _, rfl, dp_keep (keepT_of s17) _ _ okW hW, hZ, okW, okW, by simp only [PyData.depth, PyData.depthAll]; omega, by rw [enc_three]; omega, _, rfl, ?_⟩
        rw [(eqD_iff _ _ okW).mpr rfl]
        refine iteF ?_
        exact ⟨xs ++ [(o, d)], bd ++ [d], _, _, _, _, _, _, rfl, L5.same s17, by rw [List.length_append, lbd]; rfl, by rw [List.length_append, lxs]; rfl⟩
      · rintro σ H10 ⟨xs, bd, us, bs, y10, y11, y12, y13, rfl, L, lbd, lxs⟩
        exact ⟨xs, bd, us, bs, _, _, _, _, rfl, L, by omega, by omega⟩
    rintro σ H10 ⟨xs, bd, us, bs, y10, y11, y12, y13, rfl, L, lbd, lxs⟩
    obtain ⟨c1, c2, c3, c4, c5, c6⟩ := regs L
    refine ⟨_, rfl, _, rfl, _, rfl, _, rfl, _, rfl, x, ds1, dp1, y, ds2, dp2, LO, Ln, Lb, [o1, o2, o3], us, _, xs, _, rfl, c1, L.s, c2, c3, SqL.of c5, bO, SqL.of L.n, L.ua, L.ps, SqL.of L.b, L.ba, L.bb, fun H11 s11 => ⟨_, rfl, iteF ?_⟩⟩
    have L1 := L.same s11
    -- strange ones
    refine ⟨fun σ H12 => ∃ y6 y12 y14, σ = [some (.ref a), some (.ref x), some (.ref y), some (.int o1), some (.ref LO), some (.ref LP), y6, some (.ref qst), some (.ref Ln), some (.ref Lb), y10, y11, y12, y13, y14, none, none] ∧ Same H11 H12, ?_, ?_⟩
    · refine ⟨_, rfl, Ln, rfl, ⟨_, SqL.of L1.n⟩, ?_⟩
      have lun := dp_len L1.ua
      rw [List.length_map] at lun
      refine for_list (K := K) (a := Ln) (xs := us) (fun i σ H12 => ∃ y6 y12 y14, σ = [some (.ref a), some (.ref x), some (.ref y), some (.int o1), some (.ref LO), some (.ref LP), y6, some (.ref qst), some (.ref Ln), some (.ref Lb), y10, y11, y12, y13, y14, none, none] ∧ Same H11 H12)
        ⟨_, _, _, rfl, Same.refl _⟩ (fun i σ H12 _ ⟨_, _, _, _, s⟩ => SqL.of (s _ _ L1.n)) ?_ ?_
      · rintro i u σ H12 hi ⟨y6, y12, y14, rfl, s12⟩
        have L2 := L1.same s12
        obtain ⟨o, d, pa, vi, ex, rfl, hpa, hvi⟩ := pair_at L2.ua hi
        obtain ⟨ob0, ob1, Bd⟩ := L2.ps.ok _ (List.mem_of_getElem? ex)
        dsimp only at ob0 ob1 Bd
        obtain ⟨c1, c2, c3, c4, c5, c6⟩ := regs L2
        refine ⟨pa, _, rfl, hpa, rfl, _, _, rfl, _, _, rfl, rfl, ?_⟩
        have lg : o.natAbs.log2 < 1920 := by simpa [okD] using okD_int ob0 ob1
        refine ⟨_, rfl, _, rfl, LO, _, 0, .int o1, rfl, rfl, SqL.of c5, atI_nat (j := 0) rfl, rfl, _, rfl, o, rfl, lg, _, rfl, by show 1 ≤ sizeLine; omega, fun p1 h1 => ⟨by show 4 ≤ sizeLine; omega, fun p2 h2 => ?_⟩⟩
        have u1 := same_new (o := .tup [.int o]) h1
        generalize hG1 : upd H12 p1 (.tup [.int o]) = G1 at *
        have f1 : G1 p1 = some (.tup [.int o]) := by rw [← hG1]; exact upd_same
        have u2 := same_new (o := .lst [.bl (decide (V.int o = V.int o1)), .str (Str.ofString (toString o)), .ref p1, .non]) h2
        generalize hG2 : upd G1 p2 (.lst [.bl (decide (V.int o = V.int o1)), .str (Str.ofString (toString o)), .ref p1, .non]) = G2 at *
        have f2 : G2 p2 = some (.lst [.bl (decide (V.int o = V.int o1)), .str (Str.ofString (toString o)), .ref p1, .non]) := by rw [← hG2]; exact upd_same
        have four : ∀ (j : Nat) (z : V), ([.bl (decide (V.int o = V.int o1)), .str (Str.ofString (toString o)), .ref p1, .non] : List V)[j]? = some z → ∃ sd, Dp K G2 z sd ∧ okD sd = true ∧ sd.depth ≤ 10 ∧ (encD sd).length ≤ 1000 ∧ ∀ n : Int, eqD (.int n) sd = false := by
          intro j z hz
          match j, hz with
          | 0, hz => cases hz; exact ⟨.bool _, .bl _, rfl, by simp [PyData.depth], by generalize decide (V.int o = V.int o1) = b; cases b <;> decide +kernel, fun n => rfl⟩
          | 1, hz => cases hz; exact ⟨.str _, .str _, okD_text o, by simp [PyData.depth], by have := enc_text ob0 ob1; omega, fun n => rfl⟩
          | 2, hz => cases hz; exact ⟨.tuple [.int o], .tup (SqT.of (u2 _ _ f1)) (.cons (.int o) .nil), by have := okD_int ob0 ob1; simpa [okD, okDs] using this, by simp [PyData.depth, PyData.depthAll], by have := enc_int ob0 ob1; rw [enc_one]; omega, fun n => rfl⟩
          | 3, hz => cases hz; exact ⟨.none, .non, rfl, by simp [PyData.depth], by decide +kernel, fun n => rfl⟩
          | j + 4, hz => simp at hz
        refine ⟨p2, rfl, ⟨_, SqL.of f2⟩, ?_⟩
        refine for_list (K := K) (a := p2) (xs := [.bl (decide (V.int o = V.int o1)), .str (Str.ofString (toString o)), .ref p1, .non]) (fun j σ H13 => ∃ y14, σ = [some (.ref a), some (.ref x), some (.ref y), some (.int o1), some (.ref LO), some (.ref LP), some (.int o), some (.ref qst), some (.ref Ln), some (.ref Lb), y10, y11, some vi, y13, y14, none, none] ∧ Same G2 H13)
          ⟨_, rfl, Same.refl _⟩ (fun j σ H13 _ ⟨_, _, s⟩ => SqL.of (s _ _ f2)) ?_ ?_
        · rintro j z σ H13 hj ⟨y14, rfl, s13⟩
          obtain ⟨sd, z1, z2, z3, z4, z5⟩ := four j z hj
          have sx := (u1.trans u2).trans s13
          have L3 := L2.same sx
          obtain ⟨r1, r2, r3, r4, r5, r6⟩ := regs L3
          obtain ⟨dx', dn', ep⟩ := id r1
          have bdep := Bd.dep
          have blen := Bd.len
          refine ⟨_, rfl, x, dx', _, rfl, ep, no_sealed _ _ _, _, rfl, _, rfl, x, ds1, dp1, xs.map pairD, z, vi, sd, d, rfl, r1, L3.s, dp_keep (keepT_of s13) _ _ z2 z1, z2, z3, z4, dp_keep (keepT_of sx) _ _ Bd.ok hvi, Bd.ok, by omega, by omega, fun H14 s14 => ?_⟩
          have mf : memD (xs.map pairD) (.tuple [sd, d]) = false := memD_false fun e he => by
            obtain ⟨x, hx, rfl⟩ := List.mem_map.mp he
            show eqD (.tuple [.int x.1, x.2]) (.tuple [sd, d]) = false
            rw [eqD_two, z5, Bool.false_and]
          rw [mf]
          exact ⟨_, _, rfl, _, rfl, iteF ⟨_, rfl, s13.trans s14⟩⟩
        · rintro σ H13 ⟨y14, rfl, s13⟩
          exact ⟨_, _, _, rfl, s12.trans ((u1.trans u2).trans s13)⟩
      · rintro σ H12 h
        exact h
    rintro σ H12 ⟨y6, y12, y14, rfl, s12⟩
    have L2 := L1.same s12
    obtain ⟨e1, e2, e3, e4, e5, e6⟩ := regs L2
    -- the stranger seals
    have hst12 : PenAt CP H12 qst ds2 o1 := by
      obtain ⟨dx', e⟩ := hst
      exact ⟨dx', L2.fr _ _ e (ne_of e fS1 (by intro z; cases z))⟩
    obtain ⟨dxs, est⟩ := id hst12
    refine ⟨_, rfl, qst, dxs, _, rfl, est, no_seal _ _, by show 2 ≤ sizeLine; omega, fun p1 h1 => ?_⟩
    have u1 := same_new (o := .tup [.str "a", .int 0]) h1
    generalize hG1 : upd H12 p1 (.tup [.str "a", .int 0]) = G1 at *
    have f1 : G1 p1 = some (.tup [.str "a", .int 0]) := by rw [← hG1]; exact upd_same
    have okA : okD (.tuple [.str "a", .int 0]) = true := by decide +kernel
    have dpA : ∀ {H : Hp} {p : Addr}, H p = some (.tup [.str "a", .int 0]) → Dp K H (.ref p) (.tuple [.str "a", .int 0]) := fun h => .tup (SqT.of h) (.cons (.str _) (.cons (.int 0) .nil))
    have depA : (PyData.tuple [.str "a", .int 0]).depth ≤ 2 := by simp [PyData.depth, PyData.depthAll]
    have lenA : (encD (.tuple [.str "a", .int 0])).length ≤ 20 := by decide +kernel
    obtain ⟨dxs', est'⟩ : PenAt CP G1 qst ds2 o1 := ⟨dxs, u1 _ _ est⟩
    refine ⟨qst, ds2, [], o1, .ref p1, _, rfl, ⟨dxs', est'⟩, e3.same u1, by simp, by omega, by omega, dpA f1, okA, by omega, by omega, fun tw G2 htw S2' fr2 kt2 => ?_⟩
    have toG2 : ∀ b u, H12 b = some u → b ≠ ds2 → G2 b = some u := fun b u e nb => fr2 _ _ (u1 _ _ e) nb
    obtain ⟨kS2, fS2, _⟩ := id e3
    have q1 : RgAt C G2 x ds1 dp1 := by
      obtain ⟨dx', dn', e⟩ := e1
      exact ⟨dx', dn', toG2 _ _ e (ne_of e fS2 (by intro z; cases z))⟩
    have q2 : RgAt C G2 y ds2 dp2 := by
      obtain ⟨dx', dn', e⟩ := e2
      exact ⟨dx', dn', toG2 _ _ e (ne_of e fS2 (by intro z; cases z))⟩
    have q3 : SlAt G2 ds1 (xs.map pairD) := by
      obtain ⟨kvs, e, r⟩ := L2.s
      exact ⟨kvs, toG2 _ _ e W3.n3, r⟩
    have q4 : PnAt G2 dp1 [o3, o2, o1] := by
      obtain ⟨kvs, e, r⟩ := e4
      exact ⟨kvs, toG2 _ _ e W3.n5, r⟩
    have q5 : G2 LO = some (.lst ([o1, o2, o3].map V.int)) := toG2 _ _ e5 (ne_of e5 fS2 (by intro z; cases z))
    have q6 : G2 Lb = some (.lst bs) := toG2 _ _ L2.b (ne_of L2.b fS2 (by intro z; cases z))
    have q7 : DpAll K G2 bs bd := dp_keepAll ((keepT_of u1).trans kt2) _ _ (okDs_all fun d hd => (L2.bb d hd).ok) L2.ba
    clear toG2 fr2 kt2 e1 e2 e3 e4 e5 e6 fS2 hS8 hq8 fLP8
    have ok1 := okD_int (o := o1) (by omega) (by omega)
    have len1 := enc_int (o := o1) (by omega) (by omega)
    -- not sealed here, sealed there
    obtain ⟨dx1, dn1, ep1⟩ := id q1
    refine ⟨_, rfl, x, dx1, _, rfl, ep1, no_sealed _ _ _, _, rfl, LO, _, 0, .int o1, rfl, rfl, SqL.of q5, atI_nat (j := 0) rfl, by show 2 ≤ sizeLine; omega, fun p3 h3 => ?_⟩
    have u3 := same_new (o := .tup [.str "a", .int 0]) h3
    generalize hG3 : upd G2 p3 (.tup [.str "a", .int 0]) = G3 at *
    have f3 : G3 p3 = some (.tup [.str "a", .int 0]) := by rw [← hG3]; exact upd_same
    refine ⟨x, ds1, dp1, xs.map pairD, .int o1, .ref p3, .int o1, _, rfl, q1.same u3, q3.same u3, .int o1, ok1, by simp [PyData.depth], by omega, dpA f3, okA, by omega, by omega, fun G4 u4 => ?_⟩
    have mf : memD (xs.map pairD) (.tuple [.int o1, .tuple [.str "a", .int 0]]) = false := memD_false fun e he => by
      obtain ⟨z, hz, rfl⟩ := List.mem_map.mp he
      obtain ⟨_, _, Bz⟩ := L2.ps.ok z hz
      obtain ⟨a', b', c', e'⟩ := Bz.three
      show eqD (.tuple [.int z.1, z.2]) _ = false
      rw [eqD_two, e']
      have e0 : eqD (.tuple [a', b', c']) (.tuple [.str "a", .int 0]) = false := by
        have e1 : eqD (.tuple [a', b', c']) (.tuple [.str "a", .int 0]) = eqDs [a', b', c'] [.str "a", .int 0] := by rw [eqD]
        rw [e1]
        exact eqDs_len _ _ (by simp)
      rw [e0, Bool.and_false]
    rw [mf]
    refine ⟨_, rfl, iteF ?_⟩
    have s34 := u3.trans u4
    obtain ⟨dx2, dn2, ep2⟩ := q2.same s34
    refine ⟨_, rfl, y, dx2, _, rfl, ep2, no_sealed _ _ _, _, rfl, LO, _, 0, .int o1, rfl, rfl, SqL.of (s34 _ _ q5), atI_nat (j := 0) rfl, by show 2 ≤ sizeLine; omega, fun p5 h5 => ?_⟩
    have u5 := same_new (o := .tup [.str "a", .int 0]) h5
    generalize hG5 : upd G4 p5 (.tup [.str "a", .int 0]) = G5 at *
    have f5 : G5 p5 = some (.tup [.str "a", .int 0]) := by rw [← hG5]; exact upd_same
    refine ⟨y, ds2, dp2, _, .int o1, .ref p5, .int o1, _, rfl, q2.same (s34.trans u5), S2'.same (s34.trans u5), .int o1, ok1, by simp [PyData.depth], by omega, dpA f5, okA, by omega, by omega, fun G6 u6 => ?_⟩
    have okT : okD (.tuple [.int o1, .tuple [.str "a", .int 0]]) = true := okD_two' ok1 okA
    have mt : memD ([] ++ [.tuple [.int o1, .tuple [.str "a", .int 0]]]) (.tuple [.int o1, .tuple [.str "a", .int 0]]) = true := memD_true (List.mem_cons_self) ((eqD_iff _ _ okT).mpr rfl)
    rw [mt]
    refine ⟨_, rfl, iteF ?_⟩
    have s6 := (s34.trans u5).trans u6
    -- second pens are refused
    refine ⟨_, rfl, LO, rfl, ⟨_, SqL.of (s6 _ _ q5)⟩, ?_⟩
    refine for_list (K := K) (a := LO) (xs := [o1, o2, o3].map V.int) (fun j σ H13 => ∃ y6, σ = [some (.ref a), some (.ref x), some (.ref y), some (.int o1), some (.ref LO), some (.ref LP), y6, some (.ref qst), some (.ref Ln), some (.ref Lb), y10, y11, y12, y13, y14, none, none] ∧ Same G6 H13)
      ⟨_, rfl, Same.refl _⟩ (fun j σ H13 _ ⟨_, _, s⟩ => SqL.of (s _ _ (s6 _ _ q5))) ?_ ?_
    · rintro j z σ H13 hj ⟨y6, rfl, s13⟩
      rw [List.getElem?_map] at hj
      obtain ⟨o, eo, rfl⟩ := Option.map_eq_some_iff.mp hj
      have mo := List.mem_of_getElem? eo
      obtain ⟨ob0, ob1⟩ := bO o mo
      have mo' : o ∈ [o3, o2, o1] := by
        simp only [List.mem_cons, List.not_mem_nil, or_false] at mo ⊢
        omega
      have sa := s6.trans s13
      have pn : PnAt H13 dp1 [o3, o2, o1] := by
        obtain ⟨kvs, e, r⟩ := q4
        exact ⟨kvs, sa _ _ e, r⟩
      exact ⟨_, rfl, _, rfl, x, ds1, dp1, _, [o3, o2, o1], o, rfl, q1.same sa, q3.same sa, pn, W3.n1, by simp, ob0, ob1, mo', _, rfl, iteF ⟨_, rfl, s13⟩⟩
    rintro σ H13 ⟨y6, rfl, s13⟩
    have s7 := s6.trans s13
    have pn : PnAt H13 dp1 [o3, o2, o1] := by
      obtain ⟨kvs, e, r⟩ := q4
      exact ⟨kvs, s7 _ _ e, r⟩
    -- a fourth pen
    refine ⟨_, rfl, LO, _, 2, .int o3, rfl, rfl, SqL.of (s7 _ _ q5), atI_nat (j := 2) rfl, ?_⟩
    refine ⟨_, _, rfl, rfl, _, _, rfl, rfl, (by show (0 : Int) < 9000; decide), _, _, rfl, rfl, ?_⟩
    obtain ⟨dx7, dn7, ep7⟩ := q1.same s7
    have nin : ¬ (1000 + (o3 - 999) % 9000) ∈ [o3, o2, o1] := by
      have e2' : 301 ≤ o2 ∧ o2 ≤ 999 := by omega
      have e3' : 1000 ≤ o3 ∧ o3 ≤ 9999 := by omega
      simp only [List.mem_cons, List.not_mem_nil, or_false]
      omega
    refine ⟨_, rfl, x, dx7, _, rfl, ep7, no_pen _ _ _, _, rfl, x, ds1, dp1, _, [o3, o2, o1], _, rfl, q1.same s7, q3.same s7, pn, W3.n1, by simp, by omega, by omega, fun _ qa H14 hqa pen pn14 fr14 => ?_, fun z => absurd z nin⟩
    obtain ⟨dxq, eq14⟩ := pen
    refine ⟨_, rfl, qa, CP, dxq, _, _, rfl, eq14, T.clP, T.pO, penF_owner _ _, _, rfl, rfl, ?_⟩
    refine ⟨_, rfl, ifT (by simp) ?_⟩
    obtain ⟨kP, fP, _⟩ := id pn
    have kt14 : KeepT H13 H14 := fun b u hu e => fr14 b u e (ne_of e fP (by rintro rfl; rcases hu with ⟨_, h | ⟨_, h⟩⟩ <;> cases h))
    have r1 : RgAt C H14 x ds1 dp1 := ⟨dx7, dn7, fr14 _ _ ep7 (ne_of ep7 fP (by intro z; cases z))⟩
    have r3 : SlAt H14 ds1 (xs.map pairD) := by
      obtain ⟨kvs, e, r⟩ := q3.same s7
      exact ⟨kvs, fr14 _ _ e W3.n1, r⟩
    have r6 := fr14 _ _ (s7 _ _ q6) (ne_of (s7 _ _ q6) fP (by intro z; cases z))
    have r7 := dp_keepAll ((keepT_of s7).trans kt14) _ _ (okDs_all fun d hd => (L2.bb d hd).ok) q7
    have ed : ∃ d0, bd[0]? = some d0 := ⟨_, List.getElem?_eq_getElem (by omega)⟩
    obtain ⟨d0, ed⟩ := ed
    obtain ⟨v0, ev, hv0⟩ := dp_at r7 ed
    have B0 := L2.bb d0 (List.mem_of_getElem? ed)
    have bdep := B0.dep
    have blen := B0.len
    obtain ⟨dx8, dn8, ep8⟩ := id r1
    refine ⟨_, rfl, x, dx8, _, rfl, ep8, no_sealed _ _ _, _, rfl, _, rfl, Lb, _, 0, v0, rfl, rfl, SqL.of r6, atI_nat (j := 0) ev, ?_⟩
    refine ⟨x, ds1, dp1, xs.map pairD, _, v0, .int (1000 + (o3 - 999) % 9000), d0, rfl, r1, r3, .int _, okD_int (by omega) (by omega), by simp [PyData.depth], by have := enc_int (o := 1000 + (o3 - 999) % 9000) (by omega) (by omega); omega, hv0, B0.ok, by omega, by omega, fun H15 s15 => ?_⟩
    have mf2 : memD (xs.map pairD) (.tuple [.int (1000 + (o3 - 999) % 9000), d0]) = false := memD_false fun e he => by
      obtain ⟨z, hz, rfl⟩ := List.mem_map.mp he
      have mz := L2.mem z hz
      show eqD (.tuple [.int z.1, z.2]) _ = false
      rw [eqD_two]
      have e0 : eqD (.int z.1) (.int (1000 + (o3 - 999) % 9000)) = false := by
        have e1 : eqD (.int z.1) (.int (1000 + (o3 - 999) % 9000)) = decide (z.1 = 1000 + (o3 - 999) % 9000) := by rw [eqD]
        rw [e1]
        refine decide_eq_false ?_
        intro e
        rw [e] at mz
        apply nin
        simp only [List.mem_cons, List.not_mem_nil, or_false] at mz ⊢
        omega
      rw [e0, Bool.false_and]
    rw [mf2]
    exact ⟨_, rfl, q _⟩
end
end Vk
namespace Vk
open PySem PySem.Spec PyProof.Rows L2
theorem kit_self {K : PySem.W.Frag} {D : Addr} : PySem.W.kitOne K (.ref D) (.ref D) = some true := by
  unfold PySem.W.kitOne
  rw [if_pos (beq_self_eq_true _)]
theorem kit_not {K : PySem.W.Frag} {D C : Addr} (h0 : PySem.W.subIn K (.ref D) (.ref D) = some true) (h1 : PySem.W.hasDictIn K C = true) (h2 : PySem.W.typeIn K (.ref C) = some (.type "type")) (h3 : PySem.W.subIn K (.ref D) (.ref C) = some false) : PySem.W.kitOne K (.ref D) (.ref C) = some false := by
  have ne : ¬ (Value.ref D == Value.ref C) = true := fun z => by
    have e := eq_of_beq z
    cases e
    rw [h0] at h3
    cases h3
  obtain ⟨cd, hc, _⟩ := PySem.W.any_some h1
  unfold PySem.W.kitOne
  rw [if_neg ne]
  show (if ((PySem.W.clsIn K C).isSome && PySem.W.typeIn K (.ref C) == some (.type "type")) = true then PySem.W.subIn K (.ref D) (.ref C) else none) = some false
  rw [if_pos (by rw [hc, h2] <;> rfl), h3]
end Vk
namespace Vk
open PySem PySem.Spec PyProof.Rows L2
theorem all_mk {l : PySem.W.OpenLaw} {w : World} {K : PySem.W.Frag} {h : Heap} {mg : Str → Option Value} {fa ftx fpi fse fri fpe fsa fdr fsm fbo fha fiz frf fkn fla C CP CT CI CR CM CO : Addr} (X : K.In h) (G : h.Ns mainGlobals mg) (hfa : mg "law" = some (.ref fa))
    {odtx antx odpi anpi odse anse odri anri odpe anpe odsa ansa oddr andr odsm ansm odbo anbo odha anha odiz aniz odrf anrf odkn ankn odla anla : Option Addr} {sltx slpi slse slri slpe slsa sldr slsm slbo slha sliz slrf slkn slla : Array (Option Value)}
    {octx kVtx dctx pmtx cdtx cttx ocpi kVpi dcpi pmpi cdpi ctpi ocse kVse dcse pmse cdse ctse ocri kVri dcri pmri cdri ctri ocpe kVpe dcpe pmpe cdpe ctpe ocsa kVsa dcsa pmsa cdsa ctsa ocdr kVdr dcdr pmdr cddr ctdr ocsm kVsm dcsm pmsm cdsm ctsm ocbo kVbo dcbo pmbo cdbo ctbo ocha kVha dcha pmha cdha ctha ociz kViz dciz pmiz cdiz ctiz ocrf kVrf dcrf pmrf cdrf ctrf ockn kVkn dckn pmkn cdkn ctkn ocla kVla dcla pmla cdla ctla : Value}
    (atx : PySem.W.nsIn K mainGlobals "_text" = some (some (.ref ftx)))
    (ltx : K.lookup ftx = some ⟨octx, odtx, .func (PySem.W.fnOf "_text" "_text" (defArgs s_text) (defBody s_text) (defScope s_text) .none kVtx dctx pmtx antx cdtx cttx), sltx⟩)
    (ctx : PySem.W.codeIn K cdtx "_text" = true) (ktx : PySem.W.keepIn K (.ref ftx) = true)
    (api : PySem.W.findIn K (.ref CP) "__init__" = some (some (.ref fpi))) (ipi : PySem.W.isFn K (.ref fpi) = true)
    (lpi : K.lookup fpi = some ⟨ocpi, odpi, .func (PySem.W.fnOf "__init__" "Pen.__init__" (defArgs s_pinit) (defBody s_pinit) (defScope s_pinit) .none kVpi dcpi pmpi anpi cdpi ctpi), slpi⟩)
    (cpi : PySem.W.codeIn K cdpi "Pen.__init__" = true) (kpi : PySem.W.keepIn K (.ref fpi) = true)
    (ase : PySem.W.findIn K (.ref CP) "seal" = some (some (.ref fse))) (ise : PySem.W.isFn K (.ref fse) = true)
    (lse : K.lookup fse = some ⟨ocse, odse, .func (PySem.W.fnOf "seal" "Pen.seal" (defArgs s_seal) (defBody s_seal) (defScope s_seal) .none kVse dcse pmse anse cdse ctse), slse⟩)
    (cse : PySem.W.codeIn K cdse "Pen.seal" = true) (kse : PySem.W.keepIn K (.ref fse) = true)
    (ari : PySem.W.findIn K (.ref C) "__init__" = some (some (.ref fri))) (iri : PySem.W.isFn K (.ref fri) = true)
    (lri : K.lookup fri = some ⟨ocri, odri, .func (PySem.W.fnOf "__init__" "Registry.__init__" (defArgs s_init) (defBody s_init) (defScope s_init) .none kVri dcri pmri anri cdri ctri), slri⟩)
    (cri : PySem.W.codeIn K cdri "Registry.__init__" = true) (kri : PySem.W.keepIn K (.ref fri) = true)
    (ape : PySem.W.findIn K (.ref C) "pen" = some (some (.ref fpe))) (ipe : PySem.W.isFn K (.ref fpe) = true)
    (lpe : K.lookup fpe = some ⟨ocpe, odpe, .func (PySem.W.fnOf "pen" "Registry.pen" (defArgs s_pen) (defBody s_pen) (defScope s_pen) .none kVpe dcpe pmpe anpe cdpe ctpe), slpe⟩)
    (cpe : PySem.W.codeIn K cdpe "Registry.pen" = true) (kpe : PySem.W.keepIn K (.ref fpe) = true)
    (asa : PySem.W.findIn K (.ref C) "is_sealed" = some (some (.ref fsa))) (isa : PySem.W.isFn K (.ref fsa) = true)
    (lsa : K.lookup fsa = some ⟨ocsa, odsa, .func (PySem.W.fnOf "is_sealed" "Registry.is_sealed" (defArgs s_is_sealed) (defBody s_is_sealed) (defScope s_is_sealed) .none kVsa dcsa pmsa ansa cdsa ctsa), slsa⟩)
    (csa : PySem.W.codeIn K cdsa "Registry.is_sealed" = true) (ksa : PySem.W.keepIn K (.ref fsa) = true)
    (adr : PySem.W.nsIn K mainGlobals "_law_draw" = some (some (.ref fdr)))
    (ldr : K.lookup fdr = some ⟨ocdr, oddr, .func (PySem.W.fnOf "_law_draw" "_law_draw" (defArgs sDraw) (defBody sDraw) (defScope sDraw) .none kVdr dcdr pmdr andr cddr ctdr), sldr⟩)
    (cdr : PySem.W.codeIn K cddr "_law_draw" = true) (kdr : PySem.W.keepIn K (.ref fdr) = true)
    (asm : PySem.W.nsIn K mainGlobals "_law_same" = some (some (.ref fsm)))
    (lsm : K.lookup fsm = some ⟨ocsm, odsm, .func (PySem.W.fnOf "_law_same" "_law_same" (defArgs s_same) (defBody s_same) (defScope s_same) .none kVsm dcsm pmsm ansm cdsm ctsm), slsm⟩)
    (csm : PySem.W.codeIn K cdsm "_law_same" = true) (ksm : PySem.W.keepIn K (.ref fsm) = true)
    (abo : PySem.W.nsIn K mainGlobals "_law_body" = some (some (.ref fbo)))
    (lbo : K.lookup fbo = some ⟨ocbo, odbo, .func (PySem.W.fnOf "_law_body" "_law_body" (defArgs s_body) (defBody s_body) (defScope s_body) .none kVbo dcbo pmbo anbo cdbo ctbo), slbo⟩)
    (cbo : PySem.W.codeIn K cdbo "_law_body" = true) (kbo : PySem.W.keepIn K (.ref fbo) = true)
    (aha : PySem.W.nsIn K mainGlobals "_law_has" = some (some (.ref fha)))
    (lha : K.lookup fha = some ⟨ocha, odha, .func (PySem.W.fnOf "_law_has" "_law_has" (defArgs s_has) (defBody s_has) (defScope s_has) .none kVha dcha pmha anha cdha ctha), slha⟩)
    (cha : PySem.W.codeIn K cdha "_law_has" = true) (kha : PySem.W.keepIn K (.ref fha) = true)
    (aiz : PySem.W.nsIn K mainGlobals "_law_is" = some (some (.ref fiz)))
    (liz : K.lookup fiz = some ⟨ociz, odiz, .func (PySem.W.fnOf "_law_is" "_law_is" (defArgs s_is) (defBody s_is) (defScope s_is) .none kViz dciz pmiz aniz cdiz ctiz), sliz⟩)
    (ciz : PySem.W.codeIn K cdiz "_law_is" = true) (kiz : PySem.W.keepIn K (.ref fiz) = true)
    (arf : PySem.W.nsIn K mainGlobals "_law_refused" = some (some (.ref frf)))
    (lrf : K.lookup frf = some ⟨ocrf, odrf, .func (PySem.W.fnOf "_law_refused" "_law_refused" (defArgs s_refused) (defBody s_refused) (defScope s_refused) .none kVrf dcrf pmrf anrf cdrf ctrf), slrf⟩)
    (crf : PySem.W.codeIn K cdrf "_law_refused" = true) (krf : PySem.W.keepIn K (.ref frf) = true)
    (akn : PySem.W.nsIn K mainGlobals "_law_known" = some (some (.ref fkn)))
    (lkn : K.lookup fkn = some ⟨ockn, odkn, .func (PySem.W.fnOf "_law_known" "_law_known" (defArgs s_known) (defBody s_known) (defScope s_known) .none kVkn dckn pmkn ankn cdkn ctkn), slkn⟩)
    (ckn : PySem.W.codeIn K cdkn "_law_known" = true) (kkn : PySem.W.keepIn K (.ref fkn) = true)
    (ala : PySem.W.nsIn K mainGlobals "law" = some (some (.ref fla)))
    (lla : K.lookup fla = some ⟨ocla, odla, .func (PySem.W.fnOf "law" "law" (defArgs s_law) (defBody s_law) (defScope s_law) .none kVla dcla pmla anla cdla ctla), slla⟩)
    (cla : PySem.W.codeIn K cdla "law" = true) (kla : PySem.W.keepIn K (.ref fla) = true)
    (aC : PySem.W.nsIn K mainGlobals "Registry" = some (some (.ref C)))
    (aCP : PySem.W.nsIn K mainGlobals "Pen" = some (some (.ref CP)))
    (pgC : PySem.W.plainGet K C Str.empty = true) (hdC : PySem.W.hasDictIn K C = true) (poC : PySem.W.plainOver K C = true) (saC : PySem.W.findIn K (.ref C) "__setattr__" = some (some (.builtin "object.__setattr__"))) (mkC : PySem.W.makesIn K C = true) (kcC : PySem.W.keepIn K (.ref C) = true)
    (pgCP : PySem.W.plainGet K CP Str.empty = true) (hdCP : PySem.W.hasDictIn K CP = true) (poCP : PySem.W.plainOver K CP = true) (saCP : PySem.W.findIn K (.ref CP) "__setattr__" = some (some (.builtin "object.__setattr__"))) (mkCP : PySem.W.makesIn K CP = true) (kcCP : PySem.W.keepIn K (.ref CP) = true)
    (nN : PySem.W.findIn K (.ref C) "_names" = some none)
    (nS : PySem.W.findIn K (.ref C) "_sealed" = some none)
    (nP : PySem.W.findIn K (.ref C) "_pens" = some none)
    (pO : PySem.W.findIn K (.ref CP) "owner" = some none)
    (pS : PySem.W.findIn K (.ref CP) "_sealed" = some none)
    (gCT : PySem.W.nsIn K mainGlobals "TrothError" = some (some (.ref CT)))
    (gCI : PySem.W.nsIn K mainGlobals "InvalidArgument" = some (some (.ref CI)))
    (gCR : PySem.W.nsIn K mainGlobals "Refused" = some (some (.ref CR)))
    (gCM : PySem.W.nsIn K mainGlobals "MissingPage" = some (some (.ref CM)))
    (gCO : PySem.W.nsIn K mainGlobals "PowerOff" = some (some (.ref CO)))
    (xA : PySem.W.excIn K CI [.type "ValueError", .type "Exception", .type "BaseException", .type "object"] "ValueError.__new__" = true)
    (kA : PySem.W.keepIn K (.ref CI) = true)
    (bA : PySem.W.subIn K (.ref CI) (.type "BaseException") = some true)
    (tA : PySem.W.typeIn K (.ref CI) = some (.type "type"))
    (sTT : PySem.W.subIn K (.ref CT) (.type "BaseException") = some true)
    (sII : PySem.W.subIn K (.ref CI) (.ref CI) = some true)
    (sIT : PySem.W.subIn K (.ref CI) (.ref CT) = some true)
    (sIR : PySem.W.subIn K (.ref CI) (.ref CR) = some false)
    (sIM : PySem.W.subIn K (.ref CI) (.ref CM) = some false)
    (sIO : PySem.W.subIn K (.ref CI) (.ref CO) = some false)
    (hCT : PySem.W.hasDictIn K CT = true)
    (hCR : PySem.W.hasDictIn K CR = true)
    (hCM : PySem.W.hasDictIn K CM = true)
    (hCO : PySem.W.hasDictIn K CO = true)
    (yCT : PySem.W.typeIn K (.ref CT) = some (.type "type"))
    (yCR : PySem.W.typeIn K (.ref CR) = some (.type "type"))
    (yCM : PySem.W.typeIn K (.ref CM) = some (.type "type"))
    (yCO : PySem.W.typeIn K (.ref CO) = some (.type "type"))
    (x1 : PySem.W.findIn K (.ref CI) "__getattribute__" = some (some (.builtin "BaseException.__getattribute__")))
    (x2 : PySem.W.findIn K (.ref CI) "__getattr__" = some none)
    (x3 : PySem.W.hasDictIn K CI = true)
    (x4 : PySem.W.findIn K (.ref CI) "__class__" = some (some (.builtin "object.__class__")))
    (x5 : PySem.W.specialIn K (.builtin "object.__class__") "__get__" = some (some (.builtin "getset_descriptor.__get__")))
    (x6 : PySem.W.takesIn K (.builtin "object.__class__") = some true)
    (x7 : PySem.W.mroIn K CI (.type "object") = some true)
    (z_len : PySem.W.nsIn K mainGlobals "len" = some none)
    (z_int : PySem.W.nsIn K mainGlobals "int" = some none)
    (z_min : PySem.W.nsIn K mainGlobals "min" = some none)
    (z_range : PySem.W.nsIn K mainGlobals "range" = some none)
    (z_isinstance : PySem.W.nsIn K mainGlobals "isinstance" = some none)
    (z_tuple : PySem.W.nsIn K mainGlobals "tuple" = some none)
    (z_bool : PySem.W.nsIn K mainGlobals "bool" = some none)
    (z_str : PySem.W.nsIn K mainGlobals "str" = some none)
    (z_repr : PySem.W.nsIn K mainGlobals "repr" = some none)
    : ∃ fd : FuncData, (∀ (s : Shared) (v : Value), BindsTo s fd ⟨[v], []⟩ [("script", v)]) ∧ ∀ base : Heap, K.In base → base.Ns mainGlobals mg → Gk l.prog w K mg base 14 fa fd ["script"] (spLaw K) := by
  have e := hfa.symm.trans (PySem.W.mg_of X G ala)
  cases e
  have Ftx := fun_mk (st := s_text) ltx ctx ktx
  have btx := Ftx.binds (ps := ["value"]) fun _ _ _ _ _ _ us hl => match us, hl with | [_], _ => rfl
  have Fpi := fun_mk (st := s_pinit) lpi cpi kpi
  have bpi := Fpi.binds (ps := ["self", "owner", "sealed"]) fun _ _ _ _ _ _ us hl => match us, hl with | [_, _, _], _ => rfl
  have Fse := fun_mk (st := s_seal) lse cse kse
  have bse := Fse.binds (ps := ["self", "body"]) fun _ _ _ _ _ _ us hl => match us, hl with | [_, _], _ => rfl
  have Fri := fun_mk (st := s_init) lri cri kri
  have bri := Fri.binds (ps := ["self"]) fun _ _ _ _ _ _ us hl => match us, hl with | [_], _ => rfl
  have Fpe := fun_mk (st := s_pen) lpe cpe kpe
  have bpe := Fpe.binds (ps := ["self", "owner"]) fun _ _ _ _ _ _ us hl => match us, hl with | [_, _], _ => rfl
  have Fsa := fun_mk (st := s_is_sealed) lsa csa ksa
  have bsa := Fsa.binds (ps := ["self", "owner", "value"]) fun _ _ _ _ _ _ us hl => match us, hl with | [_, _, _], _ => rfl
  have Fdr := fun_mk (st := sDraw) ldr cdr kdr
  have bdr := Fdr.binds (ps := ["script", "k"]) fun _ _ _ _ _ _ us hl => match us, hl with | [_, _], _ => rfl
  have Fsm := fun_mk (st := s_same) lsm csm ksm
  have bsm := Fsm.binds (ps := ["first", "second"]) fun _ _ _ _ _ _ us hl => match us, hl with | [_, _], _ => rfl
  have Fbo := fun_mk (st := s_body) lbo cbo kbo
  have bbo := Fbo.binds (ps := ["number"]) fun _ _ _ _ _ _ us hl => match us, hl with | [_], _ => rfl
  have Fha := fun_mk (st := s_has) lha cha kha
  have bha := Fha.binds (ps := ["noted", "owner", "body"]) fun _ _ _ _ _ _ us hl => match us, hl with | [_, _, _], _ => rfl
  have Fiz := fun_mk (st := s_is) liz ciz kiz
  have biz := Fiz.binds (ps := ["answer", "due"]) fun _ _ _ _ _ _ us hl => match us, hl with | [_, _], _ => rfl
  have Frf := fun_mk (st := s_refused) lrf crf krf
  have brf := Frf.binds (ps := ["registry", "owner"]) fun _ _ _ _ _ _ us hl => match us, hl with | [_, _], _ => rfl
  have Fkn := fun_mk (st := s_known) lkn ckn kkn
  have bkn := Fkn.binds (ps := ["registry", "other", "owners", "noted", "bodies"]) fun _ _ _ _ _ _ us hl => match us, hl with | [_, _, _, _, _], _ => rfl
  have Fla := fun_mk (st := s_law) lla cla kla
  refine ⟨PySem.W.fnOf "law" "law" (defArgs s_law) (defBody s_law) (defScope s_law) .none kVla dcla pmla anla cdla ctla, fun s v => .of_eq rfl, fun base _ _ => ?_⟩
  have T : TReg K mg C fri CP fpi := ⟨⟨pgC, hdC, poC, saC⟩, nN, nS, nP, ⟨pgCP, hdCP, poCP, saCP⟩, pO, pS, PySem.W.mg_of X G aC, ⟨mkC, ari, iri, kcC⟩, PySem.W.mg_of X G aCP, ⟨mkCP, api, ipi, kcCP⟩, PySem.W.mg_none_of X G z_repr⟩
  have TI : TErr K mg CI := ⟨PySem.W.mg_of X G gCI, xA, kA, bA, tA⟩
  have TC : TCls K mg CT CI CR CM CO := ⟨PySem.W.mg_of X G gCT, PySem.W.mg_of X G gCI, PySem.W.mg_of X G gCR, PySem.W.mg_of X G gCM, PySem.W.mg_of X G gCO, PySem.W.exm_ref sTT hCT yCT sIT, kit_self, kit_not sII hCR yCR sIR, kit_not sII hCM yCM sIM, kit_not sII hCO yCO sIO, ⟨x1, x2, bA, x3, x4, x5, x6, x7⟩, PySem.W.mg_none_of X G z_isinstance⟩
  have Td : TDraw mg := ⟨PySem.W.mg_none_of X G z_len, PySem.W.mg_none_of X G z_int, PySem.W.mg_none_of X G z_min, PySem.W.mg_none_of X G z_range⟩
  have Ts : TSame mg := ⟨Td.len, Td.range, TC.isinstance, PySem.W.mg_none_of X G z_tuple, PySem.W.mg_none_of X G z_bool, Td.int⟩
  have Ctx : CalG l.prog w K mg base "_text" 1 ftx _ ["value"] (spText K) := ⟨ok_text Ftx T, PySem.W.mg_of X G atx, ktx, btx⟩
  have Cse : CalM l.prog w K mg base CP "seal" 2 fse _ ["self", "body"] (spSeal K CP) := ⟨ok_seal Fse T Ctx, T.clP, ⟨ase, ise, kse⟩, bse⟩
  have Csa : CalM l.prog w K mg base C "is_sealed" 2 fsa _ ["self", "owner", "value"] (spSealed K C) := ⟨ok_sealed Fsa T Ctx, T.cl, ⟨asa, isa, ksa⟩, bsa⟩
  have Gpe : FnOk l.prog w K mg base (L2.CX l.prog w) 3 fpe _ ["self", "owner"] (spPen K C CP CI) := ok_pen Fpe T TI (ok_pinit Fpi T) bpi
  have Mpe : Meth K C "pen" fpe := ⟨ape, ipe, kpe⟩
  have Cdr : Cal l.prog w K mg base "_law_draw" 1 fdr _ ["script", "k"] (spDraw K) := ⟨ok_draw Fdr Td, PySem.W.mg_of X G adr, kdr, bdr⟩
  have Csm : Cal l.prog w K mg base "_law_same" 11 fsm _ ["first", "second"] (spSame K 11) := ⟨ok_same Fsm Ts (PySem.W.mg_of X G asm) ksm bsm 11, PySem.W.mg_of X G asm, ksm, bsm⟩
  have Cbo : Cal l.prog w K mg base "_law_body" 1 fbo _ ["number"] (spBody K) := ⟨ok_body Fbo, PySem.W.mg_of X G abo, kbo, bbo⟩
  have Cha : Cal l.prog w K mg base "_law_has" 12 fha _ ["noted", "owner", "body"] (spHas K) := ⟨ok_has Fha Csm, PySem.W.mg_of X G aha, kha, bha⟩
  have Ciz : Cal l.prog w K mg base "_law_is" 1 fiz _ ["answer", "due"] spIs := ⟨ok_is Fiz Ts, PySem.W.mg_of X G aiz, kiz, biz⟩
  have Crf : Cal l.prog w K mg base "_law_refused" 4 frf _ ["registry", "owner"] (spRefused K C) := ⟨ok_refused Frf TC T.cl Mpe Gpe bpe, PySem.W.mg_of X G arf, krf, brf⟩
  have Ckn : CalG l.prog w K mg base "_law_known" 13 fkn _ ["registry", "other", "owners", "noted", "bodies"] (spKnown K C) := ⟨ok_known Fkn Csa Ciz Cha, PySem.W.mg_of X G akn, kkn, bkn⟩
  exact ok_law Fla T Td Ts (PySem.W.mg_none_of X G z_str) Cdr Cbo Ckn Ciz Cse Csa Crf Csm T.cl Mpe Gpe bpe (ok_init Fri T) bri
theorem walk {l : PySem.W.OpenLaw} {q : Program} {loose : List Str} {XP : (Str → Option Value) → Heap → Prop} {YP : World → Heap → Prop} {d : DefRec} {K : Params → PySem.W.Frag} (hn : l.most = some 63) (hdf : d.params.defaults = [])
    (hY : ∀ (w : World) (h : Heap), YP w h → (K w.params).In h)
    (F : ∀ (w : World) (mg : Str → Option Value) (fa : Addr) (h : Heap), (K w.params).In h → h.Ns mainGlobals mg → mg d.name = some (.ref fa) →
      ∃ fd : FuncData, (∀ (s : Shared) (u : Value), BindsTo s fd ⟨[u], []⟩ [("script", u)]) ∧ ∀ base : Heap, (K w.params).In base → base.Ns mainGlobals mg → Gk l.prog w (K w.params) mg base 14 fa fd ["script"] (spLaw (K w.params))) :
    PySem.W.WalkO q loose XP YP l.row.toRowW d [] (fun f vs => PySem.call f vs) :=
  walkG (n := 63) (k := 14) (x := "script") (sp := fun w => spLaw (K w.params)) hn (by decide) hdf ⟨rfl, by decide, by decide⟩ hY F (fun _ _ a ns hl _ hS => ⟨a, ns, rfl, hS, hl, fun _ => rfl⟩)
end Vk
open PySem PySem.W PyProof.Rows
set_option maxRecDepth 100000 in
set_option maxHeartbeats 0 in
theorem PySem.Challenge.cw_trothbase_k03_seals_holds : PySem.Challenge.rw_trothbase_k03_seals.Holds := by
  w_on; o_law; k_head; (case hw => w_witness2)
  k_fill
  refine Vk.walk (l := PySem.Challenge.rw_trothbase_k03_seals) rfl rfl (fun w h Y => PySem.W.kIn_of Y) ?F
  case F =>
    intro w mg fa h KX G hmg
    refine' Vk.all_mk KX G hmg ?atx ?ltx ?ctx ?ktx ?api ?ipi ?lpi ?cpi ?kpi ?ase ?ise ?lse ?cse ?kse ?ari ?iri ?lri ?cri ?kri ?ape ?ipe ?lpe ?cpe ?kpe ?asa ?isa ?lsa ?csa ?ksa ?adr ?ldr ?cdr ?kdr ?asm ?lsm ?csm ?ksm ?abo ?lbo ?cbo ?kbo ?aha ?lha ?cha ?kha ?aiz ?liz ?ciz ?kiz ?arf ?lrf ?crf ?krf ?akn ?lkn ?ckn ?kkn ?ala ?lla ?cla ?kla ?aC ?aCP ?pgC ?hdC ?poC ?saC ?mkC ?kcC ?pgCP ?hdCP ?poCP ?saCP ?mkCP ?kcCP ?nN ?nS ?nP ?pO ?pS ?gCT ?gCI ?gCR ?gCM ?gCO ?xA ?kA ?bA ?tA ?sTT ?sII ?sIT ?sIR ?sIM ?sIO ?hCT ?hCR ?hCM ?hCO ?yCT ?yCR ?yCM ?yCO ?x1 ?x2 ?x3 ?x4 ?x5 ?x6 ?x7 ?z_len ?z_int ?z_min ?z_range ?z_isinstance ?z_tuple ?z_bool ?z_str ?z_repr
    (case gCT => k_is)
    (case gCI => k_is)
    (case gCR => k_is)
    (case gCM => k_is)
    (case gCO => k_is)
    (case aC => k_is)
    (case aCP => k_is)
    (case atx => k_is)
    (case ltx => k_is)
    (case ctx => k_is)
    (case ktx => k_is)
    (case api => k_is)
    (case ipi => k_is)
    (case lpi => k_is)
    (case cpi => k_is)
    (case kpi => k_is)
    (case ase => k_is)
    (case ise => k_is)
    (case lse => k_is)
    (case cse => k_is)
    (case kse => k_is)
    (case ari => k_is)
    (case iri => k_is)
    (case lri => k_is)
    (case cri => k_is)
    (case kri => k_is)
    (case ape => k_is)
    (case ipe => k_is)
    (case lpe => k_is)
    (case cpe => k_is)
    (case kpe => k_is)
    (case asa => k_is)
    (case isa => k_is)
    (case lsa => k_is)
    (case csa => k_is)
    (case ksa => k_is)
    (case adr => k_is)
    (case ldr => k_is)
    (case cdr => k_is)
    (case kdr => k_is)
    (case asm => k_is)
    (case lsm => k_is)
    (case csm => k_is)
    (case ksm => k_is)
    (case abo => k_is)
    (case lbo => k_is)
    (case cbo => k_is)
    (case kbo => k_is)
    (case aha => k_is)
    (case lha => k_is)
    (case cha => k_is)
    (case kha => k_is)
    (case aiz => k_is)
    (case liz => k_is)
    (case ciz => k_is)
    (case kiz => k_is)
    (case arf => k_is)
    (case lrf => k_is)
    (case crf => k_is)
    (case krf => k_is)
    (case akn => k_is)
    (case lkn => k_is)
    (case ckn => k_is)
    (case kkn => k_is)
    (case ala => k_is)
    (case lla => k_is)
    (case cla => k_is)
    (case kla => k_is)
    (case pgC => k_is)
    (case hdC => k_is)
    (case poC => k_is)
    (case saC => k_is)
    (case mkC => k_is)
    (case kcC => k_is)
    (case pgCP => k_is)
    (case hdCP => k_is)
    (case poCP => k_is)
    (case saCP => k_is)
    (case mkCP => k_is)
    (case kcCP => k_is)
    (case nN => k_is)
    (case nS => k_is)
    (case nP => k_is)
    (case pO => k_is)
    (case pS => k_is)
    (case xA => k_exc)
    (case kA => k_is)
    (case bA => k_is)
    (case tA => k_is)
    (case sTT => k_is)
    (case sII => k_is)
    (case sIT => k_is)
    (case sIR => k_is)
    (case sIM => k_is)
    (case sIO => k_is)
    (case hCT => k_is)
    (case hCR => k_is)
    (case hCM => k_is)
    (case hCO => k_is)
    (case yCT => k_is)
    (case yCR => k_is)
    (case yCM => k_is)
    (case yCO => k_is)
    (case x1 => k_is)
    (case x2 => k_is)
    (case x3 => k_is)
    (case x4 => k_is)
    (case x5 => k_is)
    (case x6 => k_is)
    (case x7 => k_is)
    (case z_len => k_is)
    (case z_int => k_is)
    (case z_min => k_is)
    (case z_range => k_is)
    (case z_isinstance => k_is)
    (case z_tuple => k_is)
    (case z_bool => k_is)
    (case z_str => k_is)
    (case z_repr => k_is)
#print axioms PySem.Challenge.cw_trothbase_k03_seals_holds
