import PyProof.Rows.All
import Wide.All
import OpenK.AllK
import Wide.FinOn
import PyProof.ReprReads
import PyProof.Rows.StrIntSpec
import HandS.Base
import HandS.Call
import HandS.List
import HandS.Dict
import HandS.Ends
import HandS.Words
import HandS.WordsList
import HandS.WordsDict
import PyProof.ReprRoads
import HandS.IsInst
import HandS.Comp
import HandS.More
import HandS.Codes
import PyProof.RulesMatch
import PyProof.RulesMatchSeq
import PyProof.Rows.MatchSeqLen
import PyProof.Rows.TupIter
import HandS.TupAny
import HandS.TupMul
import HandS.Text
import HandS.Iter
import HandS.Deep
import HandS.TupLe
import PyProof.P3In
import PyProof.StrOps2
import HandS.Small
import KE.DataMinMax
import PyProof.Rows.CallKwBuiltin
import PyProof.P3Eq
import HandS.SetFor
import HandS.Style
import HandS.Zip
import HandS.Conv
import PySem.Challenge.RW_trothbase_k21_judged_heads
set_option Elab.async false
set_option maxRecDepth 100000
set_option maxHeartbeats 4000000
namespace Vk
open PySem
/-! # The text of a plain value tells the value: no two have one text -/
/-! ## integers -/
def intL (i : Int) : List Nat := (Str.ofString (toString i)).cps.toList
theorem ofString_codes (x : String) : (Str.ofString x).cps.toList = x.toList.map Char.toNat := by
  simp [Str.ofString_eq_toList]
theorem codes_inj : ∀ {a b : List Char}, a.map Char.toNat = b.map Char.toNat → a = b
  | [], [], _ => rfl
  | [], _ :: _, h => by cases h
  | _ :: _, [], h => by cases h
  | x :: a, y :: b, h => by
    injection h with h1 h2
    have e : x = y := Char.ext (UInt32.toNat_inj.mp h1)
    rw [e, codes_inj h2]
theorem intL_inj {i j : Int} (h : intL i = intL j) : i = j := by
  unfold intL at h
  rw [ofString_codes, ofString_codes] at h
  have e := codes_inj h
  have e2 : toString i = toString j := String.ext e
  exact Int.repr_inj.mp e2
theorem digits_are (m : Nat) : ∀ c ∈ (Nat.toDigits 10 m).map Char.toNat, 48 ≤ c ∧ c ≤ 57 := by
  intro c hc
  obtain ⟨d, hd, rfl⟩ := List.mem_map.mp hc
  have z := Nat.isDigit_of_mem_toDigits (b := 10) (by decide) (by decide) hd
  simp only [Char.isDigit, Bool.and_eq_true, decide_eq_true_eq, UInt32.le_iff_toNat_le] at z
  exact z
theorem intL_mem (i : Int) : ∀ c ∈ intL i, c = 45 ∨ (48 ≤ c ∧ c ≤ 57) := by
  intro c hc
  cases i with
  | ofNat m =>
    unfold intL at hc
    rw [PyProof.Rows.text_ofNat] at hc
    exact .inr (digits_are m c (by simpa using hc))
  | negSucc m =>
    have e : intL (Int.negSucc m) = 45 :: (Nat.toDigits 10 (m + 1)).map Char.toNat := by
      unfold intL
      rw [ofString_codes]
      show ("-" ++ Nat.repr (m + 1)).toList.map Char.toNat = _
      rw [String.toList_append, List.map_append]
      show [45] ++ (Nat.repr (m + 1)).toList.map Char.toNat = _
      have e2 : (Nat.repr (m + 1)).toList = Nat.toDigits 10 (m + 1) := by
        unfold Nat.repr
        exact String.toList_ofList
      rw [e2]
      rfl
    rw [e] at hc
    rcases List.mem_cons.mp hc with h | h
    · exact .inl h
    · exact .inr (digits_are _ c h)
theorem intL_ne (i : Int) : intL i ≠ [] := by
  intro h
  have e : toString i = "" := by
    unfold intL at h
    rw [ofString_codes] at h
    exact String.ext (List.map_eq_nil_iff.mp h)
  cases i with
  | ofNat m =>
    have len := Nat.length_toDigits_pos (b := 10) (n := m)
    have e2 : Nat.repr m = "" := e
    have e3 : (Nat.repr m).toList = Nat.toDigits 10 m := by
      unfold Nat.repr
      exact String.toList_ofList
    rw [e2] at e3
    rw [← e3] at len
    exact absurd len (by decide)
  | negSucc m =>
    have e2 : "-" ++ Nat.repr (m + 1) = "" := e
    have e3 := congrArg String.toList e2
    rw [String.toList_append] at e3
    cases e3
/-! ## texts -/
/-- signs from the space to ~ -/
def okS (x : Str) : Bool := x.cps.all fun c => decide (32 ≤ c) && decide (c ≤ 126)
theorem okS_mem {x : Str} (h : okS x = true) : ∀ c ∈ x.cps.toList, 32 ≤ c ∧ c ≤ 126 := by
  intro c hc
  unfold okS at h
  rw [Array.all_eq_true'] at h
  have z := h c (Array.mem_toList_iff.mp hc)
  simpa using z
theorem print_ascii : ∀ c : Nat, c < 127 → 32 ≤ c → Unicode.isPrintable c = true := by
  have z : (List.range 127).all (fun c => !decide (32 ≤ c) || Unicode.isPrintable c) = true := by decide +kernel
  intro c h1 h2
  have y := List.all_eq_true.mp z c (List.mem_range.mpr h1)
  simpa [h2] using y
theorem repr_ascii {q c : Nat} (h1 : 32 ≤ c) (h2 : c ≤ 126) : Builtin.Str.reprChar q c = if c = q ∨ c = 92 then [92, c] else [c] := by
  unfold Builtin.Str.reprChar
  by_cases h : c = q ∨ c = 92
  · rw [if_pos h]
    have e : (c == q || c == 92) = true := by
      rcases h with h | h <;> simp [h]
    simp only [e, if_true]
  · rw [if_neg h]
    have e : (c == q || c == 92) = false := by
      simp only [Bool.or_eq_false_iff, beq_eq_false_iff_ne]
      exact ⟨fun z => h (.inl z), fun z => h (.inr z)⟩
    have e1 : (c == 10) = false := beq_eq_false_iff_ne.mpr (by omega)
    have e2 : (c == 13) = false := beq_eq_false_iff_ne.mpr (by omega)
    have e3 : (c == 9) = false := beq_eq_false_iff_ne.mpr (by omega)
    simp [e, e1, e2, e3, print_ascii c (by omega) h1]
def body (q : Nat) : List Nat → List Nat
  | [] => []
  | c :: r => (if c = q ∨ c = 92 then [92, c] else [c]) ++ body q r
theorem body_inj (q : Nat) (hq : q ≠ 92) : ∀ (a b r1 r2 : List Nat), body q a ++ q :: r1 = body q b ++ q :: r2 → a = b ∧ r1 = r2
  | [], [], r1, r2, h => ⟨rfl, by injection h⟩
  | [], c :: b, r1, r2, h => by
    exfalso
    simp only [body] at h
    split at h
    · injection h with h1 _
      exact hq h1
    · rename_i n
      injection h with h1 _
      exact n (.inl h1.symm)
  | c :: a, [], r1, r2, h => by
    exfalso
    simp only [body] at h
    split at h
    · injection h with h1 _
      exact hq h1.symm
    · rename_i n
      injection h with h1 _
      exact n (.inl h1)
  | c :: a, d :: b, r1, r2, h => by
    simp only [body] at h
    split at h <;> split at h
    · simp only [List.cons_append, List.nil_append, List.append_assoc] at h
      injection h with _ h
      injection h with h1 h
      obtain ⟨e1, e2⟩ := body_inj q hq a b r1 r2 h
      exact ⟨by rw [h1, e1], e2⟩
    · rename_i n
      simp only [List.cons_append, List.nil_append] at h
      injection h with h1 _
      exact absurd (.inr h1.symm) n
    · rename_i n _
      simp only [List.cons_append, List.nil_append] at h
      injection h with h1 _
      exact absurd (.inr h1) n
    · simp only [List.cons_append, List.nil_append, List.append_assoc] at h
      injection h with h1 h
      obtain ⟨e1, e2⟩ := body_inj q hq a b r1 r2 h
      exact ⟨by rw [h1, e1], e2⟩
def strL (x : Str) : List Nat := (reprText x).cps.toList
theorem foldl_codes (q : Nat) : ∀ (l : List Nat) (acc : Array Nat), (∀ c ∈ l, 32 ≤ c ∧ c ≤ 126) → (l.foldl (fun out c => out ++ (Builtin.Str.reprChar q c).toArray) acc).toList = acc.toList ++ body q l
  | [], acc, _ => by simp [body]
  | c :: l, acc, h => by
    obtain ⟨h1, h2⟩ := h c List.mem_cons_self
    rw [List.foldl_cons, foldl_codes q l _ (fun d hd => h d (List.mem_cons_of_mem _ hd)), repr_ascii h1 h2]
    simp [body]
theorem quote_is (x : Str) : reprQuote x = 34 ∨ reprQuote x = 39 := by
  unfold reprQuote
  split
  · exact .inl rfl
  · exact .inr rfl
theorem strL_eq {x : Str} (h : okS x = true) : strL x = reprQuote x :: (body (reprQuote x) x.cps.toList ++ [reprQuote x]) := by
  unfold strL reprText
  rw [Array.toList_push, ← Array.foldl_toList, foldl_codes _ _ _ (okS_mem h)]
  simp
theorem strL_inj {x y : Str} (hx : okS x = true) (hy : okS y = true) {r1 r2 : List Nat} (h : strL x ++ r1 = strL y ++ r2) : x = y ∧ r1 = r2 := by
  rw [strL_eq hx, strL_eq hy] at h
  simp only [List.cons_append, List.append_assoc, List.nil_append] at h
  injection h with hq h
  rw [← hq] at h
  obtain ⟨e1, e2⟩ := body_inj (reprQuote x) (by rcases quote_is x with e | e <;> rw [e] <;> decide) _ _ _ _ h
  refine ⟨?_, e2⟩
  cases x
  cases y
  congr
  exact Array.toList_inj.mp e1
end Vk
namespace Vk
open PySem
/-! ## whole values -/
mutual
/-- plain, of signs that are written as they are, of integers that are not too long -/
def okD : PyData → Bool
  | .none => true
  | .bool _ => true
  | .int i => decide (i.natAbs.log2 < 1920)
  | .str x => okS x
  | .tuple xs => okDs xs
  | .list _ => false
  | .dict _ => false
def okDs : List PyData → Bool
  | [] => true
  | x :: xs => okD x && okDs xs
end
def joinL : List (List Nat) → List Nat
  | [] => []
  | [x] => x
  | x :: y :: r => x ++ (44 :: 32 :: joinL (y :: r))
def closeL (n : Nat) : List Nat := if n = 1 then [44, 41] else [41]
mutual
def encD : PyData → List Nat
  | .none => [78, 111, 110, 101]
  | .bool true => [84, 114, 117, 101]
  | .bool false => [70, 97, 108, 115, 101]
  | .int i => intL i
  | .str x => strL x
  | .tuple xs => 40 :: (joinL (encDs xs) ++ closeL xs.length)
  | .list _ => []
  | .dict _ => []
def encDs : List PyData → List (List Nat)
  | [] => []
  | x :: xs => encD x :: encDs xs
end
theorem app_codes (a b : Str) : (a ++ b).cps.toList = a.cps.toList ++ b.cps.toList := by
  show (a.cps ++ b.cps).toList = _
  simp
theorem join_codes (f : PyData → List Nat) : ∀ ts : List Str, (Str.join ", " ts).cps.toList = joinL (ts.map fun t => t.cps.toList)
  | [] => rfl
  | [x] => rfl
  | x :: y :: r => by
    have ih := join_codes f (y :: r)
    show (x ++ ", " ++ Str.join ", " (y :: r)).cps.toList = _
    rw [app_codes, app_codes, ih, ofString_codes]
    simp [joinL]
theorem encDs_len : ∀ xs : List PyData, (encDs xs).length = xs.length
  | [] => rfl
  | x :: xs => by simp [encDs, encDs_len xs]
theorem shownAll_len : ∀ xs : List PyData, (PyData.shownAll xs).length = xs.length
  | [] => rfl
  | x :: xs => by simp [PyData.shownAll, shownAll_len xs]
mutual
theorem shown_codes : ∀ d : PyData, okD d = true → (PyData.shown d).cps.toList = encD d
  | .none, _ => by rw [PyData.shown, encD]; decide +kernel
  | .bool true, _ => by rw [PyData.shown, encD]; decide +kernel
  | .bool false, _ => by rw [PyData.shown, encD]; decide +kernel
  | .int i, _ => by rw [PyData.shown, encD]; rfl
  | .str x, _ => by rw [PyData.shown, encD]; rfl
  | .tuple xs, h => by
    have h' : okDs xs = true := by simpa [okD] using h
    rw [PyData.shown, encD]
    unfold tupleText
    rw [app_codes, app_codes, join_codes encD, shown_codesAll xs h', shownAll_len]
    by_cases e : xs.length = 1
    · simp only [e, closeL, if_true, beq_self_eq_true]
      rw [ofString_codes, ofString_codes]
      simp
    · have e2 : (xs.length == 1) = false := beq_eq_false_iff_ne.mpr e
      simp only [e, e2, closeL, if_false, Bool.false_eq_true]
      rw [ofString_codes, ofString_codes]
      simp
  | .list _, h => by simp [okD] at h
  | .dict _, h => by simp [okD] at h
theorem shown_codesAll : ∀ xs : List PyData, okDs xs = true → (PyData.shownAll xs).map (fun t => t.cps.toList) = encDs xs
  | [], _ => rfl
  | x :: xs, h => by
    have h' : okD x = true ∧ okDs xs = true := by simpa [okDs] using h
    simp only [PyData.shownAll, List.map_cons, encDs, shown_codes x h'.1, shown_codesAll xs h'.2]
end
/-- the kind of a value, by its first sign -/
def kindOf (c : Nat) : Nat := if c = 78 then 0 else if c = 84 ∨ c = 70 then 1 else if c = 34 ∨ c = 39 then 3 else if c = 40 then 4 else 2
def kindD : PyData → Nat
  | .none => 0
  | .bool _ => 1
  | .int _ => 2
  | .str _ => 3
  | .tuple _ => 4
  | .list _ => 5
  | .dict _ => 5
theorem first_sign : ∀ d : PyData, okD d = true → ∃ c t, encD d = c :: t ∧ kindOf c = kindD d ∧ c ≠ 41 ∧ c ≠ 44
  | .none, _ => ⟨78, [111, 110, 101], rfl, rfl, by decide, by decide⟩
  | .bool true, _ => ⟨84, _, rfl, rfl, by decide, by decide⟩
  | .bool false, _ => ⟨70, _, rfl, rfl, by decide, by decide⟩
  | .int i, _ => by
    have m := intL_mem i
    cases e : intL i with
    | nil => exact absurd e (intL_ne i)
    | cons c t =>
      have z := m c (by rw [e]; exact List.mem_cons_self)
      refine ⟨c, t, by rw [encD]; exact e, ?_, by omega, by omega⟩
      show kindOf c = 2
      unfold kindOf
      rw [if_neg (by omega), if_neg (by omega), if_neg (by omega), if_neg (by omega)]
  | .str x, h => by
    have e := strL_eq (x := x) h
    refine ⟨reprQuote x, _, by rw [encD]; exact e, ?_, ?_, ?_⟩
    · rcases quote_is x with z | z <;> rw [z] <;> rfl
    · rcases quote_is x with z | z <;> rw [z] <;> decide
    · rcases quote_is x with z | z <;> rw [z] <;> decide
  | .tuple xs, _ => ⟨40, _, by rw [encD], rfl, by decide, by decide⟩
  | .list _, h => by simp [okD] at h
  | .dict _, h => by simp [okD] at h
def Stop (r : List Nat) : Prop := r = [] ∨ ∃ c t, r = c :: t ∧ (c = 41 ∨ c = 44)
/-- two rows of signs, each behind it a stop: cut at the first stop -/
theorem cut_stop : ∀ (a b r1 r2 : List Nat), (∀ c ∈ a, c ≠ 41 ∧ c ≠ 44) → (∀ c ∈ b, c ≠ 41 ∧ c ≠ 44) → Stop r1 → Stop r2 → a ++ r1 = b ++ r2 → a = b ∧ r1 = r2
  | [], [], _, _, _, _, _, _, h => ⟨rfl, h⟩
  | [], d :: b, r1, r2, _, hb, s1, _, h => by
    exfalso
    have z := hb d List.mem_cons_self
    rcases s1 with rfl | ⟨c, t, rfl, hc⟩
    · cases h
    · injection h with h1 _
      omega
  | c :: a, [], r1, r2, ha, _, _, s2, h => by
    exfalso
    have z := ha c List.mem_cons_self
    rcases s2 with rfl | ⟨d, t, rfl, hc⟩
    · cases h
    · injection h with h1 _
      omega
  | c :: a, d :: b, r1, r2, ha, hb, s1, s2, h => by
    injection h with h1 h
    obtain ⟨e1, e2⟩ := cut_stop a b r1 r2 (fun x hx => ha x (List.mem_cons_of_mem _ hx)) (fun x hx => hb x (List.mem_cons_of_mem _ hx)) s1 s2 h
    exact ⟨by rw [h1, e1], e2⟩
theorem close_stop (n : Nat) (r : List Nat) : Stop (closeL n ++ r) := by
  unfold closeL
  split
  · exact .inr ⟨44, _, rfl, .inr rfl⟩
  · exact .inr ⟨41, _, rfl, .inl rfl⟩
theorem kind_same {d e : PyData} (hd : okD d = true) (he : okD e = true) {r1 r2 : List Nat} (h : encD d ++ r1 = encD e ++ r2) : kindD d = kindD e := by
  obtain ⟨c, t, e1, k1, _⟩ := first_sign d hd
  obtain ⟨c', t', e2, k2, _⟩ := first_sign e he
  rw [e1, e2] at h
  injection h with h1 _
  rw [← k1, ← k2, h1]
mutual
theorem enc_inj : ∀ (d e : PyData) (r1 r2 : List Nat), okD d = true → okD e = true → Stop r1 → Stop r2 → encD d ++ r1 = encD e ++ r2 → d = e ∧ r1 = r2
  | .none, e, r1, r2, hd, he, s1, s2, h => by
    have k := kind_same hd he h
    cases e with
    | none => exact ⟨rfl, List.append_cancel_left h⟩
    | _ => simp [kindD] at k
  | .bool b, e, r1, r2, hd, he, s1, s2, h => by
    have k := kind_same hd he h
    cases e with
    | bool b' =>
      cases b <;> cases b'
      · exact ⟨rfl, List.append_cancel_left h⟩
      · simp [encD] at h
      · simp [encD] at h
      · exact ⟨rfl, List.append_cancel_left h⟩
    | _ => simp [kindD] at k
  | .int i, e, r1, r2, hd, he, s1, s2, h => by
    have k := kind_same hd he h
    cases e with
    | int j =>
      rw [encD, encD] at h
      obtain ⟨e1, e2⟩ := cut_stop _ _ _ _ (fun c hc => by have z := intL_mem i c hc; omega) (fun c hc => by have z := intL_mem j c hc; omega) s1 s2 h
      exact ⟨by rw [intL_inj e1], e2⟩
    | _ => simp [kindD] at k
  | .str x, e, r1, r2, hd, he, s1, s2, h => by
    have k := kind_same hd he h
    cases e with
    | str y =>
      rw [encD, encD] at h
      obtain ⟨e1, e2⟩ := strL_inj (x := x) (y := y) (by simpa [okD] using hd) (by simpa [okD] using he) h
      exact ⟨by rw [e1], e2⟩
    | _ => simp [kindD] at k
  | .tuple xs, e, r1, r2, hd, he, s1, s2, h => by
    have k := kind_same hd he h
    cases e with
    | tuple ys =>
      rw [encD, encD] at h
      simp only [List.cons_append, List.append_assoc] at h
      injection h with _ h
      have hx : okDs xs = true := by simpa [okD] using hd
      have hy : okDs ys = true := by simpa [okD] using he
      cases xs with
      | nil =>
        cases ys with
        | nil => exact ⟨rfl, List.append_cancel_left h⟩
        | cons y ys =>
          exfalso
          have hy' : okD y = true := by simp [okDs] at hy; exact hy.1
          obtain ⟨c, t, e1, _, n1, n2⟩ := first_sign y hy'
          have e2 : ∃ t', joinL (encDs (y :: ys)) = c :: t' := by
            cases ys with
            | nil => exact ⟨t, e1⟩
            | cons z zs => exact ⟨_, by simp only [encDs, joinL, e1]; rfl⟩
          obtain ⟨t', e2⟩ := e2
          rw [e2] at h
          injection h with h1 _
          exact n1 h1.symm
      | cons x xs =>
        cases ys with
        | nil =>
          exfalso
          have hx' : okD x = true := by simp [okDs] at hx; exact hx.1
          obtain ⟨c, t, e1, _, n1, n2⟩ := first_sign x hx'
          have e2 : ∃ t', joinL (encDs (x :: xs)) = c :: t' := by
            cases xs with
            | nil => exact ⟨t, e1⟩
            | cons z zs => exact ⟨_, by simp only [encDs, joinL, e1]; rfl⟩
          obtain ⟨t', e2⟩ := e2
          rw [e2] at h
          injection h with h1 _
          exact n1 h1
        | cons y ys =>
          obtain ⟨e1, e2⟩ := enc_injs (x :: xs) y ys _ _ r1 r2 hx hy h
          exact ⟨by rw [e1], e2⟩
    | _ => simp [kindD] at k
  | .list _, _, _, _, h, _, _, _, _ => by simp [okD] at h
  | .dict _, _, _, _, h, _, _, _, _ => by simp [okD] at h
theorem enc_injs : ∀ (l : List PyData) (y : PyData) (ys : List PyData) (n m : Nat) (r1 r2 : List Nat), okDs l = true → okDs (y :: ys) = true →
    joinL (encDs l) ++ (closeL n ++ r1) = joinL (encDs (y :: ys)) ++ (closeL m ++ r2) → l = y :: ys ∧ r1 = r2
  | [], y, ys, n, m, r1, r2, _, hy, h => by
    exfalso
    have hy' : okD y = true := by simp [okDs] at hy; exact hy.1
    obtain ⟨c, t, e1, _, n1, n2⟩ := first_sign y hy'
    have e2 : ∃ t', joinL (encDs (y :: ys)) = c :: t' := by
      cases ys with
      | nil => exact ⟨t, e1⟩
      | cons z zs => exact ⟨_, by simp only [encDs, joinL, e1]; rfl⟩
    obtain ⟨t', e2⟩ := e2
    rw [e2] at h
    simp only [encDs, joinL, List.nil_append] at h
    unfold closeL at h
    split at h <;> (injection h with h1 _; omega)
  | [x], y, ys, n, m, r1, r2, hx, hy, h => by
    have hx' : okD x = true := by simp [okDs] at hx; exact hx
    have hy' : okD y = true := by simp [okDs] at hy; exact hy.1
    cases ys with
    | nil =>
      simp only [encDs, joinL] at h
      obtain ⟨e1, e2⟩ := enc_inj x y _ _ hx' hy' (close_stop n r1) (close_stop m r2) h
      refine ⟨by rw [e1], ?_⟩
      unfold closeL at e2
      split at e2 <;> split at e2
      · simpa using e2
      · injection e2 with z _; cases z
      · injection e2 with z _; cases z
      · simpa using e2
    | cons z zs =>
      exfalso
      simp only [encDs, joinL, List.append_assoc, List.cons_append] at h
      obtain ⟨e1, e2⟩ := enc_inj x y _ _ hx' hy' (close_stop n r1) (.inr ⟨44, _, rfl, .inr rfl⟩) h
      unfold closeL at e2
      split at e2
      · injection e2 with _ z
        injection z with z _
        cases z
      · injection e2 with z _
        cases z
  | x :: x2 :: l, y, ys, n, m, r1, r2, hx, hy, h => by
    have hx' : okD x = true ∧ okDs (x2 :: l) = true := by
      have z : (okD x && okDs (x2 :: l)) = true := by rw [okDs] at hx; exact hx
      exact Bool.and_eq_true_iff.mp z
    have hy' : okD y = true := by simp [okDs] at hy; exact hy.1
    cases ys with
    | nil =>
      exfalso
      simp only [encDs, joinL, List.append_assoc, List.cons_append] at h
      obtain ⟨e1, e2⟩ := enc_inj x y _ _ hx'.1 hy' (.inr ⟨44, _, rfl, .inr rfl⟩) (close_stop m r2) h
      rcases (show closeL m = [44, 41] ∨ closeL m = [41] by unfold closeL; split <;> simp) with cm | cm
      · rw [cm] at e2
        injection e2 with _ z
        injection z with z _
        cases z
      · rw [cm] at e2
        injection e2 with z _
        cases z
    | cons z zs =>
      have hz : okDs (z :: zs) = true := by
        have q : (okD y && okDs (z :: zs)) = true := by rw [okDs] at hy; exact hy
        exact (Bool.and_eq_true_iff.mp q).2
      have h2 : encD x ++ (44 :: 32 :: (joinL (encDs (x2 :: l)) ++ (closeL n ++ r1))) = encD y ++ (44 :: 32 :: (joinL (encDs (z :: zs)) ++ (closeL m ++ r2))) := by
        simpa only [encDs, joinL, List.append_assoc, List.cons_append] using h
      obtain ⟨e1, e2⟩ := enc_inj x y _ _ hx'.1 hy' (.inr ⟨44, _, rfl, .inr rfl⟩) (.inr ⟨44, _, rfl, .inr rfl⟩) h2
      injection e2 with _ e2
      injection e2 with _ e2
      obtain ⟨e3, e4⟩ := enc_injs (x2 :: l) z zs n m r1 r2 hx'.2 hz e2
      exact ⟨by rw [e1, e3], e4⟩
end
theorem shown_inj {d e : PyData} (hd : okD d = true) (he : okD e = true) (h : PyData.shown d = PyData.shown e) : d = e := by
  have z : encD d ++ [] = encD e ++ [] := by
    rw [List.append_nil, List.append_nil, ← shown_codes d hd, ← shown_codes e he, h]
  exact (enc_inj d e [] [] hd he (.inl rfl) (.inl rfl) z).1
mutual
theorem okD_show : ∀ d : PyData, okD d = true → PyData.showable d = true
  | .none, _ => rfl
  | .bool _, _ => rfl
  | .int i, h => by simpa [okD, PyData.showable] using h
  | .str _, _ => rfl
  | .tuple xs, h => by
    rw [PyData.showable]
    exact okDs_show xs (by simpa [okD] using h)
  | .list _, h => by simp [okD] at h
  | .dict _, h => by simp [okD] at h
theorem okDs_show : ∀ xs : List PyData, okDs xs = true → PyData.showableAll xs = true
  | [], _ => rfl
  | x :: xs, h => by
    have h' : okD x = true ∧ okDs xs = true := by simpa [okDs] using h
    rw [PyData.showableAll, okD_show x h'.1, okDs_show xs h'.2]
    rfl
end
mutual
theorem okD_noDict : ∀ d : PyData, okD d = true → PyData.hasDict d = false
  | .none, _ => rfl
  | .bool _, _ => rfl
  | .int i, _ => rfl
  | .str _, _ => rfl
  | .tuple xs, h => by
    rw [PyData.hasDict]
    exact okDs_noDict xs (by simpa [okD] using h)
  | .list _, h => by simp [okD] at h
  | .dict _, h => by simp [okD] at h
theorem okDs_noDict : ∀ xs : List PyData, okDs xs = true → PyData.hasDictAll xs = false
  | [], _ => rfl
  | x :: xs, h => by
    have h' : okD x = true ∧ okDs xs = true := by simpa [okDs] using h
    rw [PyData.hasDictAll, okD_noDict x h'.1, okDs_noDict xs h'.2]
    rfl
end
end Vk
namespace Vk
open PySem PySem.Spec PyProof.Rows L2
/-! # Defs that write values as texts: they are called where no text of a value is being written (no guard) -/
/-- a def's promise, wherever no guard stands -/
structure Gk (P : Program) (w : World) (K : PySem.W.Frag) (mg : Str → Option Value) (base : Heap) (k : Nat) (f : Addr) (fd : FuncData) (ps : List Str) (sp : Sp) : Prop where
  len : ∀ vs H Q E, sp vs H Q E → vs.length = ps.length
  go : ∀ {A : Around} {out : List Env} {s : Shared} {H : Hp} {args : Args} {us : List Value} {vs : List V} {Q : VK} {E : XK},
    A.guards = some [] → Room k A → Env0 P w K mg base A out s H → BindsTo s fd args (ps.zip us) → Vals vs us → sp vs H Q E →
      codeAny (model P w) A (.call (.ref f) args) (CR CX0 out P w H s Q E) s
section
variable {P : Program} {w : World} {K : PySem.W.Frag} {mg : Str → Option Value} {base : Heap} {k : Nat} {f : Addr} {fd : FuncData} {ps : List Str} {sp : Sp}
theorem Gk.of (F : FnOk P w K mg base CX0 k f fd ps sp) : Gk P w K mg base k f fd ps sp :=
  ⟨F.len, fun {A out s H args us vs Q E} _ r e b v h => F.run A out s H args us vs Q E r e b v h⟩
theorem deeper_guards {A : Around} (env : Env) (h : A.guards = some []) : (A.deeper env).guards = some [] := h
/-- the rule for a def that is called where no guard stands: its body as a term, and the reading of it -/
theorem okG {x qual : Str} {st : Stmt} {N : List Str} (F : Fun K x qual st f fd) (S : FnScope N ps (defScope st))
    (len : ∀ vs H Q E, sp vs H Q E → vs.length = ps.length)
    (bodyOk : ∀ (cd : Value) (A : Around) (out : List Env) (s : Shared) (H : Hp) (vs : List V) (Q : VK) (E : XK),
      (A.deeper (envOfC qual (defScope st) s.heap.objs.size f cd)).guards = some [] →
      Room k (A.deeper (envOfC qual (defScope st) s.heap.objs.size f cd)) → sp vs H Q E →
      ∃ t, PSs (cxOf CX0 P w K mg base N qual (defScope st) f cd A out s H E).nox (defBody st) t ∧
        t { nx := fun _ H' => Q .non H', rt := Q } (start N vs) H) : Gk P w K mg base (k + 1) f fd ps sp := by
  obtain ⟨oc, od, kV, doc, pm, an, cd, ct, sl, rfl, look, code⟩ := F.ex
  refine ⟨len, fun {A out s H args us vs Q E} hg room en bind vals want => ?_⟩
  have n1 := len _ _ _ _ want
  have inK : K.In s.heap := en.mod.kin.keeps (fun b o e => (en.bs b o e).1)
  have noLim : s.heap.NoLimit := en.mod.nolimit.keeps (fun b o e => (en.bs b o e).1)
  have kinds : ∀ y ∈ ps.zip us, (defScope st).names.lookup y.1 = some .local ∨
      ((defScope st).names.lookup y.1 = some .cell ∧ ((cellsFrom (s.heap.objs.size + 1) (defScope st).names []).lookup y.1).isSome = true) := by
    rintro ⟨n, u⟩ hy
    cases S.par n (List.of_mem_zip hy).1 with
    | inl q => exact Or.inl q
    | inr q => exact Or.inr ⟨q, PySem.W.cellsFrom_some _ _ _ (Or.inl q)⟩
  refine codeAny_call_function room.depth (inK _ _ look) rfl S.co S.gen rfl (PySem.W.codeRec_of inK code) (bind _ _ _ _ ?_)
  refine wpAny_newFunctionEnv_cells S.kind kinds (fun env he st1 inCall => ?_)
  cases he
  refine ⟨noLim.keeps inCall.toInCall.keep, codeAny_func ?_⟩
  obtain ⟨t, ht, hq⟩ := bodyOk cd A out s H vs Q E hg (room.deeper _) want
  have inv : Inv (cxOf CX0 P w K mg base N qual (defScope st) f cd A out s H E) [] (start N vs) H st1 := inv_start S room.hd en n1 vals inCall
  refine wpAny_mono (ht.nox.run [] st1 _ H _ inv hq) (fun fl s2 h2 => ?_) (fun e s2 h2 => h2)
  have fin : ∀ {σ : L2.St} {H2 : Hp} {v : V} {u : Value}, Inv (cxOf CX0 P w K mg base N qual (defScope st) f cd A out s H E) [] σ H2 s2 → RelV v u → Q v H2 → CE out P w H s Q u s2 :=
    fun {σ H2 v u} J r q => ⟨v, H2, J.os, J.bare, J.base, J.hok, r, q⟩
  match fl, h2 with
  | .ret u, ⟨v, σ, H2, J, r, q⟩ => exact fin J r q
  | .next, ⟨σ, H2, J, q⟩ => exact fin (v := V.non) (u := Value.none) J rfl q
  | .brk, ⟨_, _, _, q⟩ => exact q.elim
  | .cont, ⟨_, _, _, q⟩ => exact q.elim
end
section
variable {X : Cx} {k : Nat} {f C : Addr} {fd : FuncData} {ps : List Str} {sp : Sp} {x m : Str} {p pos apos : Pos} {e o : Expr} {es : List Expr} {ta : TE} {t : TA}
theorem runG {pins : List (Addr × Obj)} {σ : L2.St} {H : Hp} {s : Shared} {Q : VK} {us : List Value} {vs : List V} (hg : X.A.guards = some []) (F : Gk X.prog X.w X.K X.mg X.base k f fd ps sp) (room : Room k X.A) (B : Binds X.K fd ps [])
    (I : Inv X pins σ H s) (vals : Vals vs us) (want : sp vs H Q E0) : wpAny (model X.prog X.w) X.A (call (.ref f) us) (EP X pins σ Q) X.xe s := by
  have n1 : us.length = ps.length := by
    rw [← vals.length]
    exact F.len _ _ _ _ want
  have bind := B s us I.kIn (by rw [List.append_nil]; exact n1)
  rw [List.append_nil] at bind
  refine wpAny_call (codeAny_mono (F.go (args := ⟨us, []⟩) hg room I.env0 bind vals want) (fun r s2 h2 => ?_))
  match r, h2 with
  | .error _, h => exact h.elim
  | .ok (.ret u), h => exact I.after h
  | .ok .next, h => exact h.elim
  | .ok .brk, h => exact h.elim
  | .ok .cont, h => exact h.elim
/-- f(e, ..) -/
theorem pe_callG (hg : X.A.guards = some []) (F : Gk X.prog X.w X.K X.mg X.base k f fd ps sp) (room : Room k X.A) (gl : Gl X x) (hm : X.mg x = some (.ref f)) (kp : PySem.W.keepIn X.K (.ref f) = true) (B : Binds X.K fd ps [])
    (ha : PA X (e :: es) t) (dbg : (x == ("__debug__" : Str)) = false := by decide)
    (st : starEach (e :: es) X.env = (false, eval e X.env) :: starEach es X.env := by rfl)
    (pl : (backTo pos (starEach es X.env)).any (·.1) = false := by rfl) :
    PE X (.Call (.Name x p) (e :: es) [] pos) (tCall sp [] E0 t) := by
  constructor
  intro pins s σ H Q I h
  refine wpAny_Call_Name_kw (ld_glob I gl hm ?_ dbg)
  refine PySem.W.callWith_K (h₀ := X.base) I.ok.mod.kin kp (thn (ha.run pos pins s σ H _ I h) ?_) st pl
  rintro us s1 ⟨vs, H1, I1, r, q⟩
  rw [List.append_nil] at q
  exact ⟨I1.kIn, runG hg F room B I1 r q⟩
/-- o.m(e, ..) -/
theorem pe_methG {pl : Sem Bool} (hg : X.A.guards = some []) (he : PE X o ta) (c : Cls X.K C) (hm : Meth X.K C m f) (F : Gk X.prog X.w X.K X.mg X.base k f fd ps sp) (room : Room k X.A) (B : Binds X.K fd ps [])
    (ha : PA X (e :: es) t)
    (st : starEach (e :: es) X.env = (false, eval e X.env) :: starEach es X.env := by rfl)
    (pb : (backTo pos (starEach es X.env)).any (·.1) = false := by rfl)
    (ht : eval (.Call (.Attribute o m apos) (e :: es) [] pos) X.env = (do
        let ov ← eval o X.env
        standAt apos.atName
        let fm ← holding [ov] (getMethod ov m pl)
        callWith pos fm.1 fm.2 (backTo pos (starEach (e :: es) X.env)) (backToKw pos (keywordEach [] X.env))) := by rfl) :
    PE X (.Call (.Attribute o m apos) (e :: es) [] pos) (tMeth C m sp [] E0 ta t) := by
  constructor
  intro pins s σ H Q I h
  refine PySem.W.methodCall_KW (pl := pl) (thn (he.run pins s σ H _ I h) ?_) ht
  rintro u s1 ⟨v, H1, I1, rv, a, dx, fs, ev, ea, lo, q⟩
  cases ev
  cases (show u = Value.ref a from rv)
  refine getmeth_ok I1 ea c hm lo ?_
  refine PySem.W.callWith_K (first := [.ref a]) (h₀ := X.base) I.ok.mod.kin hm.kp (thn (ha.run pos pins s1 σ H1 _ I1 q) ?_) st pb
  rintro us s2 ⟨vs, H2, I2, r, q2⟩
  rw [List.append_nil] at q2
  exact ⟨I2.kIn, runG (us := .ref a :: us) (vs := .ref a :: vs) hg F room B I2 (.cons rfl r) q2⟩
/-- repr of a plain value -/
def rRepr (K : PySem.W.Frag) : List V → Hp → VK → Prop := fun xs H Q => ∃ x d, xs = [x] ∧ Dp K H x d ∧ okD d = true ∧ d.depth ≤ 60 ∧ d.shown.length ≤ sizeLine ∧ Q (.str d.shown) H
theorem call_reprD (hg : X.A.guards = some []) (room : Room k X.A) : CallR X (.builtin "repr") (rRepr X.K) := by
  intro pins s σ H xs us Q I r h
  obtain ⟨x, d, rfl, hd, ok, dep, len, q⟩ := h
  obtain ⟨u, rfl, rx⟩ := vals1 r
  have hu := room.units
  cases d with
  | none =>
    cases hd
    cases rx
    exact PySem.P.repr_of_none ⟨.str _, H, I.tok _, ⟨_, rfl⟩, q⟩
  | bool b =>
    cases hd
    cases rx
    exact PySem.P.repr_of_bool ⟨.str _, H, I.tok _, ⟨_, rfl⟩, q⟩
  | int i =>
    cases hd
    obtain ⟨t, rfl⟩ := rx
    exact PySem.P.repr_of_int (by simpa [okD] using ok) ⟨.str _, H, I.tok _, ⟨_, rfl⟩, q⟩
  | str y =>
    cases hd
    obtain ⟨t, rfl⟩ := rx
    exact PySem.P.repr_of_str ⟨.str _, H, I.tok _, ⟨_, rfl⟩, q⟩ (by simpa [PyData.shown] using len)
  | tuple xs =>
    obtain ⟨as, rd⟩ := Dp.reads I _ _ _ hd rx
    cases hd
    cases rx
    refine PySem.repr_of_reads' rd (okD_show _ ok) (fun z => ?_) hg (by omega) (fun _ _ e => e) (fun h' u tk kp => ?_) len
    · rw [okD_noDict _ ok] at z
      cases z
    · exact ⟨.str _, H, I.kept (t' := tk) kp, ⟨u, rfl⟩, q⟩
  | list _ => simp [okD] at ok
  | dict _ => simp [okD] at ok
end
/-! ## the law's own call -/
theorem callG {P : Program} {w : World} {K : PySem.W.Frag} {mg mb : Str → Option Value} {k : Nat} {fa a : Addr} {fd : FuncData} {x : Str} {sp : Sp} {st : Shared} {us : List Value} {ns : List Int}
    (inK : K.In st.heap) (nsM : st.heap.Ns mainGlobals mg) (nsB : st.heap.Ns builtinsNs mb) (boot : ∀ x : Str, x ≠ "__name__" → mb x = bootBuiltins x) (noLim : st.heap.NoLimit) (noGen : st.gens = #[])
    (atA : st.heap.get? a = some { cls := .type "list", data := .seq us.toArray }) (intsA : IntsAre us ns) (len : ns.length ≤ sizeLine) (room : Room k callerA)
    (F : ∀ base : Heap, K.In base → base.Ns mainGlobals mg → Gk P w K mg base k fa fd [x] sp) (bind : ∀ (s : Shared) (u : Value), BindsTo s fd ⟨[u], []⟩ [(x, u)])
    (want : ∀ H : Hp, Only H → SqL K H a (ns.map V.int) → sp [.ref a] H (fun v _ => v = .bl true) fun _ _ _ => False) :
    codeAny (model P w) callerA (.call (.ref fa) ⟨[.ref a], []⟩) (fun r s' => r = .ok (.ret (.bool true)) ∧ OldK st.heap s'.heap ∧ s'.os = st.os ∧ AllBare s'.gens) st := by
  have valsA : Vals (ns.map V.int) us := vals_ints intsA
  have sizes := intsA.length
  have main : ∀ H : Hp, Only H → SqL K H a (ns.map V.int) → HOk P w H st.heap → (∀ b, H b ≠ none → b = a) → (H a ≠ none → K.lookup a = none) →
      codeAny (model P w) callerA (.call (.ref fa) ⟨[.ref a], []⟩) (fun r s' => r = .ok (.ret (.bool true)) ∧ OldK st.heap s'.heap ∧ s'.os = st.os ∧ AllBare s'.gens) st := by
    intro H only sq ok atMost apart
    have dictFree : ∀ {b : Addr} {o : Obj} {es : Array DictEntry} {ep : Nat}, st.heap.get? b = some o → o.data = .dict es ep → H b = none := by
      intro b o es ep e d
      cases hb : H b with
      | none => rfl
      | some u =>
        cases atMost b (by rw [hb]; exact fun z => nomatch z)
        rw [atA] at e
        cases e
        exact nomatch (show Data.seq us.toArray _ = Data.dict es ep from d)
    have nsH : ∀ {b : Addr} {m : Str → Option Value}, st.heap.Ns b m → (hidT st.heap H).Ns b m := by
      rintro b m ⟨o, es, ep, e, d, rest⟩
      exact ⟨o, es, ep, hidT_get e (dictFree e d), d, rest⟩
    have inH : K.In (hidT st.heap H) := by
      intro b o e
      refine hidT_get (inK b o e) ?_
      cases hb : H b with
      | none => rfl
      | some u =>
        have eb := atMost b (by rw [hb]; exact fun z => nomatch z)
        rw [eb] at e hb
        rw [apart (by rw [hb]; exact fun z => nomatch z)] at e
        cases e
    have modH : Mod K mg (hidT st.heap H) := by
      obtain ⟨mc, z1, z2⟩ := id noLim
      exact ⟨inH, nsH nsM, ⟨mb, nsH nsB, boot⟩, ⟨mc, nsH z1, z2⟩⟩
    have en : Env0 P w K mg (hidT st.heap H) callerA [] st H :=
      { frames := rfl, mod := modH, bs := fun b o e => of_hidT e, bsz := Nat.le_of_eq (hidT_size _ _), funs := trivial, frf := (fun b hb => nomatch hb), hok := ok, bare := .of_eq noGen }
    have run := (F _ inH (nsH nsM)).go (out := []) (args := ⟨[.ref a], []⟩) (us := [.ref a]) (vs := [.ref a]) rfl room en (bind st (.ref a)) (.cons rfl .nil) (want H only sq)
    refine codeAny_mono run (fun r s2 h2 => ?_)
    match r, h2 with
    | .error _, h => exact h.elim
    | .ok .next, h => exact h.elim
    | .ok .brk, h => exact h.elim
    | .ok .cont, h => exact h.elim
    | .ok (.ret u), ⟨v, H2, osE, bareE, un, ok2, rv, q⟩ =>
      cases (show v = .bl true from q)
      cases (show u = Value.bool true from rv)
      refine ⟨rfl, OldK.of_keep (fun b o e => ?_), osE, bareE⟩
      cases hb : H b with
      | none => exact un.keep b o e hb (fun z => nomatch z) (fun z => nomatch z)
      | some u =>
        rcases only b with z | ⟨ob, xs, z⟩
        · rw [hb] at z
          cases z
        · have y1 := (ok b _ z).1
          have y2 := (ok2 b _ (un.frzs b ob _ z)).1
          rw [e] at y1
          cases y1
          exact y2
  cases known : K.lookup a with
  | some o =>
    have e := inK a o known
    rw [atA] at e
    cases e
    refine main (fun _ => none) (fun _ => Or.inl rfl) (Or.inr ⟨_, us.toArray, _, known, rfl, rfl, rfl, ?_, by simpa using valsA⟩) (fun b u z => nomatch z) (fun b z => absurd rfl z) (fun z => absurd rfl z)
    rw [List.size_toArray, sizes]
    exact len
  | none =>
    have at1 : ∀ {b : Addr} {o : HO}, (if b = a then some (HO.frz { cls := .type "list", data := .seq us.toArray } (.lst (ns.map V.int))) else none) = some o → b = a ∧ o = HO.frz { cls := .type "list", data := .seq us.toArray } (.lst (ns.map V.int)) := by
      intro b o z
      by_cases hb : b = a
      · rw [if_pos hb] at z
        exact ⟨hb, (Option.some.inj z).symm⟩
      · rw [if_neg hb] at z
        cases z
    refine main (fun b => if b = a then some (.frz { cls := .type "list", data := .seq us.toArray } (.lst (ns.map V.int))) else none) (fun b => ?_) (Or.inl (Or.inr ⟨_, if_pos rfl⟩)) (fun b u z => ?_) (fun b z => ?_) (fun _ => known)
    · by_cases hb : b = a
      · exact Or.inr ⟨_, _, if_pos hb⟩
      · exact Or.inl (if_neg hb)
    · obtain ⟨e1, e2⟩ := at1 z
      subst e1 e2
      exact ⟨atA, by rw [List.length_map]; exact len, us, _, valsA, atA⟩
    · by_cases hb : b = a
      · exact hb
      · exact absurd (if_neg hb) z
theorem walkG {l : PySem.W.OpenLaw} {n k : Nat} {q : Program} {loose : List Str} {XP : (Str → Option Value) → Heap → Prop} {YP : World → Heap → Prop} {d : DefRec} {K : Params → PySem.W.Frag} {sp : World → Sp} {x : Str}
    (most : l.most = some n) (small : n ≤ sizeLine) (plain : d.params.defaults = []) (room : Room k callerA)
    (atK : ∀ (w : World) (h : Heap), YP w h → (K w.params).In h)
    (F : ∀ (w : World) (mg : Str → Option Value) (fa : Addr) (h : Heap), (K w.params).In h → h.Ns mainGlobals mg → mg d.name = some (.ref fa) →
      ∃ fd : FuncData, (∀ (s : Shared) (u : Value), BindsTo s fd ⟨[u], []⟩ [(x, u)]) ∧
        ∀ base : Heap, (K w.params).In base → base.Ns mainGlobals mg → Gk l.prog w (K w.params) mg base k fa fd [x] (sp w))
    (want : ∀ (w : World) (H : Hp) (a : Addr) (ns : List Int), ns.length ≤ n → Only H → SqL (K w.params) H a (ns.map V.int) → sp w [.ref a] H (fun v _ => v = .bl true) fun _ _ _ => False) :
    PySem.W.WalkO q loose XP YP l.row.toRowW d [] (fun f vs => PySem.call f vs) := by
  refine Att.attach_call most plain (fun w s0 st mg mb fa o pm cd doc a us ns G Y hO hD cdo atMg atObj intsA len noGen => ?_)
  have inK := atK w _ Y
  obtain ⟨fd, bind, hF⟩ := F w mg fa _ inK G.T.g atMg
  exact callG inK G.T.g G.T.b G.T.builtins G.T.nolimit noGen atObj intsA (Nat.le_trans len small) room hF bind (fun H hO2 hS => want w H a ns len hO2 hS)
end Vk
namespace Vk
open PySem PySem.Spec PyProof.Rows L2
/-! # Plain data on the heap -/
def KeepT (H H' : Hp) : Prop := ∀ a o, (∃ xs, o = .tup xs ∨ ∃ ob, o = .frz ob (.tup xs)) → H a = some o → H' a = some o
theorem keepT_of {H H' : Hp} (s : Same H H') : KeepT H H' := fun a o _ h => s a o h
theorem KeepT.seq {K : PySem.W.Frag} {H H' : Hp} {a : Addr} {xs : List V} (k : KeepT H H') (h : SqT K H a xs) : SqT K H' a xs := by
  rcases h with (h | ⟨o, h⟩) | h
  · exact .inl (.inl (k _ _ ⟨xs, .inl rfl⟩ h))
  · exact .inl (.inr ⟨o, k _ _ ⟨xs, .inr ⟨o, rfl⟩⟩ h⟩)
  · exact .inr h
theorem KeepT.refl (H : Hp) : KeepT H H := fun _ _ _ h => h
theorem KeepT.trans {H H1 H2 : Hp} (a : KeepT H H1) (b : KeepT H1 H2) : KeepT H H2 := fun c o t h => b c o t (a c o t h)
theorem KeepT.new {H : Hp} {p : Addr} {o : HO} (h : H p = none) : KeepT H (upd H p o) := fun a u _ e => by
  rw [upd_ne (ne_of_none e h)]
  exact e
/-- an object that is no tuple is changed -/
theorem KeepT.put {H : Hp} {p : Addr} {u o : HO} (h : H p = some u) (nt : ∀ xs, u ≠ .tup xs) (nf : ∀ ob xs, u ≠ .frz ob (.tup xs)) : KeepT H (upd H p o) := fun a v t e => by
  have ne : a ≠ p := by
    intro z
    subst z
    rw [h] at e
    cases e
    obtain ⟨ys, t | ⟨ob, t⟩⟩ := t
    · exact nt _ t
    · exact nf _ _ t
  rw [upd_ne ne]
  exact e
theorem KeepT.lst {H : Hp} {p : Addr} {xs : List V} {o : HO} (h : H p = some (.lst xs)) : KeepT H (upd H p o) := KeepT.put h (fun _ z => nomatch z) (fun _ _ z => nomatch z)
theorem KeepT.dK {H : Hp} {p : Addr} {kvs : List (Key × V)} {o : HO} (h : H p = some (.dK kvs)) : KeepT H (upd H p o) := KeepT.put h (fun _ z => nomatch z) (fun _ _ z => nomatch z)
mutual
theorem dp_keep {K : PySem.W.Frag} {H H' : Hp} (k : KeepT H H') : ∀ (d : PyData) (v : V), okD d = true → Dp K H v d → Dp K H' v d
  | .none, _, _, h => by cases h; exact .non
  | .bool b, _, _, h => by cases h; exact .bl b
  | .int i, _, _, h => by cases h; exact .int i
  | .str x, _, _, h => by cases h; exact .str x
  | .list ds, _, n, _ => by simp [okD] at n
  | .dict ds, _, n, _ => by simp [okD] at n
  | .tuple ds, _, n, h => by
    cases h with
    | tup hs ha => exact .tup (k.seq hs) (dp_keepAll k ds _ (by simpa [okD] using n) ha)
theorem dp_keepAll {K : PySem.W.Frag} {H H' : Hp} (k : KeepT H H') : ∀ (ds : List PyData) (vs : List V), okDs ds = true → DpAll K H vs ds → DpAll K H' vs ds
  | [], _, _, h => by cases h; exact .nil
  | d :: ds, _, n, h => by
    have n' : okD d = true ∧ okDs ds = true := by simpa [okDs] using n
    cases h with
    | cons h1 h2 => exact .cons (dp_keep k d _ n'.1 h1) (dp_keepAll k ds _ n'.2 h2)
end
theorem dp_app {K : PySem.W.Frag} {H : Hp} : ∀ {xs ys : List V} {ds es : List PyData}, DpAll K H xs ds → DpAll K H ys es → DpAll K H (xs ++ ys) (ds ++ es)
  | _, _, _, _, .nil, h => h
  | _, _, _, _, .cons a b, h => .cons a (dp_app b h)
theorem dp_len {K : PySem.W.Frag} {H : Hp} : ∀ {xs : List V} {ds : List PyData}, DpAll K H xs ds → xs.length = ds.length
  | _, _, .nil => rfl
  | _, _, .cons _ b => congrArg Nat.succ (dp_len b)
theorem dp_at {K : PySem.W.Frag} {H : Hp} : ∀ {xs : List V} {ds : List PyData} {i : Nat} {d : PyData}, DpAll K H xs ds → ds[i]? = some d → ∃ v, xs[i]? = some v ∧ Dp K H v d
  | _, _, _, _, .nil, h => by simp at h
  | _, _, 0, _, .cons a _, h => by simp at h; subst h; exact ⟨_, rfl, a⟩
  | _, _, i + 1, _, .cons _ b, h => by
    obtain ⟨v, e, q⟩ := dp_at (i := i) b (by simpa using h)
    exact ⟨v, by simpa using e, q⟩
theorem dp_at' {K : PySem.W.Frag} {H : Hp} : ∀ {xs : List V} {ds : List PyData} {i : Nat} {v : V}, DpAll K H xs ds → xs[i]? = some v → ∃ d, ds[i]? = some d ∧ Dp K H v d
  | _, _, _, _, .nil, h => by simp at h
  | _, _, 0, _, .cons a _, h => by simp at h; subst h; exact ⟨_, rfl, a⟩
  | _, _, i + 1, _, .cons _ b, h => by
    obtain ⟨d, e, q⟩ := dp_at' (i := i) b (by simpa using h)
    exact ⟨d, by simpa using e, q⟩
theorem okDs_at : ∀ {ds : List PyData} {i : Nat} {d : PyData}, okDs ds = true → ds[i]? = some d → okD d = true
  | [], _, _, _, h => by simp at h
  | x :: xs, 0, d, o, h => by
    have o' : okD x = true ∧ okDs xs = true := by simpa [okDs] using o
    simp at h; subst h; exact o'.1
  | x :: xs, i + 1, d, o, h => by
    have o' : okD x = true ∧ okDs xs = true := by simpa [okDs] using o
    exact okDs_at (i := i) o'.2 (by simpa using h)
theorem okDs_app : ∀ {ds es : List PyData}, okDs ds = true → okDs es = true → okDs (ds ++ es) = true
  | [], _, _, h => h
  | x :: xs, es, o, h => by
    have o' : okD x = true ∧ okDs xs = true := by simpa [okDs] using o
    simp only [List.cons_append, okDs, o'.1, okDs_app o'.2 h, Bool.and_self]
theorem okDs_all : ∀ {ds : List PyData}, (∀ d ∈ ds, okD d = true) → okDs ds = true
  | [], _ => rfl
  | x :: xs, h => by
    simp only [okDs, h x List.mem_cons_self, okDs_all (ds := xs) fun d hd => h d (List.mem_cons_of_mem _ hd), Bool.and_self]
theorem depth_at : ∀ {ds : List PyData} {i : Nat} {d : PyData}, ds[i]? = some d → d.depth ≤ PyData.depthAll ds
  | [], _, _, h => by simp at h
  | x :: xs, 0, d, h => by
    simp at h; subst h
    simp only [PyData.depthAll]
    omega
  | x :: xs, i + 1, d, h => by
    have z := depth_at (ds := xs) (i := i) (d := d) (by simpa using h)
    simp only [PyData.depthAll]
    omega
/-! ## kinds -/
def tyD : PyData → String
  | .none => "NoneType"
  | .bool _ => "bool"
  | .int _ => "int"
  | .str _ => "str"
  | .tuple _ => "tuple"
  | .list _ => "list"
  | .dict _ => "dict"
theorem sqT_ty {K : PySem.W.Frag} {H : Hp} {a : Addr} {xs : List V} (h : SqT K H a xs) : TyX K H (.ref a) (.type "tuple") := by
  rcases h with (h | ⟨o, h⟩) | ⟨o, its, n, h1, h2, _⟩
  · exact .base (.tup h)
  · exact .fTuple h
  · exact .kTuple h1 h2
theorem dp_ty {K : PySem.W.Frag} {H : Hp} {v : V} {d : PyData} (h : Dp K H v d) (ok : okD d = true) : TyX K H v (.type (tyD d)) := by
  cases h with
  | non => exact .base .non
  | bl b => exact .base (.bl b)
  | int i => exact .base (.int i)
  | str x => exact .base (.str x)
  | lst _ _ => simp [okD] at ok
  | tup hs _ => exact sqT_ty hs
def isTupD : PyData → Bool
  | .tuple _ => true
  | _ => false
def isBoolD : PyData → Bool
  | .bool _ => true
  | _ => false
theorem kit_tup {K : PySem.W.Frag} {d : PyData} (ok : okD d = true) : PySem.W.kitOne K (.type (tyD d)) (.type "tuple") = some (isTupD d) := by
  cases d with
  | none => exact kit_ty (a := "NoneType") (r := false) (by decide +kernel)
  | bool b => exact kit_ty (a := "bool") (r := false) (by decide +kernel)
  | int i => exact kit_ty (a := "int") (r := false) (by decide +kernel)
  | str x => exact kit_ty (a := "str") (r := false) (by decide +kernel)
  | tuple xs => exact kit_ty (a := "tuple") (r := true) (by decide +kernel)
  | list _ => simp [okD] at ok
  | dict _ => simp [okD] at ok
theorem kit_bool {K : PySem.W.Frag} {d : PyData} (ok : okD d = true) : PySem.W.kitOne K (.type (tyD d)) (.type "bool") = some (isBoolD d) := by
  cases d with
  | none => exact kit_ty (a := "NoneType") (r := false) (by decide +kernel)
  | bool b => exact kit_ty (a := "bool") (r := true) (by decide +kernel)
  | int i => exact kit_ty (a := "int") (r := false) (by decide +kernel)
  | str x => exact kit_ty (a := "str") (r := false) (by decide +kernel)
  | tuple xs => exact kit_ty (a := "tuple") (r := false) (by decide +kernel)
  | list _ => simp [okD] at ok
  | dict _ => simp [okD] at ok
/-! ## two values are one -/
mutual
def eqD : PyData → PyData → Bool
  | .none, .none => true
  | .bool a, .bool b => decide (a = b)
  | .int a, .int b => decide (a = b)
  | .str a, .str b => decide (a = b)
  | .tuple xs, .tuple ys => eqDs xs ys
  | _, _ => false
def eqDs : List PyData → List PyData → Bool
  | [], [] => true
  | x :: xs, y :: ys => eqD x y && eqDs xs ys
  | _, _ => false
end
mutual
theorem eqD_iff : ∀ d e : PyData, okD d = true → (eqD d e = true ↔ d = e)
  | .none, e, _ => by cases e <;> simp [eqD]
  | .bool a, e, _ => by cases e <;> simp [eqD]
  | .int a, e, _ => by cases e <;> simp [eqD]
  | .str a, e, _ => by cases e <;> simp [eqD]
  | .tuple xs, e, h => by
    have h' : okDs xs = true := by simpa [okD] using h
    cases e with
    | tuple ys => simp only [eqD, PyData.tuple.injEq]; exact eqDs_iff xs ys h'
    | _ => simp [eqD]
  | .list _, _, h => by simp [okD] at h
  | .dict _, _, h => by simp [okD] at h
theorem eqDs_iff : ∀ xs ys : List PyData, okDs xs = true → (eqDs xs ys = true ↔ xs = ys)
  | [], [], _ => by simp [eqDs]
  | [], _ :: _, _ => by simp [eqDs]
  | _ :: _, [], _ => by simp [eqDs]
  | x :: xs, y :: ys, h => by
    have h' : okD x = true ∧ okDs xs = true := by simpa [okDs] using h
    simp only [eqDs, Bool.and_eq_true, List.cons.injEq, eqD_iff x y h'.1, eqDs_iff xs ys h'.2]
end
theorem eqDs_at : ∀ (xs ys : List PyData), xs.length = ys.length → (eqDs xs ys = true ↔ ∀ (i : Nat) (x y : PyData), xs[i]? = some x → ys[i]? = some y → eqD x y = true)
  | [], [], _ => by simp [eqDs]
  | [], _ :: _, h => by cases h
  | _ :: _, [], h => by cases h
  | x :: xs, y :: ys, h => by
    have ih := eqDs_at xs ys (Nat.succ.inj h)
    simp only [eqDs, Bool.and_eq_true, ih]
    constructor
    · rintro ⟨h1, h2⟩ i a b ha hb
      cases i with
      | zero => simp at ha hb; subst ha hb; exact h1
      | succ i => exact h2 i a b (by simpa using ha) (by simpa using hb)
    · intro h3
      exact ⟨h3 0 x y rfl rfl, fun i a b ha hb => h3 (i + 1) a b (by simpa using ha) (by simpa using hb)⟩
theorem eqDs_len : ∀ (xs ys : List PyData), xs.length ≠ ys.length → eqDs xs ys = false
  | [], [], h => absurd rfl h
  | [], _ :: _, _ => by simp [eqDs]
  | _ :: _, [], _ => by simp [eqDs]
  | x :: xs, y :: ys, h => by
    have ih := eqDs_len xs ys (fun z => h (congrArg Nat.succ z))
    simp [eqDs, ih]
/-! ## lengths of texts -/
theorem enc_one (d : PyData) : (encD (.tuple [d])).length = (encD d).length + 3 := by
  simp only [encD, encDs, joinL, closeL]
  simp
theorem enc_two (d e : PyData) : (encD (.tuple [d, e])).length = (encD d).length + (encD e).length + 4 := by
  simp only [encD, encDs, joinL, closeL]
  simp
  omega
theorem shown_length {d : PyData} (h : okD d = true) : (PyData.shown d).length = (encD d).length := by
  rw [← shown_codes d h]
  show (PyData.shown d).cps.size = _
  simp
theorem intL_len {i : Int} {k : Nat} (hk : 1 ≤ k) (h : i.natAbs < 10 ^ k) : (intL i).length ≤ k + 1 := by
  cases i with
  | ofNat m =>
    unfold intL
    rw [text_ofNat]
    have z := digits10_le hk (n := m) h
    simp
    omega
  | negSucc m =>
    have e : intL (Int.negSucc m) = 45 :: (Nat.toDigits 10 (m + 1)).map Char.toNat := by
      unfold intL
      rw [ofString_codes]
      show ("-" ++ Nat.repr (m + 1)).toList.map Char.toNat = _
      rw [String.toList_append, List.map_append]
      show [45] ++ (Nat.repr (m + 1)).toList.map Char.toNat = _
      have e2 : (Nat.repr (m + 1)).toList = Nat.toDigits 10 (m + 1) := by
        unfold Nat.repr
        exact String.toList_ofList
      rw [e2]
      rfl
    rw [e]
    have z := digits10_le hk (n := m + 1) h
    simp
    omega
theorem int_ok {i : Int} {k : Nat} (h : i.natAbs < 2 ^ k) (hk : k ≤ 1920) (h0 : 0 < k) : okD (.int i) = true := by
  simp only [okD]
  refine decide_eq_true ?_
  by_cases z : i.natAbs = 0
  · rw [z]
    decide
  · exact Nat.lt_of_lt_of_le ((Nat.log2_lt z).mpr h) hk
theorem atI_some {α : Type} {xs : List α} {i : Int} (h0 : 0 ≤ i) (h1 : i < xs.length) : ∃ v, atI xs i = some v ∧ v ∈ xs := by
  have e : i = ((i.toNat : Nat) : Int) := by omega
  have hl : i.toNat < xs.length := by omega
  have z : atI xs ((i.toNat : Nat) : Int) = some xs[i.toNat] := atI_nat (List.getElem?_eq_getElem hl)
  rw [← e] at z
  exact ⟨_, z, List.getElem_mem hl⟩
theorem take_next {α : Type} {l : List α} {i : Nat} {x : α} (h : l[i]? = some x) : l.take (i + 1) = l.take i ++ [x] := by
  rw [List.take_add_one, h]
  rfl
theorem same_new {H : Hp} {p : Addr} {o : HO} (h : H p = none) : Same H (upd H p o) := fun b u e => by
  rw [upd_ne (ne_of_none e h)]
  exact e
theorem ifT {c : Bool} {A B : Prop} (h : c = true) (x : A) : if c = true then A else B := by
  rw [if_pos h]
  exact x
theorem ifF {c : Bool} {A B : Prop} (h : c = false) (x : B) : if c = true then A else B := by
  rw [h, if_neg Bool.false_ne_true]
  exact x
theorem bo_len : bootBuiltins "len" = some (.builtin "len") := by decide +kernel
theorem bo_int : bootBuiltins "int" = some (.type "int") := by decide +kernel
theorem bo_tuple : bootBuiltins "tuple" = some (.type "tuple") := by decide +kernel
theorem bo_list : bootBuiltins "list" = some (.type "list") := by decide +kernel
theorem bo_str : bootBuiltins "str" = some (.type "str") := by decide +kernel
theorem bo_type : bootBuiltins "type" = some (.type "type") := by decide +kernel
theorem bo_isinstance : bootBuiltins "isinstance" = some (.builtin "isinstance") := by decide +kernel
theorem bo_repr : bootBuiltins "repr" = some (.builtin "repr") := by decide +kernel
theorem bo_max : bootBuiltins "max" = some (.builtin "max") := by decide +kernel
theorem bo_min : bootBuiltins "min" = some (.builtin "min") := by decide +kernel
/-- a def that is called: what it promises, where it stands -/
structure Cal (P : Program) (w : World) (K : PySem.W.Frag) (mg : Str → Option Value) (base : Heap) (x : Str) (k : Nat) (f : Addr) (fd : FuncData) (ps : List Str) (sp : Sp) : Prop where
  G : FnOk P w K mg base CX0 k f fd ps sp
  mg : mg x = some (.ref f)
  kp : PySem.W.keepIn K (.ref f) = true
  B : Binds K fd ps []
structure CalG (P : Program) (w : World) (K : PySem.W.Frag) (mg : Str → Option Value) (base : Heap) (x : Str) (k : Nat) (f : Addr) (fd : FuncData) (ps : List Str) (sp : Sp) : Prop where
  G : Gk P w K mg base k f fd ps sp
  mg : mg x = some (.ref f)
  kp : PySem.W.keepIn K (.ref f) = true
  B : Binds K fd ps []
/-- a method that is called -/
structure CalM (P : Program) (w : World) (K : PySem.W.Frag) (mg : Str → Option Value) (base : Heap) (C : Addr) (x : Str) (k : Nat) (f : Addr) (fd : FuncData) (ps : List Str) (sp : Sp) : Prop where
  G : Gk P w K mg base k f fd ps sp
  cl : Cls K C
  mt : Meth K C x f
  B : Binds K fd ps []
end Vk
namespace Vk
open PySem PySem.Spec PyProof.Rows L2
open C8 (pss_cut tCut)
/-! # Kinds of values, by type() -/
section
variable {X : Cx}
@[irreducible] def rTypX (K : PySem.W.Frag) : List V → Hp → VK → Prop := fun xs H Q => (∃ x n, xs = [x] ∧ zTyV x H = some n ∧ Q (.ty n) H) ∨
  (∃ a kvs, xs = [.ref a] ∧ H a = some (.dK kvs) ∧ Q (.ty "dict") H) ∨ (∃ a C dx fs, xs = [V.ref a] ∧ H a = some (.ins C dx fs) ∧ Q (.ref C) H) ∨ ∃ a ys, xs = [V.ref a] ∧ SqT K H a ys ∧ Q (.ty "tuple") H
theorem call_typX : CallR X (.type "type") (rTypX X.K) := by
  intro pins s σ H xs us Q I r h
  unfold rTypX at h
  rcases h with ⟨x, n, rfl, e, q⟩ | ⟨a, kvs, rfl, e, q⟩ | h | ⟨a, ys, rfl, e, q⟩
  · obtain ⟨u, rfl, rx⟩ := vals1 r
    exact rl_type pins s σ H x u Q I rx ⟨n, e, q⟩
  · obtain ⟨u, rfl, rx⟩ := vals1 r
    cases rx
    obtain ⟨_, _, vs, _, o, es, ep, h1, h2, _⟩ := (show ObjOk X.prog X.w H s.heap a (.dK kvs) from I.hok a _ e)
    exact call_type_of (Tx := "dict") ⟨o, h1, h2.1⟩ (by decide +kernel) ⟨.ty "dict", H, I, rfl, q⟩
  · exact cr_type pins s σ H xs us Q I r h
  · obtain ⟨u, rfl, rx⟩ := vals1 r
    cases rx
    obtain ⟨its, rv, p, _⟩ := I.tuple e
    exact call_type_of (Tx := "tuple") p.typeIs (by decide +kernel) ⟨.ty "tuple", H, I, rfl, q⟩
theorem typ_go {K : PySem.W.Frag} {H : Hp} {Q : VK} {x : V} {n : String} (e : zTyV x H = some n) (q : Q (.ty n) H) : rTypX K [x] H Q := by
  unfold rTypX
  exact .inl ⟨x, n, rfl, e, q⟩
theorem typ_goD {K : PySem.W.Frag} {H : Hp} {Q : VK} {a : Addr} {kvs : List (L2.Key × V)} (e : H a = some (.dK kvs)) (q : Q (.ty "dict") H) : rTypX K [.ref a] H Q := by
  unfold rTypX
  exact .inr (.inl ⟨a, kvs, rfl, e, q⟩)
theorem typ_goI {K : PySem.W.Frag} {H : Hp} {Q : VK} {a C dx : Addr} {fs : List (Str × V)} (e : H a = some (.ins C dx fs)) (q : Q (.ref C) H) : rTypX K [.ref a] H Q := by
  unfold rTypX
  exact .inr (.inr (.inl ⟨a, C, dx, fs, rfl, e, q⟩))
theorem typ_goT {K : PySem.W.Frag} {H : Hp} {Q : VK} {a : Addr} {ys : List V} (e : SqT K H a ys) (q : Q (.ty "tuple") H) : rTypX K [.ref a] H Q := by
  unfold rTypX
  exact .inr (.inr (.inr ⟨a, ys, rfl, e, q⟩))
/-- is, between classes: two built-in ones, or an own one and a built-in one -/
def rIsTyX : R2 := fun x y H Q => (∃ m n, x = .ty m ∧ y = .ty n ∧ Q (.bl (decide (m = n))) H) ∨ ∃ C n, x = .ref C ∧ y = .ty n ∧ Q (.bl false) H
theorem op_isTyX : OpR X (compareOp .Is) rIsTyX := by
  intro pins s σ H x y v u Q I rx ry h
  rcases h with h | ⟨C, n, rfl, rfl, q⟩
  · exact op_isTy pins s σ H x y v u Q I rx ry h
  · cases rx
    cases ry
    exact wpAny_is_other rfl (fun z => nomatch z) ⟨.bl false, H, I, rfl, q⟩
end
end Vk
namespace Vk
open PySem PySem.Spec PyProof.Rows L2
/-! # match over plain values: tuples by their length and words, names for the parts -/
abbrev Caught := List (Str × Value)
/-- what a pattern reads of a value: nothing fits, or the parts that get names -/
abbrev TPt := V → Hp → (Option (List V) → Hp → Prop) → Prop
abbrev TPs := List V → Hp → (Option (List V) → Hp → Prop) → Prop
def Fits (X : Cx) (pins : List (Addr × Obj)) (σ : L2.St) (ns : List Str) (Q : Option (List V) → Hp → Prop) (r : Option Caught) (s : Shared) : Prop :=
  ∃ H, Inv X pins σ H s ∧ ((r = none ∧ Q none H) ∨ ∃ bs vs, r = some bs ∧ bs.map (·.1) = ns ∧ Vals vs (bs.map (·.2)) ∧ Q (some vs) H)
structure PPt (X : Cx) (p : Pattern) (ns : List Str) (t : TPt) : Prop where
  run : ∀ (pins : List (Addr × Obj)) (s : Shared) (σ : L2.St) (H : Hp) (v : V) (u : Value) (Q : Option (List V) → Hp → Prop), Inv X pins σ H s → RelV v u → t v H Q →
    wpAny (model X.prog X.w) X.A (matchPattern p X.env u) (Fits X pins σ ns Q) X.xe s
structure PPs (X : Cx) (ps : List Pattern) (ns : List Str) (t : TPs) : Prop where
  run : ∀ (pins : List (Addr × Obj)) (s : Shared) (σ : L2.St) (H : Hp) (vs : List V) (us : List Value) (Q : Option (List V) → Hp → Prop), Inv X pins σ H s → Vals vs us → t vs H Q →
    wpAny (model X.prog X.w) X.A (matchEach ps X.env us) (Fits X pins σ ns Q) X.xe s
structure PB (X : Cx) (ns : List Str) (t : TGs) : Prop where
  run : ∀ (pins : List (Addr × Obj)) (s : Shared) (σ : L2.St) (H : Hp) (vs : List V) (us : List Value) (Q : L2.St → Hp → Prop), Inv X pins σ H s → Vals vs us → t vs σ H Q →
    wpAny (model X.prog X.w) X.A (assignInOrder (ns.map fun n => bindName X.env n) us) (fun _ s' => ∃ σ' H', Inv X pins σ' H' s' ∧ Q σ' H') X.xe s
structure PCs (X : Cx) (cs : List MatchCase) (t : V → TS) : Prop where
  run : ∀ (pins : List (Addr × Obj)) (s : Shared) (σ : L2.St) (H : Hp) (v : V) (u : Value) (first : Bool) (D : Ends), Inv X pins σ H s → RelV v u → t v D σ H →
    wpAny (model X.prog X.w) X.A (matchCases cs X.env u first) (SP X pins D) X.xe s
section
variable {X : Cx}
/-! ## patterns -/
def tPName : TPt := fun v H Q => Q (some [v]) H
def tPAny : TPt := fun _ H Q => Q (some []) H
def tPLit (r : R2) (y : V) : TPt := fun v H Q => r v y H fun b H1 => ∃ c, b = .bl c ∧ Q (if c = true then some [] else none) H1
theorem ppt_name {n : Str} {pos : Pos} : PPt X (.MatchAs none (some n) pos) [n] tPName := by
  refine ⟨fun pins s σ H v u Q I r h => ?_⟩
  exact wpAny_matchPattern_Capture ⟨H, I, .inr ⟨[(n, u)], [v], rfl, rfl, .cons r .nil, h⟩⟩
theorem ppt_any {pos : Pos} : PPt X (.MatchAs none none pos) [] tPAny := by
  refine ⟨fun pins s σ H v u Q I r h => ?_⟩
  exact wpAny_matchPattern_Capture ⟨H, I, .inr ⟨[], [], rfl, rfl, .nil, h⟩⟩
theorem ppt_lit {e : Expr} {y : V} {r : R2} {pos : Pos} (he : PE X e (tC y)) (op : OpR X (compareOp .Eq) r) : PPt X (.MatchValue e pos) [] (tPLit r y) := by
  refine ⟨fun pins s σ H v u Q I rv h => ?_⟩
  refine wpAny_matchPattern_Value (thn (he.run pins s σ H (fun y' H' => y' = y ∧ H' = H) I ⟨rfl, rfl⟩) fun w s1 h1 => ?_)
  obtain ⟨y', H1, I1, r1, rfl, rfl⟩ := h1
  refine thn (op pins s1 σ H1 v y' u w _ I1 rv r1 h) fun b s2 h2 => ?_
  obtain ⟨b', H2, I2, r2, c, rfl, q⟩ := h2
  cases (show b = Value.bool c from r2)
  refine wpAny_truthy_bool ?_
  cases c with
  | true => exact ⟨H2, I2, .inr ⟨[], [], rfl, rfl, .nil, q⟩⟩
  | false => exact ⟨H2, I2, .inl ⟨rfl, q⟩⟩
def tPNil : TPs := fun vs H Q => vs = [] ∧ Q (some []) H
def tPCons (t : TPt) (u : TPs) : TPs := fun vs H Q => ∃ v r, vs = v :: r ∧ t v H fun o H1 => match o with
  | none => Q none H1
  | some ws => u r H1 fun o2 H2 => match o2 with
    | none => Q none H2
    | some zs => Q (some (ws ++ zs)) H2
theorem vals_app {xs ys : List V} {us ws : List Value} (h : Vals xs us) (k : Vals ys ws) : Vals (xs ++ ys) (us ++ ws) := by
  induction h with
  | nil => exact k
  | cons a _ ih => exact .cons a ih
theorem pps_nil : PPs X [] [] tPNil := by
  refine ⟨fun pins s σ H vs us Q I r h => ?_⟩
  obtain ⟨rfl, q⟩ := h
  cases r
  exact wpAny_matchEach_nil ⟨H, I, .inr ⟨[], [], rfl, rfl, .nil, q⟩⟩
theorem pps_cons {p : Pattern} {ps : List Pattern} {ns ms : List Str} {t : TPt} {u : TPs} (h1 : PPt X p ns t) (h2 : PPs X ps ms u) (hp : p.isStar = false := by rfl) : PPs X (p :: ps) (ns ++ ms) (tPCons t u) := by
  refine ⟨fun pins s σ H vs us Q I r h => ?_⟩
  obtain ⟨v, rest, rfl, h⟩ := h
  cases r with
  | cons rv rr =>
    refine wpAny_matchEach_cons (thn (h1.run pins s σ H v _ _ I rv h) fun o s1 ho => ?_) hp
    obtain ⟨H1, I1, ho⟩ := ho
    rcases ho with ⟨rfl, q⟩ | ⟨bs, ws, rfl, e, rw_, q⟩
    · exact ⟨H1, I1, .inl ⟨rfl, q⟩⟩
    · refine thn (h2.run pins s1 σ H1 rest _ _ I1 rr q) fun o2 s2 ho2 => ?_
      obtain ⟨H2, I2, ho2⟩ := ho2
      rcases ho2 with ⟨rfl, q2⟩ | ⟨cs, zs, rfl, e2, rz, q2⟩
      · exact ⟨H2, I2, .inl ⟨rfl, q2⟩⟩
      · exact ⟨H2, I2, .inr ⟨bs ++ cs, ws ++ zs, rfl, by rw [List.map_append, e, e2], by rw [List.map_append]; exact vals_app rw_ rz, q2⟩⟩
/-! ## names -/
theorem pb_nil : PB X [] gNil := by
  refine ⟨fun pins s σ H vs us Q I r h => ?_⟩
  obtain ⟨rfl, q⟩ := h
  cases r
  exact wpAny_assignInOrder_none ⟨σ, H, I, q⟩
theorem pb_cons {i : Nat} {n : Str} {ns : List Str} {t : TGs} (hN : X.N.Nodup) (hi : X.N[i]? = some n) (hx : Loc X.env.scope n) (hf : X.fn n = true ∨ X.env.scope.names.lookup n = some .local := by first | exact .inl rfl | exact .inr rfl | assumption) (h : PB X ns t) :
    PB X (n :: ns) (gCons (gName i) t) := by
  refine ⟨fun pins s σ H vs us Q I r hw => ?_⟩
  obtain ⟨v, rest, rfl, hw⟩ := hw
  cases r with
  | cons rv rr =>
    exact wpAny_assignInOrder_more (wpAny_bindName (store_ok I hN hi hx rv (fun s' I' => h.run pins s' _ H rest _ Q I' rr hw) hf))
/-! ## cases -/
theorem pcs_nil : PCs X [] (fun _ D σ H => D.nx σ H) := by
  refine ⟨fun pins s σ H v u first D I r h => ?_⟩
  exact wpAny_matchCases_nil ⟨σ, H, I, h⟩
/-- case _: -/
theorem pcs_any {body : List Stmt} {rest : List MatchCase} {tb : TS} {pos : Pos} (hb : PSs X body tb) : PCs X (⟨.MatchAs none none pos, none, body⟩ :: rest) (fun _ => tb) := by
  refine ⟨fun pins s σ H v u first D I r h => ?_⟩
  refine wpAny_matchCases_cons (wpAny_matchPattern_Capture ?_)
  exact wpAny_assignInOrder_none (hb.run pins s σ H D I h)
/-- a value that is no tuple, no list -/
def NoSeq : V → Prop
  | .non => True
  | .bl _ => True
  | .int _ => True
  | .str _ => True
  | _ => False
/-- case (p, ..): over a tuple or what is none -/
def tCase (K : PySem.W.Frag) (n : Nat) (tp : TPs) (tg : TGs) (tb : TS) (tr : V → TS) : V → TS := fun v D σ H =>
  (NoSeq v ∧ tr v D σ H) ∨ ∃ a vs, v = .ref a ∧ SqT K H a vs ∧ (¬ vs.length = n → tr v D σ H) ∧
    (vs.length = n → tp vs H fun o H1 => match o with
      | none => tr v D σ H1
      | some ws => tg ws σ H1 fun σ2 H2 => tb D σ2 H2)
theorem pcs_seq {ps : List Pattern} {ns : List Str} {body : List Stmt} {rest : List MatchCase} {tp : TPs} {tg : TGs} {tb : TS} {tr : V → TS} {pos : Pos} {n : Nat} (hc : X.calm = true) (hp : PPs X ps ns tp) (hg : PB X ns tg) (hb : PSs X body tb) (hr : PCs X rest tr)
    (hn : ps.length = n := by rfl) (hstar : ps.findIdx? (·.isStar) = none := by rfl) (hwild : (ps.all fun p => p.isWildcard || (p.isStar && p.names.isEmpty)) = false := by rfl) :
    PCs X (⟨.MatchSequence ps pos, none, body⟩ :: rest) (tCase X.K n tp tg tb tr) := by
  refine ⟨fun pins s σ H v u first D I r h => ?_⟩
  refine wpAny_matchCases_cons ?_
  rcases h with ⟨hv, q⟩ | ⟨a, vs, rfl, hq, miss, hit⟩
  · have flag : ∀ {T : String}, s.TypeIs u T → flagOfType true (.type T) = pure false → wpAny (model X.prog X.w) X.A (matchPattern (.MatchSequence ps pos) X.env u) (fun r s₁ => r = none ∧ s₁ = s) X.xe s := fun ht hf => by
      refine wpAny_matchPattern_Sequence (wpAny_collectionFlag ht hf ?_) hstar hwild
      exact ⟨rfl, rfl⟩
    have go : wpAny (model X.prog X.w) X.A (matchPattern (.MatchSequence ps pos) X.env u) (fun r s₁ => r = none ∧ s₁ = s) X.xe s := by
      cases v with
      | non => cases (show u = Value.none from r); exact flag (T := "NoneType") rfl flag_seq_None
      | bl b => cases (show u = Value.bool b from r); exact flag (T := "bool") rfl flag_seq_bool
      | int i => obtain ⟨t, rfl⟩ := (show ∃ t, u = Value.int i t from r); exact flag (T := "int") rfl flag_seq_int
      | str x => obtain ⟨t, rfl⟩ := (show ∃ t, u = Value.str x t from r); exact flag (T := "str") rfl flag_seq_str
      | byt b => exact hv.elim
      | flt b => exact hv.elim
      | ty b => exact hv.elim
      | ref b => exact hv.elim
    refine thn go fun o s1 ho => ?_
    obtain ⟨rfl, rfl⟩ := ho
    exact hr.run pins s1 σ H v u false D I r q
  · cases r
    obtain ⟨its, rv, ht, hz⟩ := I.tuple hq
    have le : (its.toArray.size : Int) < 2 ^ 63 := by
      have e0 : (sizeLine : Nat) = 16777216 := by decide +kernel
      have := rv.length
      simp only [List.size_toArray]
      omega
    have ln : its.toArray.size = vs.length := by
      rw [List.size_toArray]
      exact rv.length.symm
    by_cases c : vs.length = n
    · refine matchSeq_tuple_hit ht le (by rw [ln, c, hn]) ?_ hstar hwild
      have I0 : Inv X pins σ H { s with toks := s.toks + 1 + 1 } := I.tok _
      have e1 : ps.length = its.toArray.size := by rw [ln, c, hn]
      rw [e1]
      refine unpackItems_tuple (I.ok.hd hc) ht fun h' hx => ?_
      have I1 : Inv X pins σ H { s with toks := s.toks + 1 + 1, heap := h' } := I0.kept (t' := s.toks + 1 + 1) fun b o e => hx b o (Nat.ne_of_lt (Heap.lt_size e)) e
      refine thn (hp.run pins _ σ H vs its _ I1 rv (hit c)) fun o s1 ho => ?_
      obtain ⟨H1, I2, ho⟩ := ho
      rcases ho with ⟨rfl, q⟩ | ⟨bs, ws, rfl, e, rw_, q⟩
      · exact hr.run pins s1 σ H1 (.ref a) _ false D I2 rfl q
      · have em : (bs.map fun (n, _) => bindName X.env n) = ns.map fun n => bindName X.env n := by
          rw [← e, List.map_map]
          rfl
        show wpAny _ _ (assignInOrder (bs.map fun (n, _) => bindName X.env n) (bs.map (·.2))) _ _ _
        rw [em]
        refine thn (hg.run pins s1 σ H1 ws _ _ I2 rw_ q) fun _ s2 h2 => ?_
        obtain ⟨σ2, H2, I3, q2⟩ := h2
        exact hb.run pins s2 σ2 H2 D I3 q2
    · refine matchSeq_tuple_miss ht le (by rw [ln, hn]; exact c) ?_ hstar hwild
      exact hr.run pins _ σ H (.ref a) _ false D (I.tok _) rfl (miss c)
/-- match e: cases -/
def tMatch (te : TE) (tc : V → TS) : TS := fun D σ H => te σ H fun v H1 => tc v D σ H1
theorem ps_match {e : Expr} {cs : List MatchCase} {te : TE} {tc : V → TS} {pos : Pos} (he : PE X e te) (hc : PCs X cs tc) : PS X (.Match e cs pos) (tMatch te tc) := by
  refine ⟨fun pins s σ H D I h => ?_⟩
  refine wpAny_Match (thn (he.run pins s σ H _ I h) fun u s1 h1 => ?_)
  obtain ⟨v, H1, I1, r1, q⟩ := h1
  exact hc.run pins s1 σ H1 v u true D I1 r1 q
end
end Vk
set_option linter.unusedVariables false
namespace Vk
open PySem PySem.Spec PyProof.Rows L2
/-! # The data layer: values as data, objects by a state; what a piece of code asks is a function of both -/
inductive Dv where
  | non
  | bl (b : Bool)
  | int (i : Int)
  | str (x : Str)
  | tup (ds : List Dv)
  | lst (ds : List Dv)
  | scr (ns : List Int)
  | ref (a : Addr)
  | ty (n : String)
mutual
inductive RD (K : PySem.W.Frag) (G : Hp) : V → Dv → Prop
  | non : RD K G .non .non
  | bl (b : Bool) : RD K G (.bl b) (.bl b)
  | int (i : Int) : RD K G (.int i) (.int i)
  | str (x : Str) : RD K G (.str x) (.str x)
  | tup {a : Addr} {vs : List V} {ds : List Dv} : SqT K G a vs → RDs K G vs ds → RD K G (.ref a) (.tup ds)
  | lst {a : Addr} {vs : List V} {ds : List Dv} : G a = some (.lst vs) → RDs K G vs ds → RD K G (.ref a) (.lst ds)
  | scr {a : Addr} {ns : List Int} : SqL K G a (ns.map V.int) → RD K G (.ref a) (.scr ns)
  | ref (a : Addr) : RD K G (.ref a) (.ref a)
  | ty (n : String) : RD K G (.ty n) (.ty n)
inductive RDs (K : PySem.W.Frag) (G : Hp) : List V → List Dv → Prop
  | nil : RDs K G [] []
  | cons {v : V} {d : Dv} {vs : List V} {ds : List Dv} : RD K G v d → RDs K G vs ds → RDs K G (v :: vs) (d :: ds)
end
theorem sqL_same {K : PySem.W.Frag} {G G' : Hp} {a : Addr} {xs : List V} (s : Same G G') (h : SqL K G a xs) : SqL K G' a xs := by
  rcases h with (h | ⟨o, h⟩) | h
  · exact .inl (.inl (s _ _ h))
  · exact .inl (.inr ⟨o, s _ _ h⟩)
  · exact .inr h
theorem sqT_same {K : PySem.W.Frag} {G G' : Hp} {a : Addr} {xs : List V} (s : Same G G') (h : SqT K G a xs) : SqT K G' a xs := (keepT_of s).seq h
mutual
theorem RD.same {K : PySem.W.Frag} {G G' : Hp} (s : Same G G') : ∀ (d : Dv) (v : V), RD K G v d → RD K G' v d
  | .non, _, h => by cases h; exact .non
  | .bl b, _, h => by cases h; exact .bl b
  | .int i, _, h => by cases h; exact .int i
  | .str x, _, h => by cases h; exact .str x
  | .tup ds, _, h => by
    cases h with
    | tup a b => exact .tup (sqT_same s a) (RDs.same s ds _ b)
  | .lst ds, _, h => by
    cases h with
    | lst a b => exact .lst (s _ _ a) (RDs.same s ds _ b)
  | .scr ns, _, h => by
    cases h with
    | scr a => exact .scr (sqL_same s a)
  | .ref a, _, h => by cases h; exact .ref a
  | .ty n, _, h => by cases h; exact .ty n
theorem RDs.same {K : PySem.W.Frag} {G G' : Hp} (s : Same G G') : ∀ (ds : List Dv) (vs : List V), RDs K G vs ds → RDs K G' vs ds
  | [], _, h => by cases h; exact .nil
  | d :: ds, _, h => by
    cases h with
    | cons a b => exact .cons (RD.same s d _ a) (RDs.same s ds _ b)
end
theorem RDs.len {K : PySem.W.Frag} {G : Hp} : ∀ {vs : List V} {ds : List Dv}, RDs K G vs ds → vs.length = ds.length
  | _, _, .nil => rfl
  | _, _, .cons _ b => congrArg Nat.succ (RDs.len b)
theorem RDs.app {K : PySem.W.Frag} {G : Hp} : ∀ {vs ws : List V} {ds es : List Dv}, RDs K G vs ds → RDs K G ws es → RDs K G (vs ++ ws) (ds ++ es)
  | _, _, _, _, .nil, h => h
  | _, _, _, _, .cons a b, h => .cons a (RDs.app b h)
theorem RDs.take {K : PySem.W.Frag} {G : Hp} : ∀ {vs : List V} {ds : List Dv} (n : Nat), RDs K G vs ds → RDs K G (vs.take n) (ds.take n)
  | _, _, 0, _ => .nil
  | _, _, _ + 1, .nil => .nil
  | _, _, n + 1, .cons a b => .cons a (RDs.take n b)
theorem RDs.drop {K : PySem.W.Frag} {G : Hp} : ∀ {vs : List V} {ds : List Dv} (n : Nat), RDs K G vs ds → RDs K G (vs.drop n) (ds.drop n)
  | _, _, 0, h => h
  | _, _, _ + 1, .nil => .nil
  | _, _, n + 1, .cons _ b => RDs.drop n b
theorem RDs.at {K : PySem.W.Frag} {G : Hp} : ∀ {vs : List V} {ds : List Dv} {i : Nat} {d : Dv}, RDs K G vs ds → ds[i]? = some d → ∃ v, vs[i]? = some v ∧ RD K G v d
  | _, _, _, _, .nil, h => by simp at h
  | _, _, 0, _, .cons a _, h => by simp at h; subst h; exact ⟨_, rfl, a⟩
  | _, _, i + 1, _, .cons _ b, h => by
    obtain ⟨v, e, q⟩ := RDs.at (i := i) b (by simpa using h)
    exact ⟨v, by simpa using e, q⟩
theorem RDs.at' {K : PySem.W.Frag} {G : Hp} : ∀ {vs : List V} {ds : List Dv} {i : Nat} {v : V}, RDs K G vs ds → vs[i]? = some v → ∃ d, ds[i]? = some d ∧ RD K G v d
  | _, _, _, _, .nil, h => by simp at h
  | _, _, 0, _, .cons a _, h => by simp at h; subst h; exact ⟨_, rfl, a⟩
  | _, _, i + 1, _, .cons _ b, h => by
    obtain ⟨d, e, q⟩ := RDs.at' (i := i) b (by simpa using h)
    exact ⟨d, by simpa using e, q⟩
theorem RDs.rep {K : PySem.W.Frag} {G : Hp} {vs : List V} {ds : List Dv} (h : RDs K G vs ds) : ∀ n : Nat, RDs K G (List.replicate n vs).flatten (List.replicate n ds).flatten
  | 0 => .nil
  | n + 1 => by
    rw [List.replicate_succ, List.replicate_succ, List.flatten_cons, List.flatten_cons]
    exact RDs.app h (RDs.rep h n)
/-! ## objects that code changes -/
inductive MO where
  | lst (ds : List Dv)
  | dK (kds : List (L2.Key × Dv))
  | ins (C dx : Addr) (fs : List (Str × Dv))
  | own (x : Addr)
abbrev MH := Addr → Option MO
def mup (M : MH) (a : Addr) (o : MO) : MH := fun b => if b = a then some o else M b
def mdel (M : MH) (a : Addr) : MH := fun b => if b = a then none else M b
@[simp] theorem mup_same {M : MH} {a : Addr} {o : MO} : mup M a o a = some o := by unfold mup; rw [if_pos rfl]
theorem mup_ne {M : MH} {a b : Addr} {o : MO} (h : b ≠ a) : mup M a o b = M b := by unfold mup; rw [if_neg h]
@[simp] theorem mup_mup {M : MH} {a : Addr} {o u : MO} : mup (mup M a o) a u = mup M a u := by
  funext b; unfold mup; split <;> rfl
def hid (S : Addr → Bool) (M : MH) (H : Hp) : Hp := fun a => if S a || (M a).isSome then none else H a
inductive RKV {κ : Type} (K : PySem.W.Frag) (G : Hp) : List (κ × V) → List (κ × Dv) → Prop
  | nil : RKV K G [] []
  | cons {k : κ} {v : V} {d : Dv} {kvs : List (κ × V)} {kds : List (κ × Dv)} : RD K G v d → RKV K G kvs kds → RKV K G ((k, v) :: kvs) ((k, d) :: kds)
theorem RKV.same {κ : Type} {K : PySem.W.Frag} {G G' : Hp} (s : Same G G') : ∀ {kvs : List (κ × V)} {kds : List (κ × Dv)}, RKV K G kvs kds → RKV K G' kvs kds
  | _, _, .nil => .nil
  | _, _, .cons a b => .cons (RD.same s _ _ a) (RKV.same s b)
inductive MR (K : PySem.W.Frag) (G : Hp) : MO → HO → Prop
  | lst {ds : List Dv} {vs : List V} : RDs K G vs ds → MR K G (.lst ds) (.lst vs)
  | dK {kds : List (L2.Key × Dv)} {kvs : List (L2.Key × V)} : RKV K G kvs kds → MR K G (.dK kds) (.dK kvs)
  | ins {C dx : Addr} {fs : List (Str × V)} {gs : List (Str × Dv)} : RKV K G fs gs → MR K G (.ins C dx gs) (.ins C dx fs)
  | own (x : Addr) : MR K G (.own x) (.own x)
theorem MR.same {K : PySem.W.Frag} {G G' : Hp} (s : Same G G') {o : MO} {u : HO} (h : MR K G o u) : MR K G' o u := by
  cases h with
  | lst a => exact .lst (RDs.same s _ _ a)
  | dK a => exact .dK (RKV.same s a)
  | ins a => exact .ins (RKV.same s a)
  | own x => exact .own x
structure HR (K : PySem.W.Frag) (S : Addr → Bool) (M : MH) (H : Hp) : Prop where
  obj : ∀ a o, M a = some o → ∃ u, H a = some u ∧ MR K (hid S M H) o u
  apart : ∀ a, S a = true → M a = none ∧ H a ≠ none
structure Gr (S : Addr → Bool) (M : MH) (H : Hp) (M' : MH) (H' : Hp) : Prop where
  same : Same (hid S M H) (hid S M' H')
  hold : ∀ a, S a = true → H' a = H a
theorem Gr.refl {S : Addr → Bool} {M : MH} {H : Hp} : Gr S M H M H := ⟨Same.refl _, fun _ _ => rfl⟩
theorem Gr.trans {S : Addr → Bool} {M M1 M2 : MH} {H H1 H2 : Hp} (a : Gr S M H M1 H1) (b : Gr S M1 H1 M2 H2) : Gr S M H M2 H2 :=
  ⟨a.same.trans b.same, fun c h => (b.hold c h).trans (a.hold c h)⟩
theorem hid_some {S : Addr → Bool} {M : MH} {H : Hp} {a : Addr} {u : HO} (h : hid S M H a = some u) : H a = some u ∧ S a = false ∧ M a = none := by
  unfold hid at h
  split at h
  · cases h
  · rename_i n
    simp only [Bool.or_eq_true, not_or, Bool.not_eq_true] at n
    refine ⟨h, n.1, ?_⟩
    cases e : M a with
    | none => rfl
    | some o => rw [e] at n; exact absurd n.2 (by simp)
theorem hid_of {S : Addr → Bool} {M : MH} {H : Hp} {a : Addr} (h1 : S a = false) (h2 : M a = none) : hid S M H a = H a := by
  unfold hid
  rw [h1, h2]
  rfl
theorem HR.fresh {K : PySem.W.Frag} {S : Addr → Bool} {M : MH} {H : Hp} (h : HR K S M H) {p : Addr} (hp : H p = none) : S p = false ∧ M p = none := by
  constructor
  · cases e : S p with
    | false => rfl
    | true => exact absurd hp (h.apart p e).2
  · cases e : M p with
    | none => rfl
    | some o =>
      obtain ⟨u, z, _⟩ := h.obj p o e
      rw [hp] at z
      cases z
/-- a new thing that does not change -/
theorem HR.new {K : PySem.W.Frag} {S : Addr → Bool} {M : MH} {H : Hp} (h : HR K S M H) {p : Addr} (hp : H p = none) (o : HO) : Gr S M H M (upd H p o) ∧ HR K S M (upd H p o) ∧ hid S M (upd H p o) p = some o := by
  obtain ⟨e1, e2⟩ := h.fresh hp
  have g : Gr S M H M (upd H p o) := by
    refine ⟨fun b u z => ?_, fun a ha => ?_⟩
    · obtain ⟨z1, z2, z3⟩ := hid_some z
      rw [hid_of z2 z3, upd_ne (ne_of_none z1 hp)]
      exact z1
    · exact upd_ne (fun z => by subst z; rw [e1] at ha; cases ha)
  refine ⟨g, ⟨fun a m z => ?_, fun a ha => ?_⟩, by rw [hid_of e1 e2, upd_same]⟩
  · obtain ⟨u, z1, z2⟩ := h.obj a m z
    exact ⟨u, by rw [upd_ne (ne_of_none z1 hp)]; exact z1, z2.same g.same⟩
  · obtain ⟨z1, z2⟩ := h.apart a ha
    exact ⟨z1, by rw [g.hold a ha]; exact z2⟩
/-- a new object that is tracked from now on -/
theorem HR.newM {K : PySem.W.Frag} {S : Addr → Bool} {M : MH} {H : Hp} (h : HR K S M H) {p : Addr} (hp : H p = none) {m : MO} {o : HO} (r : MR K (hid S M H) m o) : Gr S M H (mup M p m) (upd H p o) ∧ HR K S (mup M p m) (upd H p o) := by
  obtain ⟨e1, e2⟩ := h.fresh hp
  have g : Gr S M H (mup M p m) (upd H p o) := by
    refine ⟨fun b u z => ?_, fun a ha => ?_⟩
    · obtain ⟨z1, z2, z3⟩ := hid_some z
      have n := ne_of_none z1 hp
      rw [hid_of z2 (by rw [mup_ne n]; exact z3), upd_ne n]
      exact z1
    · exact upd_ne (fun z => by subst z; rw [e1] at ha; cases ha)
  refine ⟨g, ⟨fun a q z => ?_, fun a ha => ?_⟩⟩
  · by_cases c : a = p
    · subst c
      rw [mup_same] at z
      cases z
      exact ⟨o, upd_same, r.same g.same⟩
    · rw [mup_ne c] at z
      obtain ⟨u, z1, z2⟩ := h.obj a q z
      exact ⟨u, by rw [upd_ne c]; exact z1, z2.same g.same⟩
  · obtain ⟨z1, z2⟩ := h.apart a ha
    have n : a ≠ p := fun z => by subst z; rw [e1] at ha; cases ha
    exact ⟨by rw [mup_ne n]; exact z1, by rw [g.hold a ha]; exact z2⟩
/-- a tracked object is changed -/
theorem HR.put {K : PySem.W.Frag} {S : Addr → Bool} {M : MH} {H : Hp} (h : HR K S M H) {p : Addr} {m0 m : MO} {o : HO} (hp : M p = some m0) (r : MR K (hid S M H) m o) : Gr S M H (mup M p m) (upd H p o) ∧ HR K S (mup M p m) (upd H p o) := by
  have e1 : S p = false := by
    cases e : S p with
    | false => rfl
    | true => have := (h.apart p e).1; rw [hp] at this; cases this
  have same : hid S (mup M p m) (upd H p o) = hid S M H := by
    funext b
    by_cases c : b = p
    · subst c
      unfold hid
      rw [mup_same, hp]
      simp
    · unfold hid
      rw [mup_ne c, upd_ne c]
  have g : Gr S M H (mup M p m) (upd H p o) := by
    refine ⟨by rw [same]; exact Same.refl _, fun a ha => ?_⟩
    exact upd_ne (fun z => by subst z; rw [e1] at ha; cases ha)
  refine ⟨g, ⟨fun a q z => ?_, fun a ha => ?_⟩⟩
  · rw [same]
    by_cases c : a = p
    · subst c
      rw [mup_same] at z
      cases z
      exact ⟨o, upd_same, r⟩
    · rw [mup_ne c] at z
      obtain ⟨u, z1, z2⟩ := h.obj a q z
      exact ⟨u, by rw [upd_ne c]; exact z1, z2⟩
  · obtain ⟨z1, z2⟩ := h.apart a ha
    have n : a ≠ p := fun z => by subst z; rw [e1] at ha; cases ha
    exact ⟨by rw [mup_ne n]; exact z1, by rw [g.hold a ha]; exact z2⟩
/-- a tracked list that does not change any more -/
theorem HR.freeze {K : PySem.W.Frag} {S : Addr → Bool} {M : MH} {H : Hp} (h : HR K S M H) {p : Addr} {ds : List Dv} (hp : M p = some (.lst ds)) : Gr S M H (mdel M p) H ∧ HR K S (mdel M p) H ∧ RD K (hid S (mdel M p) H) (.ref p) (.lst ds) := by
  obtain ⟨u, z1, z2⟩ := h.obj p _ hp
  have e1 : S p = false := by
    cases e : S p with
    | false => rfl
    | true => have := (h.apart p e).1; rw [hp] at this; cases this
  have e2 : mdel M p p = none := by unfold mdel; rw [if_pos rfl]
  have g : Gr S M H (mdel M p) H := by
    refine ⟨fun b w z => ?_, fun _ _ => rfl⟩
    obtain ⟨y1, y2, y3⟩ := hid_some z
    rw [hid_of y2 (by unfold mdel; split; rfl; exact y3)]
    exact y1
  refine ⟨g, ⟨fun a q z => ?_, fun a ha => ?_⟩, ?_⟩
  · have n : M a = some q := by
      unfold mdel at z
      split at z
      · cases z
      · exact z
    obtain ⟨w, y1, y2⟩ := h.obj a q n
    exact ⟨w, y1, y2.same g.same⟩
  · obtain ⟨y1, y2⟩ := h.apart a ha
    exact ⟨by unfold mdel; split; rfl; exact y1, y2⟩
  · cases z2 with
    | lst r => exact .lst (by rw [hid_of e1 e2]; exact z1) (RDs.same g.same _ _ r)
/-! ## what code asks, as functions of the names' data and the state -/
abbrev DEnv := List (Option Dv)
abbrev DK := Dv → MH → Prop
abbrev DE := DEnv → MH → DK → Prop
abbrev DT := DEnv → MH → (Bool → MH → Prop) → Prop
abbrev DA := DEnv → MH → (List Dv → MH → Prop) → Prop
structure DEnds where
  nx : DEnv → MH → Prop
  rt : DK
  bk : DEnv → MH → Prop := fun _ _ => False
  ct : DEnv → MH → Prop := fun _ _ => False
abbrev DS := DEnds → DEnv → MH → Prop
/-- the names have their data -/
structure RN (K : PySem.W.Frag) (G : Hp) (σ : L2.St) (env : DEnv) : Prop where
  len : σ.length = env.length
  at_ : ∀ (i : Nat) (d : Dv), env[i]? = some (some d) → ∃ v, σ[i]? = some (some v) ∧ RD K G v d
theorem RN.same {K : PySem.W.Frag} {G G' : Hp} {σ : L2.St} {env : DEnv} (s : Same G G') (h : RN K G σ env) : RN K G' σ env :=
  ⟨h.len, fun i d e => let ⟨v, a, b⟩ := h.at_ i d e; ⟨v, a, RD.same s _ _ b⟩⟩
theorem RN.set {K : PySem.W.Frag} {G : Hp} {σ : L2.St} {env : DEnv} (h : RN K G σ env) {v : V} {d : Dv} (r : RD K G v d) (i : Nat) : RN K G (σ.set i (some v)) (env.set i (some d)) := by
  refine ⟨by rw [List.length_set, List.length_set, h.len], fun j e hj => ?_⟩
  by_cases c : i = j
  · subst c
    by_cases l : i < env.length
    · rw [List.getElem?_set_self l] at hj
      cases hj
      exact ⟨v, List.getElem?_set_self (by rw [h.len]; exact l), r⟩
    · rw [List.getElem?_eq_none (by simpa using l)] at hj
      cases hj
  · rw [List.getElem?_set_ne c] at hj
    rw [List.getElem?_set_ne c]
    exact h.at_ j e hj
def wipeD (env : DEnv) : List Nat → DEnv
  | [] => env
  | v :: vs => (wipeD env vs).set v none
theorem RN.wipe {K : PySem.W.Frag} {G : Hp} {σ : L2.St} {env : DEnv} (h : RN K G σ env) : ∀ vs : List Nat, RN K G (L2.wipe σ vs) (wipeD env vs)
  | [] => h
  | v :: vs => by
    have z := RN.wipe h vs
    unfold L2.wipe wipeD
    refine ⟨by rw [List.length_set, List.length_set, z.len], fun j e hj => ?_⟩
    by_cases c : v = j
    · subst c
      by_cases l : v < (wipeD env vs).length
      · rw [List.getElem?_set_self l] at hj
        cases hj
      · rw [List.getElem?_eq_none (by simpa using l)] at hj
        cases hj
    · rw [List.getElem?_set_ne c] at hj
      rw [List.getElem?_set_ne c]
      exact z.at_ j e hj
section
variable (K : PySem.W.Frag)
def RE (t : TE) (F : DE) : Prop := ∀ (S : Addr → Bool) (σ : L2.St) (H : Hp) (env : DEnv) (M : MH) (Q : VK) (R : DK), RN K (hid S M H) σ env → HR K S M H → F env M R →
  (∀ d M' v H', R d M' → Gr S M H M' H' → RD K (hid S M' H') v d → HR K S M' H' → Q v H') → t σ H Q
def RT (t : TT) (F : DT) : Prop := ∀ (S : Addr → Bool) (σ : L2.St) (H : Hp) (env : DEnv) (M : MH) (Q : Bool → Hp → Prop) (R : Bool → MH → Prop), RN K (hid S M H) σ env → HR K S M H → F env M R →
  (∀ b M' H', R b M' → Gr S M H M' H' → HR K S M' H' → Q b H') → t σ H Q
def RA (t : TA) (n : Nat) (F : DA) : Prop := ∀ (S : Addr → Bool) (σ : L2.St) (H : Hp) (env : DEnv) (M : MH) (Q : List V → Hp → Prop) (R : List Dv → MH → Prop), RN K (hid S M H) σ env → HR K S M H → F env M R →
  (∀ ds M' vs H', R ds M' → ds.length = n → Gr S M H M' H' → RDs K (hid S M' H') vs ds → HR K S M' H' → Q vs H') → t σ H Q
structure Cnv (S : Addr → Bool) (M : MH) (H : Hp) (E : DEnds) (D : Ends) : Prop where
  nx : ∀ env' M' σ' H', E.nx env' M' → Gr S M H M' H' → RN K (hid S M' H') σ' env' → HR K S M' H' → D.nx σ' H'
  bk : ∀ env' M' σ' H', E.bk env' M' → Gr S M H M' H' → RN K (hid S M' H') σ' env' → HR K S M' H' → D.bk σ' H'
  ct : ∀ env' M' σ' H', E.ct env' M' → Gr S M H M' H' → RN K (hid S M' H') σ' env' → HR K S M' H' → D.ct σ' H'
  rt : ∀ d M' v H', E.rt d M' → Gr S M H M' H' → RD K (hid S M' H') v d → HR K S M' H' → D.rt v H'
def RS (t : TS) (F : DS) : Prop := ∀ (S : Addr → Bool) (σ : L2.St) (H : Hp) (env : DEnv) (M : MH) (D : Ends) (E : DEnds), RN K (hid S M H) σ env → HR K S M H → F E env M → Cnv K S M H E D → t D σ H
end
theorem Cnv.from {K : PySem.W.Frag} {S : Addr → Bool} {M M1 : MH} {H H1 : Hp} {E : DEnds} {D : Ends} (c : Cnv K S M H E D) (g : Gr S M H M1 H1) : Cnv K S M1 H1 E D :=
  ⟨fun e m s h a b => c.nx e m s h a (g.trans b), fun e m s h a b => c.bk e m s h a (g.trans b), fun e m s h a b => c.ct e m s h a (g.trans b), fun e m s h a b => c.rt e m s h a (g.trans b)⟩
/-- judgements: a piece of syntax, its reading, and what it asks -/
structure Ex (X : Cx) (e : Expr) (t : TE) (F : DE) : Prop where
  p : PE X e t
  r : RE X.K t F
structure Ts (X : Cx) (e : Expr) (t : TT) (F : DT) : Prop where
  p : PT X e t
  r : RT X.K t F
structure Tw (X : Cx) (e : Expr) (t : TT) (F : DT) : Prop where
  p : PW X e t
  r : RT X.K t F
structure As (X : Cx) (es : List Expr) (t : TA) (n : Nat) (F : DA) : Prop where
  p : PA X es t
  r : RA X.K t n F
structure Sm (X : Cx) (st : Stmt) (t : TS) (F : DS) : Prop where
  p : PS X st t
  r : RS X.K t F
structure Ss (X : Cx) (st : List Stmt) (t : TS) (F : DS) : Prop where
  p : PSs X st t
  r : RS X.K t F
end Vk
set_option linter.unusedVariables false
namespace Vk
open PySem PySem.Spec PyProof.Rows L2
/-! # The data layer: expressions -/
section
variable {X : Cx} {a b c e : Expr} {ta tb tc te : TE} {A B C F : DE} {pos : Pos}
def dV (i : Nat) : DE := fun env M Q => match env[i]? with | some (some d) => Q d M | _ => False
def dC (d : Dv) : DE := fun _ M Q => Q d M
theorem RE.var {K : PySem.W.Frag} (i : Nat) : RE K (tVar i) (dV i) := by
  intro S σ H env M Q R rn hr f q
  unfold dV at f
  split at f
  · rename_i d e
    obtain ⟨v, ev, rd⟩ := rn.at_ i d e
    exact ⟨v, ev, q d M v H f Gr.refl rd hr⟩
  · exact f.elim
theorem RE.con {K : PySem.W.Frag} {v : V} {d : Dv} (h : ∀ G, RD K G v d) : RE K (tC v) (dC d) := by
  intro S σ H env M Q R rn hr f q
  exact q d M v H f Gr.refl (h _) hr
theorem dv (i : Nat) {x : Str} {pos : Pos} (hN : X.N[i]? = some x := by rfl) (hv : Vis X.env.scope x := by first | exact Or.inl rfl | exact Or.inr (Or.inl rfl) | exact Or.inr (Or.inr rfl)) (hd : (x == ("__debug__" : Str)) = false := by decide)
    (hcd : (x == ("__classdict__" : Str)) = false := by decide) : Ex X (.Name x pos) (tVar i) (dV i) := ⟨pv i hN hv hd hcd, RE.var i⟩
theorem d_int {i : Int} {j pos} : Ex X (.Constant (.int i) j pos) (tC (.int i)) (dC (.int i)) := ⟨pe_int, RE.con fun _ => .int i⟩
theorem d_bl {i : Bool} {j pos} : Ex X (.Constant (.bool i) j pos) (tC (.bl i)) (dC (.bl i)) := ⟨pe_bl, RE.con fun _ => .bl i⟩
theorem d_non {j pos} : Ex X (.Constant .none j pos) (tC .non) (dC .non) := ⟨pe_non, RE.con fun _ => .non⟩
theorem d_str {x : Str} {j pos} : Ex X (.Constant (.str x) j pos) (tC (.str x)) (dC (.str x)) := ⟨pe_str, RE.con fun _ => .str x⟩
/-- a name of the module: v by d -/
theorem d_glob {x : Str} {v : V} {d : Dv} {u : Value} {pos : Pos} (hg : Gl X x) (hm : X.mg x = some u) (r : RelV v u) (h : ∀ G, RD X.K G v d) (hd : (x == ("__debug__" : Str)) = false := by decide) : Ex X (.Name x pos) (tC v) (dC d) :=
  ⟨pe_glob hg hm r hd, RE.con h⟩
/-! ## operators -/
abbrev DO := Dv → Dv → MH → DK → Prop
def RO (K : PySem.W.Frag) (r : R2) (g : DO) : Prop := ∀ (S : Addr → Bool) (H : Hp) (x y : V) (dx dy : Dv) (M : MH) (Q : VK) (R : DK), RD K (hid S M H) x dx → RD K (hid S M H) y dy → HR K S M H → g dx dy M R →
  (∀ d M' v H', R d M' → Gr S M H M' H' → RD K (hid S M' H') v d → HR K S M' H' → Q v H') → r x y H Q
structure Op (X : Cx) (f : Value → Value → Sem Value) (r : R2) (g : DO) : Prop where
  p : OpR X f r
  r : RO X.K r g
def dOp (g : DO) (A B : DE) : DE := fun env M Q => A env M fun x M1 => B env M1 fun y M2 => g x y M2 Q
theorem RE.op {K : PySem.W.Frag} {r : R2} {g : DO} (o : RO K r g) (h1 : RE K ta A) (h2 : RE K tb B) : RE K (tOp r ta tb) (dOp g A B) := by
  intro S σ H env M Q R rn hr f q
  refine h1 S σ H env M _ _ rn hr f fun x M1 v H1 f1 g1 r1 hr1 => ?_
  refine h2 S σ H1 env M1 _ _ (rn.same g1.same) hr1 f1 fun y M2 w H2 f2 g2 r2 hr2 => ?_
  exact o S H2 v w x y M2 Q R (RD.same g2.same _ _ r1) r2 hr2 f2 fun d M' z H' h k rd hr' => q d M' z H' h ((g1.trans g2).trans k) rd hr'
theorem d_op {op : Operator} {r : R2} {g : DO} (o : Op X (binaryOp op) r g) (h1 : Ex X a ta A) (h2 : Ex X b tb B) : Ex X (.BinOp a op b pos) (tOp r ta tb) (dOp g A B) := ⟨pe_op o.p h1.p h2.p, RE.op o.r h1.r h2.r⟩
theorem d_cmp {op : CmpOp} {r : R2} {g : DO} (o : Op X (compareOp op) r g) (h1 : Ex X a ta A) (h2 : Ex X b tb B) (hm : behindInMarks op b = false) : Ex X (.Compare a [op] [b] pos) (tOp r ta tb) (dOp g A B) := ⟨pe_cmpR o.p h1.p h2.p hm, RE.op o.r h1.r h2.r⟩
theorem opr_or {f : Value → Value → Sem Value} {r u : R2} (h1 : OpR X f r) (h2 : OpR X f u) : OpR X f (fun x y H Q => r x y H Q ∨ u x y H Q) := by
  intro pins s σ H x y v w Q I rx ry h
  rcases h with h | h
  · exact h1 pins s σ H x y v w Q I rx ry h
  · exact h2 pins s σ H x y v w Q I rx ry h
/-- an operator of two ints -/
def gI (C : Int → Int → Prop) (k : Int → Int → Dv) : DO := fun x y M Q => match x, y with | .int i, .int j => C i j ∧ Q (k i j) M | _, _ => False
theorem RO.i {K : PySem.W.Frag} {C : Int → Int → Prop} {k : Int → Int → Dv} {kv : Int → Int → V} (h : ∀ i j G, RD K G (kv i j) (k i j)) : RO K (rI C kv) (gI C k) := by
  intro S H x y dx dy M Q R rx ry hr f q
  unfold gI at f
  split at f
  · cases rx
    cases ry
    exact ⟨_, _, rfl, rfl, f.1, q _ M _ H f.2 Gr.refl (h _ _ _) hr⟩
  · exact f.elim
theorem rI0_of {f : Value → Value → Sem Value} {k : Int → Int → V} (h : OpR X f (rI0 k)) : OpR X f (rI (fun _ _ => True) k) := by
  intro pins s σ H x y v u Q I rx ry z
  obtain ⟨i, j, e1, e2, _, q⟩ := z
  exact h pins s σ H x y v u Q I rx ry ⟨i, j, e1, e2, q⟩
def gMinus : DO := fun x y M Q => match x, y with | .int i, .int j => Q (.int (i - j)) M | _, _ => False
theorem o_minus : Op X (binaryOp .Sub) (rI0 fun i j => .int (i - j)) gMinus := by
  refine ⟨op_sub, ?_⟩
  intro S H x y dx dy M Q R rx ry hr f q
  unfold gMinus at f
  split at f
  · cases rx
    cases ry
    exact ⟨_, _, rfl, rfl, q _ M _ H f Gr.refl (.int _) hr⟩
  · exact f.elim
theorem o_mod : Op X (binaryOp .Mod) (rI (fun _ j => 0 < j) fun i j => .int (i % j)) (gI (fun _ j => 0 < j) fun i j => .int (i % j)) := ⟨op_mod, RO.i fun _ _ _ => .int _⟩
theorem o_fdiv : Op X (binaryOp .FloorDiv) (rI CDiv fun i j => .int (i / j)) (gI CDiv fun i j => .int (i / j)) := ⟨op_fdiv, RO.i fun _ _ _ => .int _⟩
theorem o_pow : Op X (binaryOp .Pow) (rI CPow fun i j => .int (i ^ j.toNat)) (gI CPow fun i j => .int (i ^ j.toNat)) := ⟨op_pow, RO.i fun _ _ _ => .int _⟩
theorem o_mul : Op X (binaryOp .Mult) (rI CMul fun i j => .int (i * j)) (gI CMul fun i j => .int (i * j)) := ⟨op_mul, RO.i fun _ _ _ => .int _⟩
/-! ### + -/
def gAdd : DO := fun x y M Q => match x, y with
  | .int i, .int j => Q (.int (i + j)) M
  | .str i, .str j => i.length + j.length ≤ sizeLine ∧ Q (.str (i ++ j)) M
  | .lst i, .lst j => i.length + j.length ≤ sizeLine ∧ Q (.lst (i ++ j)) M
  | .tup i, .tup j => i.length + j.length ≤ sizeLine ∧ Q (.tup (i ++ j)) M
  | _, _ => False
def rAddA (K : PySem.W.Frag) : R2 := fun x y H Q => (rI0 fun i j => .int (i + j)) x y H Q ∨ (∃ i j, x = .str i ∧ y = .str j ∧ i.length + j.length ≤ sizeLine ∧ Q (.str (i ++ j)) H) ∨ rCat x y H Q ∨ rCatA K x y H Q
theorem RD.newT {K : PySem.W.Frag} {S : Addr → Bool} {M : MH} {H : Hp} (hr : HR K S M H) {p : Addr} (hp : H p = none) {vs : List V} {ds : List Dv} (h : RDs K (hid S M H) vs ds) :
    Gr S M H M (upd H p (.tup vs)) ∧ HR K S M (upd H p (.tup vs)) ∧ RD K (hid S M (upd H p (.tup vs))) (.ref p) (.tup ds) := by
  obtain ⟨g, hr', at_⟩ := hr.new hp (.tup vs)
  exact ⟨g, hr', .tup (.inl (.inl at_)) (RDs.same g.same _ _ h)⟩
theorem RD.newL {K : PySem.W.Frag} {S : Addr → Bool} {M : MH} {H : Hp} (hr : HR K S M H) {p : Addr} (hp : H p = none) {vs : List V} {ds : List Dv} (h : RDs K (hid S M H) vs ds) :
    Gr S M H M (upd H p (.lst vs)) ∧ HR K S M (upd H p (.lst vs)) ∧ RD K (hid S M (upd H p (.lst vs))) (.ref p) (.lst ds) := by
  obtain ⟨g, hr', at_⟩ := hr.new hp (.lst vs)
  exact ⟨g, hr', .lst at_ (RDs.same g.same _ _ h)⟩
/-- from what does not change to what stands -/
theorem sqT_hid {K : PySem.W.Frag} {S : Addr → Bool} {M : MH} {H : Hp} {a : Addr} {vs : List V} (h : SqT K (hid S M H) a vs) : SqT K H a vs := by
  rcases h with (h | ⟨o, h⟩) | h
  · exact .inl (.inl (hid_some h).1)
  · exact .inl (.inr ⟨o, (hid_some h).1⟩)
  · exact .inr h
theorem sqL_hid {K : PySem.W.Frag} {S : Addr → Bool} {M : MH} {H : Hp} {a : Addr} {vs : List V} (h : SqL K (hid S M H) a vs) : SqL K H a vs := by
  rcases h with (h | ⟨o, h⟩) | h
  · exact .inl (.inl (hid_some h).1)
  · exact .inl (.inr ⟨o, (hid_some h).1⟩)
  · exact .inr h
theorem RDs.isNil {K : PySem.W.Frag} {G : Hp} {vs : List V} {ds : List Dv} (h : RDs K G vs ds) : vs = [] ↔ ds = [] := by
  cases h with
  | nil => simp
  | cons _ _ => simp
theorem o_add : Op X (binaryOp .Add) (rAddA X.K) gAdd := by
  refine ⟨opr_or op_add (opr_or op_add_str (opr_or op_cat op_catA)), ?_⟩
  intro S H x y dx dy M Q R rx ry hr f q
  unfold gAdd at f
  split at f
  · cases rx
    cases ry
    exact .inl ⟨_, _, rfl, rfl, q _ M _ H f Gr.refl (.int _) hr⟩
  · cases rx
    cases ry
    exact .inr (.inl ⟨_, _, rfl, rfl, f.1, q _ M _ H f.2 Gr.refl (.str _) hr⟩)
  · cases rx with
    | lst ha ra =>
      cases ry with
      | lst hb rb =>
        refine .inr (.inr (.inl ⟨_, _, _, _, rfl, rfl, (hid_some ha).1, (hid_some hb).1, by rw [ra.len, rb.len]; exact f.1, fun p hp => ?_⟩))
        obtain ⟨g, hr', rd⟩ := RD.newL hr hp (ra.app rb)
        exact q _ M _ _ f.2 g rd hr'
  · cases rx with
    | tup ha ra =>
      cases ry with
      | tup hb rb =>
        refine .inr (.inr (.inr ⟨_, _, _, _, rfl, rfl, sqT_hid ha, sqT_hid hb, by rw [ra.len, rb.len]; exact f.1, fun z => ?_, fun _ z => ?_, fun _ _ p hp => ?_⟩))
        · have e := ra.isNil.mp z
          subst e
          exact q _ M _ H f.2 Gr.refl (.tup hb (by rw [List.nil_append]; exact rb)) hr
        · have e := rb.isNil.mp z
          subst e
          exact q _ M _ H f.2 Gr.refl (.tup ha (by rw [List.append_nil]; exact ra)) hr
        · obtain ⟨g, hr', rd⟩ := RD.newT hr hp (ra.app rb)
          exact q _ M _ _ f.2 g rd hr'
  · exact f.elim
/-! ### comparisons -/
def gLt : DO := fun x y M Q => match x, y with
  | .int i, .int j => Q (.bl (decide (i < j))) M
  | .str i, .str j => Q (.bl (decide (i.cps.toList < j.cps.toList))) M
  | _, _ => False
def gLe : DO := fun x y M Q => match x, y with
  | .int i, .int j => Q (.bl (decide (i ≤ j))) M
  | .str i, .str j => Q (.bl (!decide (j.cps.toList < i.cps.toList))) M
  | _, _ => False
abbrev rSS (k : Str → Str → Bool) : R2 := fun x y H Q => ∃ i j, x = .str i ∧ y = .str j ∧ Q (.bl (k i j)) H
abbrev rIS (k1 : Int → Int → Bool) (k2 : Str → Str → Bool) : R2 := fun x y H Q => rI0 (fun i j => .bl (k1 i j)) x y H Q ∨ rSS k2 x y H Q
theorem RO.is {K : PySem.W.Frag} {k1 : Int → Int → Bool} {k2 : Str → Str → Bool} {g : DO}
    (hg : ∀ x y M Q, g x y M Q → (∃ i j, x = .int i ∧ y = .int j ∧ Q (.bl (k1 i j)) M) ∨ ∃ i j, x = .str i ∧ y = .str j ∧ Q (.bl (k2 i j)) M) : RO K (rIS k1 k2) g := by
  intro S H x y dx dy M Q R rx ry hr f q
  rcases hg _ _ _ _ f with ⟨i, j, rfl, rfl, f2⟩ | ⟨i, j, rfl, rfl, f2⟩
  · cases rx
    cases ry
    exact .inl ⟨_, _, rfl, rfl, q _ M _ H f2 Gr.refl (.bl _) hr⟩
  · cases rx
    cases ry
    exact .inr ⟨_, _, rfl, rfl, q _ M _ H f2 Gr.refl (.bl _) hr⟩
theorem o_lt : Op X (compareOp .Lt) (rIS (fun i j => decide (i < j)) fun i j => decide (i.cps.toList < j.cps.toList)) gLt := by
  refine ⟨opr_or op_lt op_lt_str, RO.is fun x y M Q f => ?_⟩
  unfold gLt at f
  split at f
  · exact .inl ⟨_, _, rfl, rfl, f⟩
  · exact .inr ⟨_, _, rfl, rfl, f⟩
  · exact f.elim
theorem o_le : Op X (compareOp .LtE) (rIS (fun i j => decide (i ≤ j)) fun i j => !decide (j.cps.toList < i.cps.toList)) gLe := by
  refine ⟨opr_or op_le op_le_str, RO.is fun x y M Q f => ?_⟩
  unfold gLe at f
  split at f
  · exact .inl ⟨_, _, rfl, rfl, f⟩
  · exact .inr ⟨_, _, rfl, rfl, f⟩
  · exact f.elim
def gB (k : Int → Int → Bool) : DO := fun x y M Q => match x, y with | .int i, .int j => Q (.bl (k i j)) M | _, _ => False
theorem RO.bb {K : PySem.W.Frag} {k : Int → Int → Bool} : RO K (rI0 fun i j => .bl (k i j)) (gB k) := by
  intro S H x y dx dy M Q R rx ry hr f q
  unfold gB at f
  split at f
  · cases rx
    cases ry
    exact ⟨_, _, rfl, rfl, q _ M _ H f Gr.refl (.bl _) hr⟩
  · exact f.elim
theorem o_gt : Op X (compareOp .Gt) (rI0 fun i j => .bl (decide (i > j))) (gB fun i j => decide (i > j)) := ⟨op_gt, RO.bb⟩
theorem o_ge : Op X (compareOp .GtE) (rI0 fun i j => .bl (decide (i ≥ j))) (gB fun i j => decide (i ≥ j)) := ⟨op_ge, RO.bb⟩
end
end Vk
set_option linter.unusedVariables false
namespace Vk
open PySem PySem.Spec PyProof.Rows L2
/-! # The data layer: tests, logic, displays, slices, places, calls -/
section
variable {X : Cx} {a b c e : Expr} {es : List Expr} {ta tb tc te : TE} {ti tj : TT} {tt : TA} {n : Nat} {A B C F : DE} {I J : DT} {G : DA} {pos : Pos} {r r' : R2} {g g' : DO}
/-! ## chains -/
def dChain (g g' : DO) (A B C : DE) : DE := fun env M Q => A env M fun x M1 => B env M1 fun y M2 => g x y M2 fun z M3 => match z with
  | .bl k => if k = true then C env M3 fun w M4 => g' y w M4 Q else Q (.bl false) M3
  | _ => False
theorem RE.chain {K : PySem.W.Frag} (o : RO K r g) (o' : RO K r' g') (h1 : RE K ta A) (h2 : RE K tb B) (h3 : RE K tc C) : RE K (tChain r r' ta tb tc) (dChain g g' A B C) := by
  intro S σ H env M Q R rn hr f q
  refine h1 S σ H env M _ _ rn hr f fun x M1 v H1 f1 g1 r1 hr1 => ?_
  refine h2 S σ H1 env M1 _ _ (rn.same g1.same) hr1 f1 fun y M2 w H2 f2 g2 r2 hr2 => ?_
  refine o S H2 v w x y M2 _ _ (RD.same g2.same _ _ r1) r2 hr2 f2 fun d M3 z H3 f3 g3 r3 hr3 => ?_
  split at f3
  · cases r3
    refine ⟨_, rfl, ?_⟩
    split at f3
    · rename_i k
      rw [if_pos k]
      refine h3 S σ H3 env M3 _ _ (rn.same ((g1.trans g2).trans g3).same) hr3 f3 fun u M4 y' H4 f4 g4 r4 hr4 => ?_
      exact o' S H4 w y' y u M4 Q R (RD.same (g3.trans g4).same _ _ r2) r4 hr4 f4 fun d' M' z' H' h k rd hr' => q d' M' z' H' h (((g1.trans g2).trans (g3.trans g4)).trans k) rd hr'
    · rename_i k
      rw [if_neg k]
      exact q _ M3 _ H3 f3 ((g1.trans g2).trans g3) (.bl _) hr3
  · exact f3.elim
theorem d_chain {op op' : CmpOp} (o : Op X (compareOp op) r g) (o' : Op X (compareOp op') r' g') (h1 : Ex X a ta A) (h2 : Ex X b tb B) (h3 : Ex X c tc C) (hm : lastMarks [op, op'] [b, c] = false := by with_unfolding_all rfl) :
    Ex X (.Compare a [op, op'] [b, c] pos) (tChain r r' ta tb tc) (dChain g g' A B C) := ⟨pe_chain o.p o'.p h1.p h2.p h3.p hm, RE.chain o.r o'.r h1.r h2.r h3.r⟩
/-! ## tests -/
def dB (A : DE) : DT := fun env M Q => A env M fun x M1 => match x with | .bl k => Q k M1 | _ => False
theorem RT.val {K : PySem.W.Frag} (h : RE K ta A) : RT K (tB ta) (dB A) := by
  intro S σ H env M Q R rn hr f q
  refine h S σ H env M _ _ rn hr f fun x M1 v H1 f1 g1 r1 hr1 => ?_
  split at f1
  · cases r1
    exact ⟨_, rfl, q _ M1 H1 f1 g1 hr1⟩
  · exact f1.elim
theorem t_val {e : Expr} (h : Ex X e te F) (he : ∀ whole, isTrue e X.env whole = (do let v ← whole; standAt e.pos; holding [v] (truthy v)) := by intro _; rfl) : Ts X e (tB te) (dB F) := ⟨pt_val h.p he, RT.val h.r⟩
theorem t_cmp {op : CmpOp} (o : Op X (compareOp op) r g) (h1 : Ex X a ta A) (h2 : Ex X b tb B) (hm : behindInMarks op b = false) : Ts X (.Compare a [op] [b] pos) (tTest (tOp r ta tb)) (dB (dOp g A B)) := ⟨pt_cmpR o.p h1.p h2.p hm, RT.val (RE.op o.r h1.r h2.r)⟩
theorem t_chain {op op' : CmpOp} (o : Op X (compareOp op) r g) (o' : Op X (compareOp op') r' g') (h1 : Ex X a ta A) (h2 : Ex X b tb B) (h3 : Ex X c tc C) (hm : lastMarks [op, op'] [b, c] = false := by with_unfolding_all rfl) :
    Ts X (.Compare a [op, op'] [b, c] pos) (tTest (tChain r r' ta tb tc)) (dB (dChain g g' A B C)) := ⟨pt_chain o.p o'.p h1.p h2.p h3.p hm, RT.val (RE.chain o.r o'.r h1.r h2.r h3.r)⟩
/-- the truth of a value -/
def dTru (A : DE) : DT := fun env M Q => A env M fun x M1 => match x with
  | .non => Q false M1
  | .bl b => Q b M1
  | .int i => Q (i != 0) M1
  | .str y => y.length ≤ sizeLine ∧ Q ((y.length : Int) != 0) M1
  | .tup ds => Q (!ds.isEmpty) M1
  | .lst ds => Q (!ds.isEmpty) M1
  | .scr ns => Q (!ns.isEmpty) M1
  | .ref p => match M1 p with
    | some (.lst ds) => Q (!ds.isEmpty) M1
    | _ => False
  | _ => False
theorem RDs.isEmpty {K : PySem.W.Frag} {G : Hp} {vs : List V} {ds : List Dv} (h : RDs K G vs ds) : vs.isEmpty = ds.isEmpty := by cases h <;> rfl
theorem t_truth (h : Ex X a ta A) (he : ∀ whole, isTrue a X.env whole = (do let v ← whole; standAt a.pos; holding [v] (truthy v)) := by intro _; rfl) :
    Ts X a (fun σ H Q => ta σ H fun x H' => ∃ k, TruV X.K x H' k ∧ Q k H') (dTru A) := by
  refine ⟨pt_truth h.p he, ?_⟩
  intro S σ H env M Q R rn hr f q
  refine h.r S σ H env M _ _ rn hr f fun x M1 v H1 f1 g1 r1 hr1 => ?_
  split at f1
  · cases r1; exact ⟨_, rfl, q _ M1 H1 f1 g1 hr1⟩
  · cases r1; exact ⟨_, rfl, q _ M1 H1 f1 g1 hr1⟩
  · cases r1; exact ⟨_, rfl, q _ M1 H1 f1 g1 hr1⟩
  · cases r1; exact ⟨_, ⟨f1.1, rfl⟩, q _ M1 H1 f1.2 g1 hr1⟩
  · cases r1 with
    | tup ha ra =>
      rw [← ra.isEmpty] at f1
      exact ⟨_, .inr (.inl ⟨_, sqT_hid ha, rfl⟩), q _ M1 H1 f1 g1 hr1⟩
  · cases r1 with
    | lst ha ra =>
      rw [← ra.isEmpty] at f1
      exact ⟨_, .inl ⟨_, SqL.of (hid_some ha).1, rfl⟩, q _ M1 H1 f1 g1 hr1⟩
  · cases r1 with
    | scr ha =>
      refine ⟨_, .inl ⟨_, sqL_hid ha, rfl⟩, q _ M1 H1 ?_ g1 hr1⟩
      rw [List.isEmpty_map]
      exact f1
  · cases r1
    split at f1
    · rename_i p _ ds e
      obtain ⟨u, z1, z2⟩ := hr1.obj _ _ e
      cases z2 with
      | lst ra =>
        rw [← ra.isEmpty] at f1
        exact ⟨_, .inl ⟨_, SqL.of z1, rfl⟩, q _ M1 H1 f1 g1 hr1⟩
    · exact f1.elim
  · exact f1.elim
def dNotT (I : DT) : DT := fun env M Q => I env M fun k M1 => Q (!k) M1
theorem t_not (h : Ts X a ti I) : Ts X (.UnaryOp .Not a pos) (tNot ti) (dNotT I) := by
  refine ⟨pt_not h.p, ?_⟩
  intro S σ H env M Q R rn hr f q
  exact h.r S σ H env M _ _ rn hr f fun k M1 H1 f1 g1 hr1 => q _ M1 H1 f1 g1 hr1
def dAndT (I J : DT) : DT := fun env M Q => I env M fun k M1 => if k = true then J env M1 Q else Q false M1
def dOrT (I J : DT) : DT := fun env M Q => I env M fun k M1 => if k = true then Q true M1 else J env M1 Q
theorem w_and {rest : List Expr} (h1 : Ts X a ti I) (h2 : Tw X (.BoolOp .And (b :: rest) pos) tj J) : Tw X (.BoolOp .And (a :: b :: rest) pos) (tAnd ti tj) (dAndT I J) := by
  refine ⟨pw_and h1.p h2.p, ?_⟩
  intro S σ H env M Q R rn hr f q
  refine h1.r S σ H env M _ _ rn hr f fun k M1 H1 f1 g1 hr1 => ?_
  split at f1
  · rename_i e
    rw [if_pos e]
    exact h2.r S σ H1 env M1 Q R (rn.same g1.same) hr1 f1 fun d M' H' h k hr' => q d M' H' h (g1.trans k) hr'
  · rename_i e
    rw [if_neg e]
    exact q _ M1 H1 f1 g1 hr1
theorem w_or {rest : List Expr} (h1 : Ts X a ti I) (h2 : Tw X (.BoolOp .Or (b :: rest) pos) tj J) : Tw X (.BoolOp .Or (a :: b :: rest) pos) (tOr ti tj) (dOrT I J) := by
  refine ⟨pw_or h1.p h2.p, ?_⟩
  intro S σ H env M Q R rn hr f q
  refine h1.r S σ H env M _ _ rn hr f fun k M1 H1 f1 g1 hr1 => ?_
  split at f1
  · rename_i e
    rw [if_pos e]
    exact q _ M1 H1 f1 g1 hr1
  · rename_i e
    rw [if_neg e]
    exact h2.r S σ H1 env M1 Q R (rn.same g1.same) hr1 f1 fun d M' H' h k hr' => q d M' H' h (g1.trans k) hr'
theorem w_and1 (h : Ts X a ti I) : Tw X (.BoolOp .And [a] pos) ti I := ⟨pw_and1 h.p, h.r⟩
theorem w_or1 (h : Ts X a ti I) : Tw X (.BoolOp .Or [a] pos) ti I := ⟨pw_or1 h.p, h.r⟩
theorem Tw.ts (h : Tw X a ti I) : Ts X a ti I := ⟨PW.pt h.p, h.r⟩
/-! ## logic as values -/
def dAnd (A B : DE) : DE := fun env M Q => A env M fun x M1 => match x with | .bl k => if k = true then B env M1 Q else Q (.bl false) M1 | _ => False
def dOr (A B : DE) : DE := fun env M Q => A env M fun x M1 => match x with | .bl k => if k = true then Q (.bl true) M1 else B env M1 Q | _ => False
def dNot (A : DE) : DE := fun env M Q => A env M fun x M1 => match x with | .bl k => Q (.bl (!k)) M1 | _ => False
theorem d_and {rest : List Expr} (h1 : Ex X a ta A) (h2 : Ex X (.BoolOp .And (b :: rest) pos) tb B) : Ex X (.BoolOp .And (a :: b :: rest) pos) (tAndV ta tb) (dAnd A B) := by
  refine ⟨pe_and h1.p h2.p, ?_⟩
  intro S σ H env M Q R rn hr f q
  refine h1.r S σ H env M _ _ rn hr f fun x M1 v H1 f1 g1 r1 hr1 => ?_
  split at f1
  · cases r1
    refine ⟨_, rfl, ?_⟩
    split at f1
    · rename_i e
      rw [if_pos e]
      exact h2.r S σ H1 env M1 Q R (rn.same g1.same) hr1 f1 fun d M' v H' h k rd hr' => q d M' v H' h (g1.trans k) rd hr'
    · rename_i e
      rw [if_neg e]
      exact q _ M1 _ H1 f1 g1 (.bl _) hr1
  · exact f1.elim
theorem d_or {rest : List Expr} (h1 : Ex X a ta A) (h2 : Ex X (.BoolOp .Or (b :: rest) pos) tb B) : Ex X (.BoolOp .Or (a :: b :: rest) pos) (tOrV ta tb) (dOr A B) := by
  refine ⟨pe_or h1.p h2.p, ?_⟩
  intro S σ H env M Q R rn hr f q
  refine h1.r S σ H env M _ _ rn hr f fun x M1 v H1 f1 g1 r1 hr1 => ?_
  split at f1
  · cases r1
    refine ⟨_, rfl, ?_⟩
    split at f1
    · rename_i e
      rw [if_pos e]
      exact q _ M1 _ H1 f1 g1 (.bl _) hr1
    · rename_i e
      rw [if_neg e]
      exact h2.r S σ H1 env M1 Q R (rn.same g1.same) hr1 f1 fun d M' v H' h k rd hr' => q d M' v H' h (g1.trans k) rd hr'
  · exact f1.elim
theorem d_one {op : BoolOp} (h : Ex X a ta A) : Ex X (.BoolOp op [a] pos) ta A := ⟨pe_one h.p, h.r⟩
theorem d_not (h : Ex X a ta A) : Ex X (.UnaryOp .Not a pos) (tNotV ta) (dNot A) := by
  refine ⟨pe_not h.p, ?_⟩
  intro S σ H env M Q R rn hr f q
  refine h.r S σ H env M _ _ rn hr f fun x M1 v H1 f1 g1 r1 hr1 => ?_
  split at f1
  · cases r1
    exact ⟨_, rfl, q _ M1 _ H1 f1 g1 (.bl _) hr1⟩
  · exact f1.elim
def dIf (I : DT) (A B : DE) : DE := fun env M Q => I env M fun k M1 => if k = true then A env M1 Q else B env M1 Q
theorem d_if (h0 : Ts X c ti I) (h1 : Ex X a ta A) (h2 : Ex X b tb B) : Ex X (.IfExp c a b pos) (tIf ti ta tb) (dIf I A B) := by
  refine ⟨pe_ifExp h0.p h1.p h2.p, ?_⟩
  intro S σ H env M Q R rn hr f q
  refine h0.r S σ H env M _ _ rn hr f fun k M1 H1 f1 g1 hr1 => ?_
  split at f1
  · rename_i e
    rw [if_pos e]
    exact h1.r S σ H1 env M1 Q R (rn.same g1.same) hr1 f1 fun d M' v H' h k rd hr' => q d M' v H' h (g1.trans k) rd hr'
  · rename_i e
    rw [if_neg e]
    exact h2.r S σ H1 env M1 Q R (rn.same g1.same) hr1 f1 fun d M' v H' h k rd hr' => q d M' v H' h (g1.trans k) rd hr'
/-! ## one argument -/
def gU (k : Int → Dv) : Dv → MH → DK → Prop := fun x M Q => match x with | .int i => Q (k i) M | _ => False
def dNeg (A : DE) : DE := fun env M Q => A env M fun x M1 => match x with | .int i => Q (.int (-i)) M1 | _ => False
theorem d_neg (h : Ex X a ta A) : Ex X (.UnaryOp .USub a pos) (tUn (rU fun i => .int (-i)) ta) (dNeg A) := by
  refine ⟨pe_un un_neg h.p, ?_⟩
  intro S σ H env M Q R rn hr f q
  refine h.r S σ H env M _ _ rn hr f fun x M1 v H1 f1 g1 r1 hr1 => ?_
  split at f1
  · cases r1
    exact ⟨_, rfl, q _ M1 _ H1 f1 g1 (.int _) hr1⟩
  · exact f1.elim
/-! ## lists of arguments, displays -/
def dANil : DA := fun _ M Q => Q [] M
def dACons (A : DE) (G : DA) : DA := fun env M Q => A env M fun x M1 => G env M1 fun xs M2 => Q (x :: xs) M2
theorem a_nil : As X [] tNil 0 dANil := by
  refine ⟨pa_nil, ?_⟩
  intro S σ H env M Q R rn hr f q
  exact q [] M [] H f rfl Gr.refl .nil hr
theorem a_cons (h1 : Ex X e te F) (h2 : As X es tt n G) (hs : starEach (e :: es) X.env = (false, eval e X.env) :: starEach es X.env := by rfl) : As X (e :: es) (tCons te tt) (n + 1) (dACons F G) := by
  refine ⟨pa_cons h1.p h2.p hs, ?_⟩
  intro S σ H env M Q R rn hr f q
  refine h1.r S σ H env M _ _ rn hr f fun x M1 v H1 f1 g1 r1 hr1 => ?_
  refine h2.r S σ H1 env M1 _ _ (rn.same g1.same) hr1 f1 fun ds M2 vs H2 f2 l2 g2 r2 hr2 => ?_
  exact q _ M2 _ H2 f2 (by rw [List.length_cons, l2]) (g1.trans g2) (.cons (RD.same g2.same _ _ r1) r2) hr2
def dTup (G : DA) : DE := fun env M Q => G env M fun ds M1 => Q (.tup ds) M1
def dLst (G : DA) : DE := fun env M Q => G env M fun ds M1 => Q (.lst ds) M1
/-- a new list that code changes -/
def dLstM (G : DA) : DE := fun env M Q => G env M fun ds M1 => ∀ p, M1 p = none → Q (.ref p) (mup M1 p (.lst ds))
theorem d_tup {x1} (h : As X es tt n G) (hn : n ≤ sizeLine := by decide) : Ex X (.Tuple es x1 pos) (tTup tt) (dTup G) := by
  refine ⟨pe_tup h.p, ?_⟩
  intro S σ H env M Q R rn hr f q
  refine h.r S σ H env M _ _ rn hr f fun ds M1 vs H1 f1 l1 g1 r1 hr1 => ⟨by rw [r1.len, l1]; exact hn, fun p hp => ?_⟩
  obtain ⟨g2, hr2, rd⟩ := RD.newT hr1 hp r1
  exact q _ M1 _ _ f1 (g1.trans g2) rd hr2
theorem d_lst (h : As X es tt n G) (hn : n ≤ sizeLine := by decide) : Ex X (.List es pos) (tLst tt) (dLst G) := by
  refine ⟨pe_lst h.p, ?_⟩
  intro S σ H env M Q R rn hr f q
  refine h.r S σ H env M _ _ rn hr f fun ds M1 vs H1 f1 l1 g1 r1 hr1 => ⟨by rw [r1.len, l1]; exact hn, fun p hp => ?_⟩
  obtain ⟨g2, hr2, rd⟩ := RD.newL hr1 hp r1
  exact q _ M1 _ _ f1 (g1.trans g2) rd hr2
theorem d_lstM (h : As X es tt n G) (hn : n ≤ sizeLine := by decide) : Ex X (.List es pos) (tLst tt) (dLstM G) := by
  refine ⟨pe_lst h.p, ?_⟩
  intro S σ H env M Q R rn hr f q
  refine h.r S σ H env M _ _ rn hr f fun ds M1 vs H1 f1 l1 g1 r1 hr1 => ⟨by rw [r1.len, l1]; exact hn, fun p hp => ?_⟩
  obtain ⟨g2, hr2⟩ := hr1.newM hp (.lst r1)
  exact q _ _ _ _ (f1 p (hr1.fresh hp).2) (g1.trans g2) (.ref p) hr2
/-- a list that is not changed any more -/
def dFrz (A : DE) : DE := fun env M Q => A env M fun x M1 => match x with
  | .ref p => match M1 p with
    | some (.lst ds) => Q (.lst ds) (mdel M1 p)
    | _ => False
  | _ => False
theorem d_frz (h : Ex X a ta A) : Ex X a ta (dFrz A) := by
  refine ⟨h.p, ?_⟩
  intro S σ H env M Q R rn hr f q
  refine h.r S σ H env M _ _ rn hr f fun x M1 v H1 f1 g1 r1 hr1 => ?_
  split at f1
  · split at f1
    · rename_i e
      cases r1
      obtain ⟨g2, hr2, rd⟩ := hr1.freeze e
      exact q _ _ _ H1 f1 (g1.trans g2) rd hr2
    · exact f1.elim
  · exact f1.elim
/-! ## places -/
def gIx : DO := fun x y M Q => match x, y with
  | .tup ds, .int i => match atI ds i with | some d => Q d M | none => False
  | .lst ds, .int i => match atI ds i with | some d => Q d M | none => False
  | .scr ns, .int i => match atI ns i with | some d => Q (.int d) M | none => False
  | .str z, .int i => z.length ≤ sizeLine ∧ match atI z.cps.toList i with | some c => Q (.str ⟨#[c]⟩) M | none => False
  | .ref p, .int i => match M p with
    | some (.lst ds) => match atI ds i with | some d => Q d M | none => False
    | _ => False
  | _, _ => False
theorem RDs.atI {K : PySem.W.Frag} {G : Hp} {vs : List V} {ds : List Dv} (h : RDs K G vs ds) {i : Int} {d : Dv} (e : atI ds i = some d) : ∃ v, L2.atI vs i = some v ∧ RD K G v d := by
  unfold L2.atI at e ⊢
  rw [h.len]
  cases c : ixN ds.length i with
  | none => rw [c] at e; cases e
  | some j =>
    rw [c] at e
    exact h.at e
theorem ix_or {r u : R2} (h1 : IxR X r) (h2 : IxR X u) : IxR X (fun x y H Q => r x y H Q ∨ u x y H Q) := by
  intro va sl pins s σ H x y v w Q I rx ry h hs
  rcases h with h | h
  · exact h1 va sl pins s σ H x y v w Q I rx ry h hs
  · exact h2 va sl pins s σ H x y v w Q I rx ry h hs
theorem RO.ix {K : PySem.W.Frag} : RO K (fun x y H Q => rIxL K x y H Q ∨ (rIxT K x y H Q ∨ rIxS x y H Q)) gIx := by
  intro S H x y dx dy M Q R rx ry hr f q
  unfold gIx at f
  split at f
  · split at f
    · rename_i e
      cases ry
      cases rx with
      | tup ha ra =>
        obtain ⟨v, ev, rd⟩ := ra.atI e
        exact .inr (.inl ⟨_, _, _, _, rfl, rfl, sqT_hid ha, ev, q _ M _ H f Gr.refl rd hr⟩)
    · exact f.elim
  · split at f
    · rename_i e
      cases ry
      cases rx with
      | lst ha ra =>
        obtain ⟨v, ev, rd⟩ := ra.atI e
        exact .inl ⟨_, _, _, _, rfl, rfl, SqL.of (hid_some ha).1, ev, q _ M _ H f Gr.refl rd hr⟩
    · exact f.elim
  · split at f
    · rename_i d e
      cases ry
      cases rx with
      | scr ha =>
        refine .inl ⟨_, _, _, .int d, rfl, rfl, sqL_hid ha, ?_, q _ M _ H f Gr.refl (.int _) hr⟩
        unfold atI at e ⊢
        rw [List.length_map]
        rename_i ns i _ _
        cases c : ixN ns.length i with
        | none => rw [c] at e; cases e
        | some j =>
          rw [c] at e
          show (List.map V.int ns)[j]? = _
          rw [List.getElem?_map]
          have e' : ns[j]? = some d := e
          rw [e']
          rfl
    · exact f.elim
  · obtain ⟨h1, f⟩ := f
    split at f
    · rename_i e
      cases ry
      cases rx
      exact .inr (.inr ⟨_, _, _, rfl, rfl, h1, e, q _ M _ H f Gr.refl (.str _) hr⟩)
    · exact f.elim
  · split at f
    · rename_i e
      split at f
      · rename_i e2
        cases ry
        cases rx
        obtain ⟨u, z1, z2⟩ := hr.obj _ _ e
        cases z2 with
        | lst ra =>
          obtain ⟨v, ev, rd⟩ := ra.atI e2
          exact .inl ⟨_, _, _, _, rfl, rfl, SqL.of z1, ev, q _ M _ H f Gr.refl rd hr⟩
      · exact f.elim
    · exact f.elim
  · exact f.elim
theorem d_ix (h1 : Ex X a ta A) (h2 : Ex X b tb B) (hs : PlainIx b := by exact fun _ _ => rfl) : Ex X (.Subscript a b pos) (tOp (fun x y H Q => rIxL X.K x y H Q ∨ (rIxT X.K x y H Q ∨ rIxS x y H Q)) ta tb) (dOp gIx A B) :=
  ⟨pe_ix (ix_or ix_list (ix_or ix_tup ix_str)) h1.p h2.p hs, RE.op RO.ix h1.r h2.r⟩
/-! ## slices -/
abbrev DP := DEnv → MH → (Option Int → MH → Prop) → Prop
def RP (K : PySem.W.Frag) (t : TO) (F : DP) : Prop := ∀ (S : Addr → Bool) (σ : L2.St) (H : Hp) (env : DEnv) (M : MH) (Q : Option Int → Hp → Prop) (R : Option Int → MH → Prop), RN K (hid S M H) σ env → HR K S M H → F env M R →
  (∀ b M' H', R b M' → Gr S M H M' H' → HR K S M' H' → Q b H') → t σ H Q
structure Pt (X : Cx) (e : Option Expr) (t : TO) (F : DP) : Prop where
  p : PO X e t
  r : RP X.K t F
def dPNone : DP := fun _ M Q => Q none M
def dPSome (A : DE) : DP := fun env M Q => A env M fun x M1 => match x with | .int i => Q (some i) M1 | _ => False
theorem p_none : Pt X none tNoPart dPNone := ⟨po_none, fun _ _ H _ M _ _ _ hr f q => q none M H f Gr.refl hr⟩
theorem p_some (h : Ex X a ta A) : Pt X (some a) (tPart ta) (dPSome A) := by
  refine ⟨po_some h.p, ?_⟩
  intro S σ H env M Q R rn hr f q
  refine h.r S σ H env M _ _ rn hr f fun x M1 v H1 f1 g1 r1 hr1 => ?_
  split at f1
  · cases r1
    exact ⟨_, rfl, q _ M1 H1 f1 g1 hr1⟩
  · exact f1.elim
def cutD {α : Type} (xs : List α) (lo hi : Option Int) : List α := (xs.drop (HT.sIx xs.length 0 lo)).take (HT.sIx xs.length xs.length hi - HT.sIx xs.length 0 lo)
def gSl (x : Dv) (lo hi : Option Int) (M : MH) (Q : DK) : Prop := match x with
  | .tup ds => Q (.tup (cutD ds lo hi)) M
  | .lst ds => Q (.lst (cutD ds lo hi)) M
  | .scr ns => Q (.lst ((cutD ns lo hi).map .int)) M
  | .str z => z.length ≤ sizeLine ∧ Q (.str (cutS z lo hi)) M
  | .ref p => match M p with
    | some (.lst ds) => Q (.lst (cutD ds lo hi)) M
    | _ => False
  | _ => False
def dSl (A : DE) (L U : DP) : DE := fun env M Q => A env M fun x M1 => L env M1 fun lo M2 => U env M2 fun hi M3 => gSl x lo hi M3 Q
theorem RDs.cut {K : PySem.W.Frag} {G : Hp} {vs : List V} {ds : List Dv} (h : RDs K G vs ds) (lo hi : Option Int) : RDs K G (cutV vs lo hi) (cutD ds lo hi) := by
  unfold cutV cutD
  rw [h.len]
  exact (h.drop _).take _
theorem cutD_all {α : Type} {xs : List α} {lo hi : Option Int} (h : HT.sIx xs.length 0 lo = 0 ∧ HT.sIx xs.length xs.length hi = xs.length) : cutD xs lo hi = xs := by
  unfold cutD
  rw [h.1, h.2, List.drop_zero, Nat.sub_zero, List.take_length]
theorem sl_or {r u : V → Option Int → Option Int → Hp → VK → Prop} (h1 : SlR X r) (h2 : SlR X u) : SlR X (fun x lo hi H Q => r x lo hi H Q ∨ u x lo hi H Q) := by
  intro pins s σ H x v vl vu lo hi sl Q I rx hs pl pu h
  rcases h with h | h
  · exact h1 pins s σ H x v vl vu lo hi sl Q I rx hs pl pu h
  · exact h2 pins s σ H x v vl vu lo hi sl Q I rx hs pl pu h
theorem RDs.ints {K : PySem.W.Frag} {G : Hp} : ∀ ns : List Int, RDs K G (ns.map V.int) (ns.map Dv.int)
  | [] => .nil
  | n :: r => .cons (.int n) (RDs.ints r)
theorem cut_ints (ns : List Int) (l u : Option Int) : cutV (ns.map V.int) l u = (cutD ns l u).map V.int := by
  unfold cutV cutD
  rw [List.length_map, List.map_take, List.map_drop]
theorem d_slice {lo hi : Option Expr} {p2 : Pos} {tl th : TO} {L U : DP} (h : Ex X e te F) (hl : Pt X lo tl L) (hu : Pt X hi th U) :
    Ex X (.Subscript e (.Slice lo hi none p2) pos) (tSl (fun x lo hi H Q => rSlL X.K x lo hi H Q ∨ (rSlA X.K x lo hi H Q ∨ rSlS x lo hi H Q)) te tl th) (dSl F L U) := by
  refine ⟨pe_slice (sl_or sl_list (sl_or sl_tupA sl_str)) h.p hl.p hu.p, ?_⟩
  intro S σ H env M Q R rn hr f q
  refine h.r S σ H env M _ _ rn hr f fun x M1 v H1 f1 g1 r1 hr1 => ?_
  refine hl.r S σ H1 env M1 _ _ (rn.same g1.same) hr1 f1 fun l M2 H2 f2 g2 hr2 => ?_
  refine hu.r S σ H2 env M2 _ _ (rn.same (g1.trans g2).same) hr2 f2 fun u M3 H3 f3 g3 hr3 => ?_
  have r3 := RD.same (g2.trans g3).same _ _ r1
  have gg := (g1.trans g2).trans g3
  unfold gSl at f3
  split at f3
  · cases r3 with
    | tup ha ra =>
      refine .inr (.inl ⟨_, _, rfl, sqT_hid ha, fun z => ?_, fun _ p hp => ?_⟩)
      · rw [ra.len] at z
        rw [cutD_all z] at f3
        exact q _ M3 _ H3 f3 gg (.tup ha ra) hr3
      · obtain ⟨g4, hr4, rd⟩ := RD.newT hr3 hp (ra.cut l u)
        exact q _ M3 _ _ f3 (gg.trans g4) rd hr4
  · cases r3 with
    | lst ha ra =>
      refine .inl ⟨_, _, rfl, SqL.of (hid_some ha).1, fun p hp => ?_⟩
      obtain ⟨g4, hr4, rd⟩ := RD.newL hr3 hp (ra.cut l u)
      exact q _ M3 _ _ f3 (gg.trans g4) rd hr4
  · cases r3 with
    | scr ha =>
      refine .inl ⟨_, _, rfl, sqL_hid ha, fun p hp => ?_⟩
      rw [cut_ints]
      obtain ⟨g4, hr4, rd⟩ := RD.newL hr3 hp (RDs.ints (K := X.K) (G := hid S M3 H3) (cutD _ l u))
      exact q _ M3 _ _ f3 (gg.trans g4) rd hr4
  · cases r3
    exact .inr (.inr ⟨_, rfl, f3.1, q _ M3 _ H3 f3.2 gg (.str _) hr3⟩)
  · cases r3
    split at f3
    · rename_i e
      obtain ⟨w, z1, z2⟩ := hr3.obj _ _ e
      cases z2 with
      | lst ra =>
        refine .inl ⟨_, _, rfl, SqL.of z1, fun p hp => ?_⟩
        obtain ⟨g4, hr4, rd⟩ := RD.newL hr3 hp (ra.cut l u)
        exact q _ M3 _ _ f3 (gg.trans g4) rd hr4
    · exact f3.elim
  · exact f3.elim
end
end Vk
set_option linter.unusedVariables false
namespace Vk
open PySem PySem.Spec PyProof.Rows L2
/-! # The data layer: calls -/
abbrev DF := List Dv → MH → DK → Prop
def spD (K : PySem.W.Frag) (F : DF) : Sp := fun vs H Q _ => ∃ (S : Addr → Bool) (ds : List Dv) (M : MH) (R : DK), RDs K (hid S M H) vs ds ∧ HR K S M H ∧ F ds M R ∧
  ∀ d M' v H', R d M' → Gr S M H M' H' → RD K (hid S M' H') v d → HR K S M' H' → Q v H'
structure DCal (P : Program) (w : World) (K : PySem.W.Frag) (mg : Str → Option Value) (base : Heap) (x : Str) (k : Nat) (F : DF) : Prop where
  ex : ∃ (f : Addr) (fd : FuncData) (ps : List Str), Gk P w K mg base k f fd ps (spD K F) ∧ mg x = some (.ref f) ∧ PySem.W.keepIn K (.ref f) = true ∧ Binds K fd ps []
/-- a def by its address (a value) -/
structure DAt (P : Program) (w : World) (K : PySem.W.Frag) (mg : Str → Option Value) (base : Heap) (f : Addr) (k : Nat) (F : DF) : Prop where
  ex : ∃ (fd : FuncData) (ps : List Str), Gk P w K mg base k f fd ps (spD K F) ∧ PySem.W.keepIn K (.ref f) = true ∧ Binds K fd ps []
def dstart (N : List Str) (ds : List Dv) : DEnv := ds.map some ++ List.replicate (N.length - ds.length) none
theorem RN.start {K : PySem.W.Frag} {G : Hp} {vs : List V} {ds : List Dv} (N : List Str) (h : RDs K G vs ds) : RN K G (L2.start N vs) (dstart N ds) := by
  refine ⟨by unfold L2.start dstart; rw [List.length_append, List.length_append, List.length_map, List.length_map, List.length_replicate, List.length_replicate, h.len], fun i d e => ?_⟩
  unfold dstart at e
  by_cases c : i < ds.length
  · rw [List.getElem?_append_left (by rw [List.length_map]; exact c), List.getElem?_map] at e
    cases e2 : ds[i]? with
    | none => rw [e2] at e; cases e
    | some d' =>
      rw [e2] at e
      cases e
      obtain ⟨v, ev, rd⟩ := h.at e2
      refine ⟨v, ?_, rd⟩
      unfold L2.start
      rw [List.getElem?_append_left (by rw [List.length_map, h.len]; exact c), List.getElem?_map, ev]
      rfl
  · rw [List.getElem?_append_right (by rw [List.length_map]; omega), List.getElem?_replicate] at e
    split at e
    · cases e
    · cases e
/-- a def by its body -/
theorem dfun {P : Program} {w : World} {K : PySem.W.Frag} {mg : Str → Option Value} {base : Heap} {k : Nat} {f : Addr} {fd : FuncData} {ps N : List Str} {x qual : Str} {st : Stmt} {F : DF}
    (Fn : L2.Fun K x qual st f fd) (S : FnScope N ps (defScope st)) (len : ∀ ds M R, F ds M R → ds.length = ps.length)
    (body : ∀ (cd : Value) (A : Around) (out : List Env) (s : Shared) (H : Hp) (E : XK), (A.deeper (envOfC qual (defScope st) s.heap.objs.size f cd)).guards = some [] → Room k (A.deeper (envOfC qual (defScope st) s.heap.objs.size f cd)) →
      ∃ t G, Ss (cxOf CX0 P w K mg base N qual (defScope st) f cd A out s H E).nox (defBody st) t G ∧
        ∀ ds M (R : DK), F ds M R → G { nx := fun _ M' => R .non M', rt := R } (dstart N ds) M) : Gk P w K mg base (k + 1) f fd ps (spD K F) := by
  refine okG Fn S (fun vs H Q E h => ?_) (fun cd A out s H vs Q E hg hr h => ?_)
  · obtain ⟨S', ds, M, R, h1, _, h2, _⟩ := h
    rw [h1.len]
    exact len ds M R h2
  · obtain ⟨S', ds, M, R, h1, hr', h2, q⟩ := h
    obtain ⟨t, G, hs, hb⟩ := body cd A out s H E hg hr
    refine ⟨t, hs.p, ?_⟩
    refine hs.r S' (L2.start N vs) H (dstart N ds) M _ _ (RN.start N h1) hr' (hb ds M R h2) ⟨fun env' M' σ' H' e g rn hr2 => ?_, fun _ _ _ _ e _ _ _ => e.elim, fun _ _ _ _ e _ _ _ => e.elim, fun d M' v H' e g rd hr2 => q d M' v H' e g rd hr2⟩
    exact q .non M' .non H' e g .non hr2
section
variable {X : Cx} {a b c e : Expr} {es : List Expr} {ta tb tc te : TE} {tt : TA} {n k j : Nat} {A B C D : DE} {G : DA} {pos p : Pos} {F : DF} {x : Str}
def dCall (F : DF) (G : DA) : DE := fun env M Q => G env M fun ds M1 => F ds M1 Q
theorem RE.call {K : PySem.W.Frag} (h : RA K tt n G) : RE K (tCall (spD K F) [] E0 tt) (dCall F G) := by
  intro S σ H env M Q R rn hr f q
  refine h S σ H env M _ _ rn hr f fun ds M1 vs H1 f1 l1 g1 r1 hr1 => ?_
  show spD K F (vs ++ []) H1 Q E0
  rw [List.append_nil]
  exact ⟨S, ds, M1, R, r1, hr1, f1, fun d M' v H' h k rd hr' => q d M' v H' h (g1.trans k) rd hr'⟩
theorem d_call (hg : X.A.guards = some []) (C : DCal X.prog X.w X.K X.mg X.base x k F) (hr : Room j X.A) (gl : Gl X x) (h : As X (e :: es) tt n G) (hk : k ≤ j := by decide) (dbg : (x == ("__debug__" : Str)) = false := by decide)
    (st : starEach (e :: es) X.env = (false, eval e X.env) :: starEach es X.env := by rfl) (pl : (backTo pos (starEach es X.env)).any (·.1) = false := by rfl) : Ex X (.Call (.Name x p) (e :: es) [] pos) (tCall (spD X.K F) [] E0 tt) (dCall F G) := by
  obtain ⟨f, fd, ps, h1, h2, h3, h4⟩ := C.ex
  exact ⟨pe_callG hg h1 (hr.mono hk) gl h2 h3 h4 h.p dbg st pl, RE.call h.r⟩
/-- f() -/
theorem d_call0 (hg : X.A.guards = some []) (C : DCal X.prog X.w X.K X.mg X.base x k F) (hr : Room j X.A) (gl : Gl X x) (hk : k ≤ j := by decide) (dbg : (x == ("__debug__" : Str)) = false := by decide) :
    Ex X (.Call (.Name x p) [] [] pos) (tCall (spD X.K F) [] E0 tNil) (dCall F dANil) := by
  obtain ⟨f, fd, ps, h1, h2, h3, h4⟩ := C.ex
  refine ⟨⟨fun pins s σ H Q I h => ?_⟩, RE.call a_nil.r⟩
  refine wpAny_Call_Name_kw (ld_glob I gl h2 ?_ dbg)
  exact PySem.W.callWith_K0 I.kIn h3 (runG (us := []) hg h1 (hr.mono hk) h4 I .nil h)
/-- a local name that holds a def -/
def tCallD (i : Nat) (P : Addr → Sp → Prop) (t : TA) : TE := fun σ H Q => ∃ f sp, σ[i]? = some (some (.ref f)) ∧ P f sp ∧ t σ H fun vs H1 => sp vs H1 Q E0
def dCallV (i : Nat) (P : Addr → DF → Prop) (G : DA) : DE := fun env M Q => ∃ f F, env[i]? = some (some (.ref f)) ∧ P f F ∧ G env M fun ds M1 => F ds M1 Q
theorem d_callv (i : Nat) (hg : X.A.guards = some []) (hr : Room j X.A) (h : As X (e :: es) tt n G) (hN : X.N[i]? = some x := by rfl) (hv : Vis X.env.scope x := by first | exact Or.inl rfl | exact Or.inr (Or.inl rfl) | exact Or.inr (Or.inr rfl))
    (hd : (x == ("__debug__" : Str)) = false := by decide) (hcd : (x == ("__classdict__" : Str)) = false := by decide)
    (st : starEach (e :: es) X.env = (false, eval e X.env) :: starEach es X.env := by rfl) (pl : (backTo pos (starEach es X.env)).any (·.1) = false := by rfl) :
    Ex X (.Call (.Name x p) (e :: es) [] pos) (tCallD i (fun f sp => ∃ k F, k ≤ j ∧ DAt X.prog X.w X.K X.mg X.base f k F ∧ sp = spD X.K F) tt) (dCallV i (fun f F => ∃ k, k ≤ j ∧ DAt X.prog X.w X.K X.mg X.base f k F) G) := by
  refine ⟨⟨fun pins s σ H Q I h0 => ?_⟩, ?_⟩
  · obtain ⟨f, sp, hs, ⟨k, F, hk, ⟨fd, ps, h1, h3, h4⟩, rfl⟩, ht⟩ := h0
    refine wpAny_Call_Name_kw (thn ((pe_var (pos := p) hN hv hd hcd).run pins s σ H (fun v H1 => v = .ref f ∧ H1 = H) I ⟨.ref f, hs, rfl, rfl⟩) fun u s1 ⟨v, H1, I1, r1, q1⟩ => ?_)
    obtain ⟨rfl, rfl⟩ := q1
    cases r1
    refine PySem.W.callWith_K (h₀ := X.base) I.ok.mod.kin h3 (thn (h.p.run pos pins s1 σ _ _ I1 ht) fun us s2 ⟨vs, H2, I2, r, q⟩ => ⟨I2.kIn, ?_⟩) st pl
    exact runG hg h1 (hr.mono hk) h4 I2 r q
  · intro S σ H env M Q R rn hr' f q
    obtain ⟨f0, F, he, ⟨k, hk, hat⟩, f⟩ := f
    obtain ⟨v, ev, rd⟩ := rn.at_ i _ he
    cases rd
    refine ⟨f0, spD X.K F, ev, ⟨k, F, hk, hat, rfl⟩, ?_⟩
    refine h.r S σ H env M _ _ rn hr' f fun ds M1 vs H1 f1 l1 g1 r1 hr1 => ?_
    exact ⟨S, ds, M1, R, r1, hr1, f1, fun d M' v H' h k rd hr' => q d M' v H' h (g1.trans k) rd hr'⟩
/-! ## built-in ones -/
abbrev DL := List Dv → MH → DK → Prop
def RC (K : PySem.W.Frag) (r : List V → Hp → VK → Prop) (g : DL) : Prop := ∀ (S : Addr → Bool) (H : Hp) (vs : List V) (ds : List Dv) (M : MH) (Q : VK) (R : DK), RDs K (hid S M H) vs ds → HR K S M H → g ds M R →
  (∀ d M' v H', R d M' → Gr S M H M' H' → RD K (hid S M' H') v d → HR K S M' H' → Q v H') → r vs H Q
def dCB (g : DL) (G : DA) : DE := fun env M Q => G env M fun ds M1 => g ds M1 Q
theorem RE.cb {K : PySem.W.Frag} {r : List V → Hp → VK → Prop} {g : DL} (o : RC K r g) (h : RA K tt n G) : RE K (tCB r tt) (dCB g G) := by
  intro S σ H env M Q R rn hr f q
  refine h S σ H env M _ _ rn hr f fun ds M1 vs H1 f1 l1 g1 r1 hr1 => ?_
  exact o S H1 vs ds M1 Q R r1 hr1 f1 fun d M' v H' h k rd hr' => q d M' v H' h (g1.trans k) rd hr'
structure Cb (X : Cx) (f : Value) (r : List V → Hp → VK → Prop) (g : DL) : Prop where
  p : CallR X f r
  r : RC X.K r g
theorem d_cb {id : String} {r : List V → Hp → VK → Prop} {g : DL} (o : Cb X (.builtin id) r g) (hg : Gl X x) (hm : X.mg x = none) (hv : bootBuiltins x = some (.builtin id)) (h : As X (e :: es) tt n G) (hn : x ≠ "__name__" := by decide) (hdb : (x == ("__debug__" : Str)) = false := by decide)
    (he : starEach (e :: es) X.env = (false, eval e X.env) :: starEach es X.env := by rfl) (hpl : (backTo pos (starEach es X.env)).any (·.1) = false := by rfl) : Ex X (.Call (.Name x p) (e :: es) [] pos) (tCB r tt) (dCB g G) :=
  ⟨pe_callB o.p hg hm hv h.p hn hdb he hpl, RE.cb o.r h.r⟩
theorem d_cty {T : String} {r : List V → Hp → VK → Prop} {g : DL} (o : Cb X (.type T) r g) (hg : Gl X x) (hm : X.mg x = none) (hv : bootBuiltins x = some (.type T)) (h : As X (e :: es) tt n G) (hn : x ≠ "__name__" := by decide) (hdb : (x == ("__debug__" : Str)) = false := by decide)
    (he : starEach (e :: es) X.env = (false, eval e X.env) :: starEach es X.env := by rfl) (hpl : (backTo pos (starEach es X.env)).any (·.1) = false := by rfl) : Ex X (.Call (.Name x p) (e :: es) [] pos) (tCB r tt) (dCB g G) :=
  ⟨pe_callTy o.p hg hm hv h.p hn hdb he hpl, RE.cb o.r h.r⟩
def gLen : DL := fun ds M Q => match ds with
  | [.tup xs] => Q (.int (xs.length : Nat)) M
  | [.lst xs] => Q (.int (xs.length : Nat)) M
  | [.scr xs] => Q (.int (xs.length : Nat)) M
  | [.str y] => y.length ≤ sizeLine ∧ Q (.int (y.length : Nat)) M
  | [.ref p] => match M p with
    | some (.lst xs) => Q (.int (xs.length : Nat)) M
    | _ => False
  | _ => False
theorem RDs.one {K : PySem.W.Frag} {H : Hp} {vs : List V} {d : Dv} (h : RDs K H vs [d]) : ∃ v, vs = [v] ∧ RD K H v d := by
  cases h with
  | cons a b => cases b; exact ⟨_, rfl, a⟩
theorem RDs.two {K : PySem.W.Frag} {H : Hp} {vs : List V} {d e : Dv} (h : RDs K H vs [d, e]) : ∃ v w, vs = [v, w] ∧ RD K H v d ∧ RD K H w e := by
  cases h with
  | cons a b => cases b with
    | cons b c => cases c; exact ⟨_, _, rfl, a, b⟩
theorem c_len : Cb X (.builtin "len") (fun xs H Q => ∃ x n, xs = [x] ∧ LenV X.K x H n ∧ Q (.int n) H) gLen := by
  refine ⟨call_len, ?_⟩
  intro S H vs ds M Q R rs hr f q
  unfold gLen at f
  split at f
  · obtain ⟨v, rfl, rd⟩ := rs.one
    cases rd with
    | tup ha ra => exact ⟨_, _, rfl, .inr ⟨_, sqT_hid ha, rfl⟩, q _ M _ H f Gr.refl (by rw [ra.len]; exact .int _) hr⟩
  · obtain ⟨v, rfl, rd⟩ := rs.one
    cases rd with
    | lst ha ra => exact ⟨_, _, rfl, .inl ⟨_, SqL.of (hid_some ha).1, rfl⟩, q _ M _ H f Gr.refl (by rw [ra.len]; exact .int _) hr⟩
  · obtain ⟨v, rfl, rd⟩ := rs.one
    cases rd with
    | scr ha => exact ⟨_, _, rfl, .inl ⟨_, sqL_hid ha, rfl⟩, q _ M _ H f Gr.refl (by rw [List.length_map]; exact .int _) hr⟩
  · obtain ⟨v, rfl, rd⟩ := rs.one
    cases rd
    exact ⟨_, _, rfl, ⟨f.1, rfl⟩, q _ M _ H f.2 Gr.refl (.int _) hr⟩
  · split at f
    · rename_i e
      obtain ⟨v, rfl, rd⟩ := rs.one
      cases rd
      obtain ⟨w, z1, z2⟩ := hr.obj _ _ e
      cases z2 with
      | lst ra => exact ⟨_, _, rfl, .inl ⟨_, SqL.of z1, rfl⟩, q _ M _ H f Gr.refl (by rw [ra.len]; exact .int _) hr⟩
    · exact f.elim
  · exact f.elim
def gTupOf : DL := fun ds M Q => match ds with
  | [.tup xs] => Q (.tup xs) M
  | [.lst xs] => Q (.tup xs) M
  | [.scr ns] => Q (.tup (ns.map .int)) M
  | [.ref p] => match M p with
    | some (.lst xs) => Q (.tup xs) M
    | _ => False
  | _ => False
theorem c_tuple : Cb X (.type "tuple") (fun xs H Q => ∃ p ys, xs = [.ref p] ∧ ((SqL X.K H p ys ∧ ∀ l, H l = none → Q (.ref l) (upd H l (.tup ys))) ∨ (SqT X.K H p ys ∧ Q (.ref p) H))) gTupOf := by
  refine ⟨call_tuple_of, ?_⟩
  intro S H vs ds M Q R rs hr f q
  unfold gTupOf at f
  split at f
  · obtain ⟨v, rfl, rd⟩ := rs.one
    cases rd with
    | tup ha ra => exact ⟨_, _, rfl, .inr ⟨sqT_hid ha, q _ M _ H f Gr.refl (.tup ha ra) hr⟩⟩
  · obtain ⟨v, rfl, rd⟩ := rs.one
    cases rd with
    | lst ha ra =>
      refine ⟨_, _, rfl, .inl ⟨SqL.of (hid_some ha).1, fun l hl => ?_⟩⟩
      obtain ⟨g, hr', rd⟩ := RD.newT hr hl ra
      exact q _ M _ _ f g rd hr'
  · obtain ⟨v, rfl, rd⟩ := rs.one
    cases rd with
    | scr ha =>
      refine ⟨_, _, rfl, .inl ⟨sqL_hid ha, fun l hl => ?_⟩⟩
      obtain ⟨g, hr', rd⟩ := RD.newT hr hl (RDs.ints (K := X.K) (G := hid S M H) _)
      exact q _ M _ _ f g rd hr'
  · split at f
    · rename_i e
      obtain ⟨v, rfl, rd⟩ := rs.one
      cases rd
      obtain ⟨w, z1, z2⟩ := hr.obj _ _ e
      cases z2 with
      | lst ra =>
        refine ⟨_, _, rfl, .inl ⟨SqL.of z1, fun l hl => ?_⟩⟩
        obtain ⟨g, hr', rd⟩ := RD.newT hr hl ra
        exact q _ M _ _ f g rd hr'
    · exact f.elim
  · exact f.elim
def gLstOf : DL := fun ds M Q => match ds with
  | [.tup xs] => Q (.lst xs) M
  | [.lst xs] => Q (.lst xs) M
  | [.scr ns] => Q (.lst (ns.map .int)) M
  | [.ref p] => match M p with
    | some (.lst xs) => Q (.lst xs) M
    | _ => False
  | _ => False
theorem c_list : Cb X (.type "list") (fun xs H Q => ∃ p ys, xs = [.ref p] ∧ (SqL X.K H p ys ∨ SqT X.K H p ys) ∧ ∀ l, H l = none → Q (.ref l) (upd H l (.lst ys))) gLstOf := by
  refine ⟨call_list_of, ?_⟩
  intro S H vs ds M Q R rs hr f q
  unfold gLstOf at f
  split at f
  · obtain ⟨v, rfl, rd⟩ := rs.one
    cases rd with
    | tup ha ra =>
      refine ⟨_, _, rfl, .inr (sqT_hid ha), fun l hl => ?_⟩
      obtain ⟨g, hr', rd⟩ := RD.newL hr hl ra
      exact q _ M _ _ f g rd hr'
  · obtain ⟨v, rfl, rd⟩ := rs.one
    cases rd with
    | lst ha ra =>
      refine ⟨_, _, rfl, .inl (SqL.of (hid_some ha).1), fun l hl => ?_⟩
      obtain ⟨g, hr', rd⟩ := RD.newL hr hl ra
      exact q _ M _ _ f g rd hr'
  · obtain ⟨v, rfl, rd⟩ := rs.one
    cases rd with
    | scr ha =>
      refine ⟨_, _, rfl, .inl (sqL_hid ha), fun l hl => ?_⟩
      obtain ⟨g, hr', rd⟩ := RD.newL hr hl (RDs.ints (K := X.K) (G := hid S M H) _)
      exact q _ M _ _ f g rd hr'
  · split at f
    · rename_i e
      obtain ⟨v, rfl, rd⟩ := rs.one
      cases rd
      obtain ⟨w, z1, z2⟩ := hr.obj _ _ e
      cases z2 with
      | lst ra =>
        refine ⟨_, _, rfl, .inl (SqL.of z1), fun l hl => ?_⟩
        obtain ⟨g, hr', rd⟩ := RD.newL hr hl ra
        exact q _ M _ _ f g rd hr'
    · exact f.elim
  · exact f.elim
theorem rds_bools {K : PySem.W.Frag} {G : Hp} : ∀ {bs : List Bool} {vs : List V}, RDs K G vs (bs.map Dv.bl) → vs = bs.map V.bl
  | [], _, h => by cases h; rfl
  | b :: r, _, h => by
    cases h with
    | cons a t => cases a; rw [rds_bools t]; rfl
def gAll (k : List Bool → Bool) : DL := fun ds M Q => ∃ bs : List Bool, ds = [.lst (bs.map .bl)] ∧ Q (.bl (k bs)) M
theorem c_all (hc : X.calm = true) : Cb X (.builtin "all") (rAll X.K) (gAll fun bs => bs.all id) := by
  refine ⟨cr_all hc, ?_⟩
  intro S H vs ds M Q R rs hr f q
  obtain ⟨bs, rfl, f⟩ := f
  obtain ⟨v, rfl, rd⟩ := rs.one
  cases rd with
  | lst ha ra =>
    rw [rds_bools ra] at ha
    exact ⟨_, bs, rfl, SqL.of (hid_some ha).1, q _ M _ H f Gr.refl (.bl _) hr⟩
theorem c_any (hc : X.calm = true) : Cb X (.builtin "any") (rAny X.K) (gAll fun bs => bs.any id) := by
  refine ⟨cr_any hc, ?_⟩
  intro S H vs ds M Q R rs hr f q
  obtain ⟨bs, rfl, f⟩ := f
  obtain ⟨v, rfl, rd⟩ := rs.one
  cases rd with
  | lst ha ra =>
    rw [rds_bools ra] at ha
    exact ⟨_, bs, rfl, SqL.of (hid_some ha).1, q _ M _ H f Gr.refl (.bl _) hr⟩
def gOrd : DL := fun ds M Q => match ds with | [.str y] => y.length = 1 ∧ Q (.int (y.cps.getD 0 0 : Nat)) M | _ => False
theorem c_ord : Cb X (.builtin "ord") (fun xs H Q => ∃ x, xs = [.str x] ∧ x.length = 1 ∧ Q (.int (x.cps.getD 0 0 : Nat)) H) gOrd := by
  refine ⟨call_ord, ?_⟩
  intro S H vs ds M Q R rs hr f q
  unfold gOrd at f
  split at f
  · obtain ⟨v, rfl, rd⟩ := rs.one
    cases rd
    exact ⟨_, rfl, f.1, q _ M _ H f.2 Gr.refl (.int _) hr⟩
  · exact f.elim
def gInt : DL := fun ds M Q => match ds with | [.int i] => Q (.int i) M | [.bl k] => Q (.int (if k then 1 else 0)) M | _ => False
theorem c_int : Cb X (.type "int") (fun xs H Q => (∃ i, xs = [.int i] ∧ Q (.int i) H) ∨ ∃ k, xs = [.bl k] ∧ Q (.int (if k then 1 else 0)) H) gInt := by
  refine ⟨call_int1, ?_⟩
  intro S H vs ds M Q R rs hr f q
  unfold gInt at f
  split at f
  · obtain ⟨v, rfl, rd⟩ := rs.one
    cases rd
    exact .inl ⟨_, rfl, q _ M _ H f Gr.refl (.int _) hr⟩
  · obtain ⟨v, rfl, rd⟩ := rs.one
    cases rd
    exact .inr ⟨_, rfl, q _ M _ H f Gr.refl (.int _) hr⟩
  · exact f.elim
def gII (k : Int → Int → Int) : DL := fun ds M Q => match ds with | [.int i, .int j] => Q (.int (k i j)) M | _ => False
theorem c_max (hc : X.calm = true) : Cb X (.builtin "max") (fun xs H Q => ∃ i j, xs = [.int i, .int j] ∧ Q (.int (if j > i then j else i)) H) (gII fun i j => if j > i then j else i) := by
  refine ⟨call_max2 hc, ?_⟩
  intro S H vs ds M Q R rs hr f q
  unfold gII at f
  split at f
  · obtain ⟨v, w, rfl, rd, rd2⟩ := rs.two
    cases rd
    cases rd2
    exact ⟨_, _, rfl, q _ M _ H f Gr.refl (.int _) hr⟩
  · exact f.elim
theorem c_min (hc : X.calm = true) : Cb X (.builtin "min") (fun xs H Q => ∃ i j, xs = [.int i, .int j] ∧ Q (.int (if j < i then j else i)) H) (gII fun i j => if j < i then j else i) := by
  refine ⟨call_min2 hc, ?_⟩
  intro S H vs ds M Q R rs hr f q
  unfold gII at f
  split at f
  · obtain ⟨v, w, rfl, rd, rd2⟩ := rs.two
    cases rd
    cases rd2
    exact ⟨_, _, rfl, q _ M _ H f Gr.refl (.int _) hr⟩
  · exact f.elim
/-! ## kinds -/
def tyN (M : MH) : Dv → Option String
  | .non => some "NoneType"
  | .bl _ => some "bool"
  | .int _ => some "int"
  | .str _ => some "str"
  | .tup _ => some "tuple"
  | .lst _ => some "list"
  | .scr _ => some "list"
  | .ref p => match M p with
    | some (.lst _) => some "list"
    | some (.dK _) => some "dict"
    | _ => none
  | .ty _ => none
theorem RD.ty_ {K : PySem.W.Frag} {S : Addr → Bool} {M : MH} {H : Hp} {v : V} {d : Dv} {n : String} (hr : HR K S M H) (h : RD K (hid S M H) v d) (e : tyN M d = some n) : TyX K H v (.type n) := by
  cases h with
  | non => cases e; exact .base .non
  | bl b => cases e; exact .base (.bl b)
  | int i => cases e; exact .base (.int i)
  | str x => cases e; exact .base (.str x)
  | tup ha ra => cases e; exact sqT_ty (sqT_hid ha)
  | lst ha ra => cases e; exact .base (.lst (hid_some ha).1)
  | scr ha =>
    cases e
    rcases sqL_hid ha with (h | ⟨o, h⟩) | ⟨o, its, n, h1, h2, _⟩
    · exact .base (.lst h)
    · exact .base (.frz h)
    · exact .kList h1 h2
  | ref a =>
    unfold tyN at e
    simp only at e
    split at e
    · rename_i e1
      cases e
      obtain ⟨w, z1, z2⟩ := hr.obj _ _ e1
      cases z2
      exact .base (.lst z1)
    · rename_i e1
      cases e
      obtain ⟨w, z1, z2⟩ := hr.obj _ _ e1
      cases z2
      exact .base (.dK z1)
    · cases e
  | ty m => cases e
def kitv (a n : String) : Bool := a == n || (a == "bool" && n == "int")
theorem kit_names {K : PySem.W.Frag} {a n : String} (ha : a ∈ ["NoneType", "bool", "int", "str", "tuple", "list", "dict"]) (hn : n ∈ ["bool", "int", "str", "tuple", "list", "dict"]) : PySem.W.kitOne K (.type a) (.type n) = some (kitv a n) := by
  simp only [List.mem_cons, List.not_mem_nil, or_false] at ha hn
  rcases ha with rfl | rfl | rfl | rfl | rfl | rfl | rfl <;> rcases hn with rfl | rfl | rfl | rfl | rfl | rfl <;> exact kit_ty (by decide +kernel)
theorem tyN_mem {M : MH} {d : Dv} {a : String} (e : tyN M d = some a) : a ∈ ["NoneType", "bool", "int", "str", "tuple", "list", "dict"] := by
  unfold tyN at e
  split at e
  all_goals first
    | (cases e; done)
    | (cases e; decide)
    | (split at e <;> first | (cases e; done) | (cases e; decide))
def gIsi : DL := fun ds M Q => match ds with
  | [x, .ty n] => n ∈ ["bool", "int", "str", "tuple", "list", "dict"] ∧ match tyN M x with | some a => Q (.bl (kitv a n)) M | none => False
  | _ => False
theorem c_isi : Cb X (.builtin "isinstance") (rIsi X.K) gIsi := by
  refine ⟨call_isi, ?_⟩
  intro S H vs ds M Q R rs hr f q
  unfold gIsi at f
  split at f
  · obtain ⟨hn, f⟩ := f
    split at f
    · rename_i e
      obtain ⟨v, w, rfl, rd, rd2⟩ := rs.two
      cases rd2
      exact ⟨_, _, _, _, _, rfl, .ty _, rd.ty_ hr e, kit_names (tyN_mem e) hn, q _ M _ H f Gr.refl (.bl _) hr⟩
    · exact f.elim
  · exact f.elim
theorem d_tyname {x : Str} {n : String} {pos : Pos} (hg : Gl X x) (hm : X.mg x = none) (hv : bootBuiltins x = some (.type n)) (hn : x ≠ "__name__" := by decide) (hd : (x == ("__debug__" : Str)) = false := by decide) : Ex X (.Name x pos) (tC (.ty n)) (dC (.ty n)) :=
  ⟨pe_bltn (v := .ty n) hg hm hv rfl hn hd, RE.con fun _ => .ty n⟩
end
end Vk
set_option linter.unusedVariables false
namespace Vk
open PySem PySem.Spec PyProof.Rows L2
/-! # The data layer: statements -/
/-! ## targets -/
abbrev DG := Dv → DEnv → MH → (DEnv → MH → Prop) → Prop
abbrev DGs := List Dv → DEnv → MH → (DEnv → MH → Prop) → Prop
/-- ws: the slots that are written -/
def RG (K : PySem.W.Frag) (g : TG) (ws : List Nat) (F : DG) : Prop := ∀ (S : Addr → Bool) (σ : L2.St) (H : Hp) (v : V) (d : Dv) (env : DEnv) (M : MH) (Q : L2.St → Hp → Prop) (R : DEnv → MH → Prop),
  RD K (hid S M H) v d → RN K (hid S M H) σ env → HR K S M H → F d env M R →
  (∀ env' M' σ' H', R env' M' → Gr S M H M' H' → RN K (hid S M' H') σ' env' → HR K S M' H' → (σ'.length = σ.length ∧ ∀ i, i ∉ ws → σ'[i]? = σ[i]?) → Q σ' H') → g v σ H Q
def RGs (K : PySem.W.Frag) (g : TGs) (ws : List Nat) (F : DGs) : Prop := ∀ (S : Addr → Bool) (σ : L2.St) (H : Hp) (vs : List V) (ds : List Dv) (env : DEnv) (M : MH) (Q : L2.St → Hp → Prop) (R : DEnv → MH → Prop),
  RDs K (hid S M H) vs ds → RN K (hid S M H) σ env → HR K S M H → F ds env M R →
  (∀ env' M' σ' H', R env' M' → Gr S M H M' H' → RN K (hid S M' H') σ' env' → HR K S M' H' → (σ'.length = σ.length ∧ ∀ i, i ∉ ws → σ'[i]? = σ[i]?) → Q σ' H') → g vs σ H Q
structure Tg (X : Cx) (e : Expr) (g : TG) (ws : List Nat) (F : DG) : Prop where
  p : PG X e g
  r : RG X.K g ws F
structure Tgs (X : Cx) (es : List Expr) (g : TGs) (ws : List Nat) (F : DGs) : Prop where
  p : PGs X es g
  r : RGs X.K g ws F
def sName (i : Nat) : DG := fun d env M Q => Q (env.set i (some d)) M
def sNil : DGs := fun ds env M Q => match ds with | [] => Q env M | _ => False
def sCons (F : DG) (Fs : DGs) : DGs := fun ds env M Q => match ds with | d :: r => F d env M fun env1 M1 => Fs r env1 M1 Q | [] => False
def sTup (n : Nat) (Fs : DGs) : DG := fun d env M Q => match d with | .tup ds => ds.length = n ∧ Fs ds env M Q | _ => False
theorem RG.name {K : PySem.W.Frag} (i : Nat) : RG K (gName i) [i] (sName i) := by
  intro S σ H v d env M Q R rd rn hr f q
  exact q _ M _ H f Gr.refl (rn.set rd i) hr ⟨List.length_set, fun j hj => List.getElem?_set_ne (fun z => hj (by rw [z]; exact List.mem_singleton.mpr rfl))⟩
theorem RGs.nil {K : PySem.W.Frag} : RGs K gNil [] sNil := by
  intro S σ H vs ds env M Q R rs rn hr f q
  unfold sNil at f
  split at f
  · cases rs
    exact ⟨rfl, q _ M _ H f Gr.refl rn hr ⟨rfl, fun _ _ => rfl⟩⟩
  · exact f.elim
theorem RGs.cons {K : PySem.W.Frag} {g : TG} {gs : TGs} {ws ws' : List Nat} {F : DG} {Fs : DGs} (h1 : RG K g ws F) (h2 : RGs K gs ws' Fs) : RGs K (gCons g gs) (ws ++ ws') (sCons F Fs) := by
  intro S σ H vs ds env M Q R rs rn hr f q
  unfold sCons at f
  split at f
  · cases rs with
    | cons a b =>
      refine ⟨_, _, rfl, h1 S σ H _ _ env M _ _ a rn hr f fun env1 M1 σ1 H1 f1 g1 rn1 hr1 k1 => ?_⟩
      exact h2 S σ1 H1 _ _ env1 M1 _ _ (RDs.same g1.same _ _ b) rn1 hr1 f1 fun env2 M2 σ2 H2 f2 g2 rn2 hr2 k2 =>
        q env2 M2 σ2 H2 f2 (g1.trans g2) rn2 hr2 ⟨k2.1.trans k1.1, fun i hi => (k2.2 i fun z => hi (List.mem_append.mpr (.inr z))).trans (k1.2 i fun z => hi (List.mem_append.mpr (.inl z)))⟩
  · exact f.elim
theorem RG.tup {K : PySem.W.Frag} {n : Nat} {gs : TGs} {ws : List Nat} {Fs : DGs} (h : RGs K gs ws Fs) : RG K (gTup K n gs) ws (sTup n Fs) := by
  intro S σ H v d env M Q R rd rn hr f q
  unfold sTup at f
  split at f
  · cases rd with
    | tup ha ra => exact ⟨_, _, rfl, sqT_hid ha, by rw [ra.len]; exact f.1, h S σ H _ _ env M Q R ra rn hr f.2 q⟩
  · exact f.elim
section
variable {X : Cx} {a b c e : Expr} {es : List Expr} {ta tb tc te : TE} {ti tj : TT} {tt : TA} {n k j : Nat} {A B C D : DE} {I J : DT} {G : DA} {pos p : Pos} {F : DF} {x : Str} {st : Stmt} {sts us : List Stmt} {t u : TS} {T U : DS}
theorem g_name (i : Nat) (hN : X.N.Nodup) (hi : X.N[i]? = some x := by rfl) (hx : Loc X.env.scope x := by first | exact Or.inl rfl | exact Or.inr rfl) (hf : X.fn x = true ∨ X.env.scope.names.lookup x = some .local := by first | exact .inl rfl | exact .inr rfl | assumption) : Tg X (.Name x pos) (gName i) [i] (sName i) :=
  ⟨pg_name hN hi hx hf, RG.name i⟩
theorem gs_nil : Tgs X [] gNil [] sNil := ⟨pgs_nil, RGs.nil⟩
theorem gs_cons {g : TG} {gs : TGs} {ws ws' : List Nat} {F : DG} {Fs : DGs} (h1 : Tg X e g ws F) (h2 : Tgs X es gs ws' Fs)
    (hs : (assignEach (e :: es) X.env).map (·.2) = assign e X.env :: (assignEach es X.env).map (·.2) := by rfl) : Tgs X (e :: es) (gCons g gs) (ws ++ ws') (sCons F Fs) := ⟨pgs_cons h1.p h2.p hs, RGs.cons h1.r h2.r⟩
theorem g_tup {es : List Expr} {k : Nat} {gs : TGs} {ws : List Nat} {Fs : DGs} {n : Nat} (hc : X.calm = true) (h : Tgs X es gs ws Fs)
    (hn : (assignEach es X.env).length = n := by rfl) (hst : (assignEach es X.env).findIdx? (·.1) = none := by rfl) : Tg X (.Tuple es k pos) (gTup X.K n gs) ws (sTup n Fs) := ⟨pg_tup hc h.p hn hst, RG.tup h.r⟩
/-! ## simple statements -/
def dNext : DS := fun E env M => E.nx env M
def dSeq (T U : DS) : DS := fun E env M => T { E with nx := U E } env M
def dRet (A : DE) : DS := fun E env M => A env M E.rt
def dRetN : DS := fun E _ M => E.rt .non M
def dDrop (A : DE) : DS := fun E env M => A env M fun _ M1 => E.nx env M1
def dSet (i : Nat) (A : DE) : DS := fun E env M => A env M fun x M1 => E.nx (env.set i (some x)) M1
def dIfS (I : DT) (T U : DS) : DS := fun E env M => I env M fun k M1 => if k = true then T E env M1 else U E env M1
def dAsg (A : DE) (g : DG) : DS := fun E env M => A env M fun x M1 => g x env M1 E.nx
def dBrk : DS := fun E env M => E.bk env M
def dCnt : DS := fun E env M => E.ct env M
theorem ss_nil : Ss X [] tNext dNext := ⟨pss_nil, fun S σ H env M D E rn hr f c => c.nx env M σ H f Gr.refl rn hr⟩
theorem ss_cons (h1 : Sm X st t T) (h2 : Ss X sts u U) : Ss X (st :: sts) (tSeq t u) (dSeq T U) := by
  refine ⟨pss_cons h1.p h2.p, ?_⟩
  intro S σ H env M D E rn hr f c
  refine h1.r S σ H env M _ _ rn hr f ⟨fun env' M' σ' H' e g rn' hr' => ?_, c.bk, c.ct, c.rt⟩
  exact h2.r S σ' H' env' M' D E rn' hr' e (c.from g)
theorem ss_one (h1 : Sm X st t T) : Ss X [st] t T := ⟨pss_one h1.p, h1.r⟩
theorem s_ret (h : Ex X e te A) : Sm X (.Return (some e) pos) (tRet te) (dRet A) := by
  refine ⟨ps_ret h.p, ?_⟩
  intro S σ H env M D E rn hr f c
  exact h.r S σ H env M _ _ rn hr f fun d M' v H' e g rd hr' => c.rt d M' v H' e g rd hr'
theorem s_retN : Sm X (.Return none pos) tRetN dRetN := ⟨ps_retN, fun S σ H env M D E rn hr f c => c.rt .non M .non H f Gr.refl .non hr⟩
theorem s_expr (h : Ex X e te A) (hs : swapsWith e none pos.line X.env = pure false := by rfl) : Sm X (.Expr e pos) (tDrop te) (dDrop A) := by
  refine ⟨ps_expr h.p hs, ?_⟩
  intro S σ H env M D E rn hr f c
  exact h.r S σ H env M _ _ rn hr f fun d M' v H' e g rd hr' => c.nx env M' σ H' e g (rn.same g.same) hr'
theorem s_set {i : Nat} {pos' : Pos} (hN : X.N.Nodup) (hi : X.N[i]? = some x) (hx : Loc X.env.scope x) (h : Ex X e te A) (hs : swapsWith e (some (.Name x pos')) pos.line X.env = pure false := by rfl)
    (hf : X.fn x = true ∨ X.env.scope.names.lookup x = some .local := by first | exact .inl rfl | exact .inr rfl | assumption) : Sm X (.Assign [.Name x pos'] e pos) (tAsg te (gName i)) (dSet i A) := by
  refine ⟨ps_set (i := i) hN hi hx h.p hs hf, ?_⟩
  intro S σ H env M D E rn hr f c
  refine h.r S σ H env M _ _ rn hr f fun d M' v H' e g rd hr' => ?_
  exact c.nx _ M' _ H' e g ((rn.same g.same).set rd i) hr'
theorem s_if {sa sb : List Stmt} (h0 : Ts X c ti I) (h1 : Ss X sa t T) (h2 : Ss X sb u U) : Sm X (.If c sa sb pos) (tIfS ti t u) (dIfS I T U) := by
  refine ⟨ps_if h0.p h1.p h2.p, ?_⟩
  intro S σ H env M D E rn hr f c
  refine h0.r S σ H env M _ _ rn hr f fun k M1 H1 f1 g1 hr1 => ?_
  split at f1
  · rename_i e
    rw [if_pos e]
    exact h1.r S σ H1 env M1 D E (rn.same g1.same) hr1 f1 (c.from g1)
  · rename_i e
    rw [if_neg e]
    exact h2.r S σ H1 env M1 D E (rn.same g1.same) hr1 f1 (c.from g1)
theorem s_asg {tg : Expr} {g : TG} {ws : List Nat} {Fg : DG} (h : Ex X e te A) (hg : Tg X tg g ws Fg) (hs : swapsWithSole [tg] e pos.line X.env = pure false := by rfl) (hw : swappedStores [tg] e X.env = pure none := by rfl) (h1 : List.map (·.2) (assignEach [tg] X.env) = [assign tg X.env] := by rfl) :
    Sm X (.Assign [tg] e pos) (tAsg te g) (dAsg A Fg) := by
  refine ⟨ps_asg h.p hg.p hs hw (h1 := h1), ?_⟩
  intro S σ H env M D E rn hr f c
  refine h.r S σ H env M _ _ rn hr f fun d M' v H' e g rd hr' => ?_
  exact hg.r S σ H' v d env M' _ _ rd (rn.same g.same) hr' e fun env2 M2 σ2 H2 e2 g2 rn2 hr2 _ => c.nx env2 M2 σ2 H2 e2 (g.trans g2) rn2 hr2
theorem s_brk : Sm X (.Break pos) tBreak dBrk := ⟨ps_break, fun S σ H env M D E rn hr f c => c.bk env M σ H f Gr.refl rn hr⟩
theorem s_cnt : Sm X (.Continue pos) tCont dCnt := ⟨ps_continue, fun S σ H env M D E rn hr f c => c.ct env M σ H f Gr.refl rn hr⟩
theorem s_pass : Sm X (.Pass pos) tNext dNext := ⟨ps_pass, fun S σ H env M D E rn hr f c => c.nx env M σ H f Gr.refl rn hr⟩
/-! ## what is walked -/
abbrev DI := DEnv → MH → (List Dv → (MH → Prop) → MH → Prop) → Prop
structure Walks (K : PySem.W.Frag) (G : Hp) (J : It) (items : List Dv) (inv : MH → Prop) : Prop where
  go : ∀ i d, items[i]? = some d → ∀ S2 M2 H2, Same G (hid S2 M2 H2) → HR K S2 M2 H2 → inv M2 → J.go i H2 ∧ ∀ x H3, J.yld i H2 x H3 → Gr S2 M2 H2 M2 H3 ∧ HR K S2 M2 H3 ∧ RD K (hid S2 M2 H3) x d
  stop : ∀ S2 M2 H2, Same G (hid S2 M2 H2) → HR K S2 M2 H2 → inv M2 → J.stop items.length H2
def RI (K : PySem.W.Frag) (wi : TI) (F : DI) : Prop := ∀ (S : Addr → Bool) (σ : L2.St) (H : Hp) (env : DEnv) (M : MH) (Q : It → Hp → Prop) (R : List Dv → (MH → Prop) → MH → Prop), RN K (hid S M H) σ env → HR K S M H → F env M R →
  (∀ items inv M' J H', R items inv M' → Gr S M H M' H' → HR K S M' H' → Walks K (hid S M' H') J items inv → Q J H') → wi σ H Q
structure Wk (X : Cx) (tg e : Expr) (wi : TI) (F : DI) : Prop where
  p : PI X tg e wi
  r : RI X.K wi F
@[irreducible] def dFor (W : DI) (g : DG) (body : DS) : DS := fun E env M => W env M fun items inv M1 => ∃ I : Nat → DEnv → MH → Prop, I 0 env M1 ∧ (∀ i env M, I i env M → inv M) ∧
  (∀ i d env M, items[i]? = some d → I i env M → g d env M fun env1 M1 => body { E with nx := I (i + 1), ct := I (i + 1), bk := E.nx } env1 M1) ∧ ∀ env M, I items.length env M → E.nx env M
theorem s_for {tg it : Expr} {body : List Stmt} {wi : TI} {g : TG} {ws : List Nat} {W : DI} {Fg : DG} (hp : PassesOwn (model X.prog X.w) X.A X.env X.xe) (hc : X.calm = true) (hi : Wk X tg it wi W) (hg : Tg X tg g ws Fg) (hb : Ss X body t T)
    (hs : ∀ x, foldedSetIterable it X.env x = pure x := by intro _; rfl) : Sm X (.For tg it body [] pos) (tFor wi g t) (dFor W Fg T) := by
  refine ⟨ps_for hp hc hi.p hg.p hb.p hs, ?_⟩
  intro S σ H env M D E rn hr f c
  unfold dFor at f
  refine hi.r S σ H env M _ _ rn hr f fun items inv M1 J H1 f1 g1 hr1 wk => ?_
  obtain ⟨I, h0, hin, step, fin⟩ := f1
  refine ⟨fun i m σ' H' => ∃ env' M', I i env' M' ∧ m = items.length - i ∧ i ≤ items.length ∧ Gr S M1 H1 M' H' ∧ RN X.K (hid S M' H') σ' env' ∧ HR X.K S M' H', ⟨_, env, M1, h0, rfl, Nat.zero_le _, Gr.refl, rn.same g1.same, hr1⟩, ?_⟩
  rintro i m σ2 H2 ⟨env2, M2, h2, rfl, hi2, g2, rn2, hr2⟩
  rcases Nat.lt_or_eq_of_le hi2 with hlt | heq
  · refine .inr ?_
    have hd : items[i]? = some items[i] := List.getElem?_eq_getElem hlt
    obtain ⟨w1, w2⟩ := wk.go i _ hd S M2 H2 g2.same hr2 (hin _ _ _ h2)
    refine ⟨w1, fun σ' H' => ∃ env' M', I (i + 1) env' M' ∧ Gr S M1 H1 M' H' ∧ RN X.K (hid S M' H') σ' env' ∧ HR X.K S M' H', fun σ' H' ⟨e', M', y1, y2, y3, y4⟩ => ⟨items.length - (i + 1), by omega, e', M', y1, rfl, hlt, y2, y3, y4⟩, fun x H3 hy => ?_⟩
    obtain ⟨g3, hr3, rd⟩ := w2 x H3 hy
    refine hg.r S σ2 H3 x _ env2 M2 _ _ rd (rn2.same g3.same) hr3 (step i _ env2 M2 hd h2) fun env4 M4 σ4 H4 f4 g4 rn4 hr4 _ => ?_
    have gg := (g2.trans g3).trans g4
    exact hb.r S σ4 H4 env4 M4 _ _ rn4 hr4 f4 ⟨fun e' M' σ' H' y z rn' hr' => ⟨e', M', y, gg.trans z, rn', hr'⟩, fun e' M' σ' H' y z rn' hr' => c.nx e' M' σ' H' y (g1.trans (gg.trans z)) rn' hr',
      fun e' M' σ' H' y z rn' hr' => ⟨e', M', y, gg.trans z, rn', hr'⟩, fun d M' v H' y z rd' hr' => c.rt d M' v H' y (g1.trans (gg.trans z)) rd' hr'⟩
  · subst heq
    exact .inl ⟨wk.stop S M2 H2 g2.same hr2 (hin _ _ _ h2), c.nx env2 M2 σ2 H2 (fin _ _ h2) (g1.trans g2) rn2 hr2⟩
def dWhile (I : DT) (T : DS) : DS := fun E env M => ∃ W : Nat → DEnv → MH → Prop, (∃ m, W m env M) ∧ ∀ m env M, W m env M → I env M fun b M1 =>
  if b = true then T { E with nx := fun e' M' => ∃ m', m' < m ∧ W m' e' M', ct := fun e' M' => ∃ m', m' < m ∧ W m' e' M', bk := E.nx } env M1 else E.nx env M1
theorem s_while {body : List Stmt} (hp : PassesOwn (model X.prog X.w) X.A X.env X.xe) (h0 : Ts X c ti I) (hb : Ss X body t T) : Sm X (.While c body [] pos) (tWhile ti t) (dWhile I T) := by
  refine ⟨ps_while hp h0.p hb.p, ?_⟩
  intro S σ H env M D E rn hr f c
  obtain ⟨W, ⟨m0, w0⟩, turn⟩ := f
  refine ⟨fun m σ' H' => ∃ env' M', W m env' M' ∧ Gr S M H M' H' ∧ RN X.K (hid S M' H') σ' env' ∧ HR X.K S M' H', ⟨m0, env, M, w0, Gr.refl, rn, hr⟩, ?_⟩
  rintro m σ1 H1 ⟨env1, M1, w1, g1, rn1, hr1⟩
  refine h0.r S σ1 H1 env1 M1 _ _ rn1 hr1 (turn m env1 M1 w1) fun b M2 H2 f2 g2 hr2 => ?_
  split at f2
  · rename_i e
    rw [if_pos e]
    refine ⟨fun σ' H' => ∃ env' M', (∃ m', m' < m ∧ W m' env' M') ∧ Gr S M H M' H' ∧ RN X.K (hid S M' H') σ' env' ∧ HR X.K S M' H', fun σ' H' ⟨e', M', ⟨m', l, w'⟩, y2, y3, y4⟩ => ⟨m', l, e', M', w', y2, y3, y4⟩, ?_⟩
    have gg := g1.trans g2
    exact hb.r S σ1 H2 env1 M2 _ _ (rn1.same g2.same) hr2 f2 ⟨fun e' M' σ' H' y z rn' hr' => ⟨e', M', y, gg.trans z, rn', hr'⟩, fun e' M' σ' H' y z rn' hr' => c.nx e' M' σ' H' y (gg.trans z) rn' hr',
      fun e' M' σ' H' y z rn' hr' => ⟨e', M', y, gg.trans z, rn', hr'⟩, fun d M' v H' y z rd' hr' => c.rt d M' v H' y (gg.trans z) rd' hr'⟩
  · rename_i e
    rw [if_neg e]
    exact c.nx env1 M2 σ1 H2 f2 (g1.trans g2) (rn1.same g2.same) hr2
end
end Vk
set_option linter.unusedVariables false
namespace Vk
open PySem PySem.Spec PyProof.Rows L2
/-! # The data layer: walks, comprehensions, equality, match -/
section
variable {X : Cx} {a b c e tg : Expr} {es : List Expr} {ta tb tc te : TE} {ti tj : TT} {tt : TA} {n k j : Nat} {A B C D : DE} {I J : DT} {G : DA} {pos p : Pos} {F : DF} {x : Str}
abbrev tru : MH → Prop := fun _ => True
/-- the items of data that are walked -/
def wItems (A : DE) : DI := fun env M R => A env M fun d M1 => match d with
  | .lst ds => R ds tru M1
  | .scr ns => R (ns.map .int) tru M1
  | .ref p => match M1 p with
    | some (.lst ds) => R ds (fun M2 => M2 p = some (.lst ds)) M1
    | _ => False
  | _ => False
theorem Gr.mk' {S : Addr → Bool} {M : MH} {H : Hp} : Gr S M H M H := Gr.refl
theorem w_list (h : Ex X a ta A) : Wk X tg a (iList X.K ta) (wItems A) := by
  refine ⟨pi_list h.p, ?_⟩
  intro S σ H env M Q R rn hr f q
  refine h.r S σ H env M _ _ rn hr f fun d M1 v H1 f1 g1 r1 hr1 => ?_
  split at f1
  · cases r1 with
    | lst ha ra =>
      refine ⟨_, rfl, ⟨_, SqL.of (hid_some ha).1⟩, q _ _ M1 _ H1 f1 g1 hr1 ⟨fun i d e S2 M2 H2 s hr2 _ => ?_, fun S2 M2 H2 s hr2 _ => ?_⟩⟩
      · obtain ⟨v, ev, rd⟩ := ra.at e
        have at2 := SqL.of (K := X.K) (hid_some (s _ _ ha)).1
        refine ⟨⟨_, v, at2, ev⟩, fun x H3 hy => ?_⟩
        obtain ⟨rfl, z⟩ := hy
        have e2 := z _ at2
        rw [ev] at e2
        cases e2
        exact ⟨Gr.refl, hr2, RD.same s _ _ rd⟩
      · exact ⟨_, SqL.of (hid_some (s _ _ ha)).1, Nat.le_of_eq ra.len⟩
  · cases r1 with
    | scr ha =>
      refine ⟨_, rfl, ⟨_, sqL_hid ha⟩, q _ _ M1 _ H1 f1 g1 hr1 ⟨fun i d e S2 M2 H2 s hr2 _ => ?_, fun S2 M2 H2 s hr2 _ => ?_⟩⟩
      · obtain ⟨v, ev, rd⟩ := (RDs.ints (K := X.K) (G := hid S2 M2 H2) _).at e
        have at2 := sqL_hid (sqL_same s ha)
        refine ⟨⟨_, v, at2, ev⟩, fun x H3 hy => ?_⟩
        obtain ⟨rfl, z⟩ := hy
        have e2 := z _ at2
        rw [ev] at e2
        cases e2
        exact ⟨Gr.refl, hr2, rd⟩
      · exact ⟨_, sqL_hid (sqL_same s ha), by rw [List.length_map, List.length_map]; exact Nat.le_refl _⟩
  · cases r1
    split at f1
    · rename_i p _ ds e0
      obtain ⟨u, z1, z2⟩ := hr1.obj _ _ e0
      cases z2 with
      | lst ra0 =>
        refine ⟨_, rfl, ⟨_, SqL.of z1⟩, q _ _ M1 _ H1 f1 g1 hr1 ⟨fun i d e S2 M2 H2 s hr2 hin => ?_, fun S2 M2 H2 s hr2 hin => ?_⟩⟩
        · obtain ⟨u2, y1, y2⟩ := hr2.obj _ _ hin
          cases y2 with
          | lst ra =>
            obtain ⟨v, ev, rd⟩ := ra.at e
            have at2 := SqL.of (K := X.K) y1
            refine ⟨⟨_, v, at2, ev⟩, fun x H3 hy => ?_⟩
            obtain ⟨rfl, z⟩ := hy
            have e2 := z _ at2
            rw [ev] at e2
            cases e2
            exact ⟨Gr.refl, hr2, rd⟩
        · obtain ⟨u2, y1, y2⟩ := hr2.obj _ _ hin
          cases y2 with
          | lst ra => exact ⟨_, SqL.of y1, Nat.le_of_eq ra.len⟩
    · exact f1.elim
  · exact f1.elim
def wTup (A : DE) : DI := fun env M R => A env M fun d M1 => match d with
  | .tup ds => R ds tru M1
  | _ => False
theorem w_tup (h : Ex X a ta A) : Wk X tg a (iTup X.K ta) (wTup A) := by
  refine ⟨pi_tup h.p, ?_⟩
  intro S σ H env M Q R rn hr f q
  refine h.r S σ H env M _ _ rn hr f fun d M1 v H1 f1 g1 r1 hr1 => ?_
  split at f1
  · cases r1 with
    | tup ha ra =>
      refine ⟨_, rfl, ⟨_, sqT_hid ha⟩, q _ _ M1 _ H1 f1 g1 hr1 ⟨fun i d e S2 M2 H2 s hr2 _ => ?_, fun S2 M2 H2 s hr2 _ => ?_⟩⟩
      · obtain ⟨v, ev, rd⟩ := ra.at e
        have at2 := sqT_hid (sqT_same s ha)
        refine ⟨⟨_, v, at2, ev⟩, fun x H3 hy => ?_⟩
        obtain ⟨rfl, z⟩ := hy
        have e2 := z _ at2
        rw [ev] at e2
        cases e2
        exact ⟨Gr.refl, hr2, RD.same s _ _ rd⟩
      · exact ⟨_, sqT_hid (sqT_same s ha), Nat.le_of_eq ra.len⟩
  · exact f1.elim
def wStr (A : DE) : DI := fun env M R => A env M fun d M1 => match d with
  | .str y => R (y.cps.toList.map fun c => .str ⟨#[c]⟩) tru M1
  | _ => False
theorem w_str (h : Ex X a ta A) : Wk X tg a (iStr ta) (wStr A) := by
  refine ⟨pi_str h.p, ?_⟩
  intro S σ H env M Q R rn hr f q
  refine h.r S σ H env M _ _ rn hr f fun d M1 v H1 f1 g1 r1 hr1 => ?_
  cases d with
  | str y =>
    cases r1
    refine ⟨_, rfl, q _ _ M1 _ H1 f1 g1 hr1 ⟨fun i d e S2 M2 H2 s hr2 _ => ?_, fun S2 M2 H2 s hr2 _ => ?_⟩⟩
    · rw [List.getElem?_map, Array.getElem?_toList] at e
      cases c : y.cps[i]? with
      | none => rw [c] at e; cases e
      | some c' =>
        rw [c] at e
        cases e
        refine ⟨(Array.getElem?_eq_some_iff.mp c).1, fun x H3 hy => ?_⟩
        obtain ⟨rfl, c2, e2, rfl⟩ := hy
        rw [c] at e2
        cases e2
        exact ⟨Gr.refl, hr2, .str _⟩
    · show _ ≤ _
      rw [List.length_map, Array.length_toList]
      exact Nat.le_refl _
  | _ => exact f1.elim
def intsD (lo : Int) (n : Nat) : List Dv := (List.range n).map fun i => .int (lo + (i : Nat))
theorem walks_range {K : PySem.W.Frag} {G : Hp} (lo : Int) (n : Nat) : Walks K G (Itr lo n) (intsD lo n) tru := by
  refine ⟨fun i d e S2 M2 H2 s hr2 _ => ?_, fun S2 M2 H2 s hr2 _ => ?_⟩
  · unfold intsD at e
    rw [List.getElem?_map] at e
    by_cases c : i < n
    · rw [List.getElem?_range c] at e
      cases e
      refine ⟨c, fun x H3 hy => ?_⟩
      obtain ⟨rfl, rfl⟩ := hy
      exact ⟨Gr.refl, hr2, .int _⟩
    · rw [List.getElem?_eq_none (by simpa using c)] at e
      cases e
  · show _ ≤ _
    unfold intsD
    rw [List.length_map, List.length_range]
    exact Nat.le_refl _
def wRng1 (G : DA) : DI := fun env M R => G env M fun ds M1 => match ds with
  | [.int j] => -(2 ^ 62) ≤ j ∧ j < 2 ^ 62 ∧ R (intsD 0 j.toNat) tru M1
  | _ => False
def wRng2 (G : DA) : DI := fun env M R => G env M fun ds M1 => match ds with
  | [.int i, .int j] => (-(2 ^ 62) ≤ i ∧ i < 2 ^ 62 ∧ -(2 ^ 62) ≤ j ∧ j < 2 ^ 62) ∧ R (intsD i (j - i).toNat) tru M1
  | _ => False
theorem w_range1 {p pos : Pos} (hg : Gl X "range") (hm : X.mg "range" = none) (h : As X [a] tt n G) (hs : starEach [a] X.env = [(false, eval a X.env)] := by rfl) : Wk X tg (.Call (.Name "range" p) [a] [] pos) (iRng1 tt) (wRng1 G) := by
  refine ⟨pi_range1 hg hm h.p hs, ?_⟩
  intro S σ H env M Q R rn hr f q
  refine h.r S σ H env M _ _ rn hr f fun ds M1 vs H1 f1 l1 g1 r1 hr1 => ?_
  split at f1
  · obtain ⟨v, rfl, rd⟩ := r1.one
    cases rd
    exact ⟨_, rfl, f1.1, f1.2.1, q _ _ M1 _ H1 f1.2.2 g1 hr1 (walks_range _ _)⟩
  · exact f1.elim
theorem w_range2 {p pos : Pos} (hg : Gl X "range") (hm : X.mg "range" = none) (h : As X [a, b] tt n G) (hs : starEach [a, b] X.env = [(false, eval a X.env), (false, eval b X.env)] := by rfl) (hs2 : starEach [b] X.env = [(false, eval b X.env)] := by rfl) :
    Wk X tg (.Call (.Name "range" p) [a, b] [] pos) (iRng2 tt) (wRng2 G) := by
  refine ⟨pi_range2 hg hm h.p hs hs2, ?_⟩
  intro S σ H env M Q R rn hr f q
  refine h.r S σ H env M _ _ rn hr f fun ds M1 vs H1 f1 l1 g1 r1 hr1 => ?_
  split at f1
  · obtain ⟨v, w, rfl, rd, rd2⟩ := r1.two
    cases rd
    cases rd2
    exact ⟨_, _, rfl, f1.1, q _ _ M1 _ H1 f1.2 g1 hr1 (walks_range _ _)⟩
  · exact f1.elim
/-! ## comprehensions -/
def dYes : DT := fun _ M Q => Q true M
@[irreducible] def dLc (W : DI) (g : DG) (T : DT) (A : DE) (vs : List Nat) : DE := fun env M Q => W env M fun items inv M1 => items.length ≤ sizeLine ∧ ∃ I : Nat → List Dv → MH → Prop, I 0 [] M1 ∧ (∀ i acc M, I i acc M → inv M) ∧
  (∀ i d acc M, items[i]? = some d → I i acc M → g d (wipeD env vs) M fun env1 M2 => T env1 M2 fun b M3 => if b = true then A env1 M3 fun y M4 => I (i + 1) (acc ++ [y]) M4 else I (i + 1) acc M3) ∧ ∀ acc M, I items.length acc M → Q (.lst acc) M
theorem wipe_get (σ : L2.St) (j : Nat) : ∀ vs : List Nat, (L2.wipe σ vs)[j]? = if j ∈ vs then (σ[j]?).map (fun _ => none) else σ[j]?
  | [] => by simp [L2.wipe]
  | v :: vs => by
    unfold L2.wipe
    have ih := wipe_get σ j vs
    by_cases c : v = j
    · subst c
      rw [if_pos List.mem_cons_self]
      by_cases l : v < (L2.wipe σ vs).length
      · rw [List.getElem?_set_self l]
        rw [L2.wipe_length] at l
        rw [List.getElem?_eq_getElem l]
        rfl
      · rw [List.getElem?_eq_none (by simpa using l)]
        rw [L2.wipe_length] at l
        rw [List.getElem?_eq_none (by simpa using l)]
        rfl
    · rw [List.getElem?_set_ne c, ih]
      have e : (j ∈ v :: vs) ↔ j ∈ vs := by simp [show ¬ j = v from fun z => c z.symm]
      by_cases d : j ∈ vs
      · rw [if_pos d, if_pos (e.mpr d)]
      · rw [if_neg d, if_neg (fun z => d (e.mp z))]
theorem wipe_back {σ σ2 : L2.St} {vs ws : List Nat} (hw : ∀ i, i ∈ ws → i ∈ vs) (hl : σ2.length = σ.length) (h : ∀ i, i ∉ ws → σ2[i]? = (L2.wipe σ vs)[i]?) : L2.wipe σ2 vs = L2.wipe σ vs := by
  apply List.ext_getElem?
  intro j
  rw [wipe_get, wipe_get]
  by_cases c : j ∈ vs
  · rw [if_pos c, if_pos c]
    by_cases l : j < σ.length
    · rw [List.getElem?_eq_getElem l, List.getElem?_eq_getElem (by rw [hl]; exact l)]
      rfl
    · rw [List.getElem?_eq_none (show σ2.length ≤ j by omega), List.getElem?_eq_none (show σ.length ≤ j by omega)]
  · rw [if_neg c, if_neg c, h j fun z => c (hw j z), wipe_get, if_neg c]
theorem RE.lc {K : PySem.W.Frag} {wi : TI} {g : TG} {tT : TT} {te : TE} {vs ws : List Nat} {W : DI} {Fg : DG} {T : DT} {A : DE} (hi : RI K wi W) (hg : RG K g ws Fg) (ht : RT K tT T) (he : RE K te A) (hw : ∀ i, i ∈ ws → i ∈ vs) :
    RE K (tLc wi g tT te vs) (dLc W Fg T A vs) := by
  intro S σ H env M Q R rn hr f q
  unfold dLc at f
  refine hi S σ H env M _ _ rn hr f fun items inv M1 J H1 f1 g1 hr1 wk => ?_
  obtain ⟨hsz, I, h0, hin, step, fin⟩ := f1
  intro D hD
  obtain ⟨sD, mD⟩ := hr1.fresh hD
  let S2 : Addr → Bool := fun z => S z || z == D
  have s2D : S2 D = true := by simp [S2]
  have s2S : ∀ z, S z = true → S2 z = true := fun z hz => by simp [S2, hz]
  have hid0 : ∀ o, hid S2 M1 (upd H1 D o) = hid S M1 H1 := fun o => by
    funext z
    by_cases c : z = D
    · subst c
      unfold hid
      rw [s2D, sD, mD, hD]
      simp
    · have e : S2 z = S z := by simp [S2, c]
      unfold hid
      rw [e, upd_ne c]
  have hr0 : HR K S2 M1 (upd H1 D (.lst [])) := by
    refine ⟨fun z o e => ?_, fun z hz => ?_⟩
    · obtain ⟨u, y1, y2⟩ := hr1.obj z o e
      have n : z ≠ D := fun w => by subst w; rw [mD] at e; cases e
      exact ⟨u, by rw [upd_ne n]; exact y1, by rw [hid0]; exact y2⟩
    · by_cases c : z = D
      · subst c
        exact ⟨mD, by rw [upd_same]; exact fun w => by cases w⟩
      · have e : S z = true := by simpa [S2, c] using hz
        obtain ⟨y1, y2⟩ := hr1.apart z e
        exact ⟨y1, by rw [upd_ne c]; exact y2⟩
  refine ⟨fun i m H' => ∃ acc M' av, I i acc M' ∧ H' D = some (.lst av) ∧ RDs K (hid S2 M' H') av acc ∧ HR K S2 M' H' ∧ Same (hid S M1 H1) (hid S2 M' H') ∧ (∀ z, S z = true → H' z = H1 z) ∧ acc.length ≤ i ∧ m = items.length - i ∧ i ≤ items.length,
    ⟨_, [], M1, [], h0, upd_same, .nil, hr0, by rw [hid0]; exact Same.refl _, fun z hz => upd_ne (fun w => by subst w; rw [sD] at hz; cases hz), Nat.zero_le _, rfl, Nat.zero_le _⟩, ?_⟩
  rintro i m H2 ⟨acc, M2, av, h2, at2, ra2, hr2, same2, hold2, hl2, rfl, hi2⟩
  rcases Nat.lt_or_eq_of_le hi2 with hlt | heq
  · refine .inr ?_
    have hd : items[i]? = some items[i] := List.getElem?_eq_getElem hlt
    obtain ⟨w1, w2⟩ := wk.go i _ hd S2 M2 H2 same2 hr2 (hin _ _ _ h2)
    refine ⟨w1, fun H' => ∃ acc' M' av', I (i + 1) acc' M' ∧ H' D = some (.lst av') ∧ RDs K (hid S2 M' H') av' acc' ∧ HR K S2 M' H' ∧ Same (hid S M1 H1) (hid S2 M' H') ∧ (∀ z, S z = true → H' z = H1 z) ∧ acc'.length ≤ i + 1,
      fun H' ⟨a', M', av', y1, y2, y3, y4, y5, y6, y7⟩ => ⟨items.length - (i + 1), by omega, a', M', av', y1, y2, y3, y4, y5, y6, y7, rfl, hlt⟩, fun x H3 hy => ?_⟩
    obtain ⟨g3, hr3, rd⟩ := w2 x H3 hy
    have rnw : RN K (hid S2 M2 H3) (L2.wipe σ vs) (wipeD env vs) := by
      refine RN.same g3.same (RN.same same2 (RN.wipe (rn.same g1.same) vs))
    refine hg S2 (L2.wipe σ vs) H3 x _ (wipeD env vs) M2 _ _ rd rnw hr3 (step i _ acc M2 hd h2) fun env4 M4 σ4 H4 f4 g4 rn4 hr4 k4 => ?_
    refine ⟨wipe_back hw (by rw [k4.1, L2.wipe_length]) k4.2, ?_⟩
    refine ht S2 σ4 H4 env4 M4 _ _ rn4 hr4 f4 fun b M5 H5 f5 g5 hr5 => ?_
    split at f5
    · rename_i eb
      rw [if_pos eb]
      refine he S2 σ4 H5 env4 M5 _ _ (rn4.same g5.same) hr5 f5 fun y M6 v H6 f6 g6 rd6 hr6 => ?_
      have gg := ((g3.trans g4).trans g5).trans g6
      have at6 : H6 D = some (.lst av) := by rw [gg.hold D s2D]; exact at2
      have ra6 := RDs.same gg.same _ _ ra2
      have hidE : ∀ o, hid S2 M6 (upd H6 D o) = hid S2 M6 H6 := fun o => by
        funext z
        by_cases c : z = D
        · subst c
          unfold hid
          rw [s2D]
          simp
        · unfold hid
          rw [upd_ne c]
      refine ⟨av, at6, by rw [ra2.len]; omega, acc ++ [y], M6, av ++ [v], f6, upd_same, by rw [hidE]; exact ra6.app (.cons rd6 .nil), ⟨fun z o e => ?_, fun z hz => ?_⟩, by rw [hidE]; exact same2.trans gg.same, fun z hz => ?_, by rw [List.length_append]; simp; omega⟩
      · obtain ⟨u, y1, y2⟩ := hr6.obj z o e
        have n : z ≠ D := fun w => by subst w; rw [(hr6.apart _ s2D).1] at e; cases e
        exact ⟨u, by rw [upd_ne n]; exact y1, by rw [hidE]; exact y2⟩
      · obtain ⟨y1, y2⟩ := hr6.apart z hz
        refine ⟨y1, ?_⟩
        by_cases c : z = D
        · subst c
          rw [upd_same]
          exact fun w => by cases w
        · rw [upd_ne c]
          exact y2
      · have n : z ≠ D := fun w => by subst w; rw [sD] at hz; cases hz
        rw [upd_ne n, gg.hold z (s2S z hz)]
        exact hold2 z hz
    · rename_i eb
      rw [if_neg eb]
      have gg := (g3.trans g4).trans g5
      exact ⟨acc, M5, av, f5, by rw [gg.hold D s2D]; exact at2, RDs.same gg.same _ _ ra2, hr5, same2.trans gg.same, fun z hz => by rw [gg.hold z (s2S z hz)]; exact hold2 z hz, by omega⟩
  · subst heq
    refine .inl ⟨wk.stop S2 M2 H2 same2 hr2 (hin _ _ _ h2), ?_⟩
    have m2D : M2 D = none := (hr2.apart D s2D).1
    have up : Same (hid S2 M2 H2) (hid S M2 H2) := fun z o e => by
      obtain ⟨y1, y2, y3⟩ := hid_some e
      rw [hid_of (by cases c : S z with | false => rfl | true => rw [s2S z c] at y2; cases y2) y3]
      exact y1
    refine q _ M2 _ H2 (fin _ _ h2) (g1.trans ⟨same2.trans up, hold2⟩) (.lst (by rw [hid_of sD m2D]; exact at2) (RDs.same up _ _ ra2)) ⟨fun z o e => ?_, fun z hz => ?_⟩
    · obtain ⟨u, y1, y2⟩ := hr2.obj z o e
      exact ⟨u, y1, y2.same up⟩
    · exact hr2.apart z (s2S z hz)
/-- a comprehension's block: for whatever place it runs at -/
theorem d_lc {elt it : Expr} {ifs : List Expr} {scope : Scope} {own : List (Str × Nat)} {wi : TI} {g : TG} {tT : TT} {ws : List Nat} {W : DI} {Fg : DG} {T : DT} (hc : X.calm = true) (hN : X.N.Nodup) (hi : Wk X tg it wi W) (ok : BlkOk X.N X.env.scope scope own)
    (hg : ∀ (s : Shared) (H : Hp) (C : Addr) (cl : List (Str × Addr)) (fp : List Addr), Tg (X.blk s H scope (compEnvC scope cl C X.env) fp) tg g ws Fg) (ht : ∀ (s : Shared) (H : Hp) (C : Addr) (cl : List (Str × Addr)) (fp : List Addr), PTs (X.blk s H scope (compEnvC scope cl C X.env) fp) ifs tT) (htr : RT X.K tT T)
    (he : ∀ (s : Shared) (H : Hp) (C : Addr) (cl : List (Str × Addr)) (fp : List Addr), Ex (X.blk s H scope (compEnvC scope cl C X.env) fp) elt te A) (hw : ∀ i, i ∈ ws → i ∈ own.map (·.2) := by decide) (hs : ∀ x, foldedSetIterable it X.env x = pure x := by intro _; rfl) :
    Ex X (.ListComp elt [⟨tg, it, ifs, 0⟩] scope pos) (tLc wi g tT te (own.map (·.2))) (dLc W Fg T A (own.map (·.2))) := by
  refine ⟨pe_lc hc hN hi.p ok (fun s H C cl fp => (hg s H C cl fp).p) ht (fun s H C cl fp => (he s H C cl fp).p) hs, ?_⟩
  exact RE.lc hi.r (hg X.s_0 X.H_0 0 [] []).r htr (he X.s_0 X.H_0 0 [] []).r hw
theorem s_setLc {i : Nat} {y : Str} {py spos : Pos} {elt it : Expr} {ifs : List Expr} {scope : Scope} {own : List (Str × Nat)} {wi : TI} {g : TG} {tT : TT} {ws : List Nat} {W : DI} {Fg : DG} {T : DT} (hc : X.calm = true) (hN : X.N.Nodup) (hy : X.N[i]? = some y) (hyl : X.env.scope.names.lookup y = some .local)
    (hsw : swapsWith (.ListComp elt [⟨tg, it, ifs, 0⟩] scope pos) (some (.Name y py)) spos.line X.env = pure true) (hi : Wk X tg it wi W) (ok : BlkOk X.N X.env.scope scope own)
    (hg : ∀ (s : Shared) (H : Hp) (C : Addr) (cl : List (Str × Addr)) (fp : List Addr), Tg (X.blk s H scope (compEnvC scope cl C X.env) fp) tg g ws Fg) (ht : ∀ (s : Shared) (H : Hp) (C : Addr) (cl : List (Str × Addr)) (fp : List Addr), PTs (X.blk s H scope (compEnvC scope cl C X.env) fp) ifs tT) (htr : RT X.K tT T)
    (he : ∀ (s : Shared) (H : Hp) (C : Addr) (cl : List (Str × Addr)) (fp : List Addr), Ex (X.blk s H scope (compEnvC scope cl C X.env) fp) elt te A) (hw : ∀ i, i ∈ ws → i ∈ own.map (·.2) := by decide) (hs : ∀ x, foldedSetIterable it X.env x = pure x := by intro _; rfl) :
    Sm X (.Assign [.Name y py] (.ListComp elt [⟨tg, it, ifs, 0⟩] scope pos) spos) (tAsg (tLc wi g tT te (own.map (·.2))) (gName i)) (dSet i (dLc W Fg T A (own.map (·.2)))) := by
  refine ⟨ps_setLc hc hN hy hyl hsw hi.p ok (fun s H C cl fp => (hg s H C cl fp).p) ht (fun s H C cl fp => (he s H C cl fp).p) hs, ?_⟩
  have r := RE.lc hi.r (hg X.s_0 X.H_0 0 [] []).r htr (he X.s_0 X.H_0 0 [] []).r hw
  intro S σ H env M D E rn hr f c
  refine r S σ H env M _ _ rn hr f fun d M' v H' e g rd hr' => ?_
  exact c.nx _ M' _ H' e g ((rn.same g.same).set rd i) hr'
theorem rt_yes {K : PySem.W.Frag} : RT K tYes dYes := fun S σ H env M Q R rn hr f q => q true M H f Gr.refl hr
end
/-! ## equality of data -/
mutual
def toP : Dv → PyData
  | .non => .none
  | .bl b => .bool b
  | .int i => .int i
  | .str x => .str x
  | .tup ds => .tuple (toPs ds)
  | .lst ds => .list (toPs ds)
  | .scr ns => .list (ns.map .int)
  | .ref _ => .none
  | .ty _ => .none
def toPs : List Dv → List PyData
  | [] => []
  | d :: ds => toP d :: toPs ds
end
mutual
/-- no object, no class in it -/
def datD : Dv → Bool
  | .tup ds => datDs ds
  | .lst ds => datDs ds
  | .ref _ => false
  | .ty _ => false
  | _ => true
def datDs : List Dv → Bool
  | [] => true
  | d :: ds => datD d && datDs ds
end
theorem dpInts {K : PySem.W.Frag} {H : Hp} : ∀ ns : List Int, DpAll K H (ns.map V.int) (ns.map PyData.int)
  | [] => .nil
  | n :: r => .cons (.int n) (dpInts r)
mutual
theorem RD.dp {K : PySem.W.Frag} {S : Addr → Bool} {M : MH} {H : Hp} : ∀ (d : Dv) (v : V), datD d = true → RD K (hid S M H) v d → Dp K H v (toP d)
  | .non, _, _, h => by cases h; exact .non
  | .bl b, _, _, h => by cases h; exact .bl b
  | .int i, _, _, h => by cases h; exact .int i
  | .str x, _, _, h => by cases h; exact .str x
  | .tup ds, _, o, h => by
    cases h with
    | tup ha ra => exact .tup (sqT_hid ha) (RDs.dp ds _ (by simpa [datD] using o) ra)
  | .lst ds, _, o, h => by
    cases h with
    | lst ha ra => exact .lst (SqL.of (hid_some ha).1) (RDs.dp ds _ (by simpa [datD] using o) ra)
  | .scr ns, _, _, h => by
    cases h with
    | scr ha => exact .lst (sqL_hid ha) (dpInts ns)
  | .ref _, _, o, _ => by simp [datD] at o
  | .ty _, _, o, _ => by simp [datD] at o
theorem RDs.dp {K : PySem.W.Frag} {S : Addr → Bool} {M : MH} {H : Hp} : ∀ (ds : List Dv) (vs : List V), datDs ds = true → RDs K (hid S M H) vs ds → DpAll K H vs (toPs ds)
  | [], _, _, h => by cases h; exact .nil
  | d :: ds, _, o, h => by
    have o' : datD d = true ∧ datDs ds = true := by simpa [datDs] using o
    cases h with
    | cons a b => exact .cons (RD.dp d _ o'.1 a) (RDs.dp ds _ o'.2 b)
end
/-- data that may be compared -/
def shp (d : Dv) : Bool := datD d && SeqAt.shaped (toP d)
/-- the equality of scalars, where no kinds are mixed that may be equal -/
def eqS : Dv → Dv → Option Bool
  | .non, .non => some true
  | .int i, .int j => some (decide (i = j))
  | .bl i, .bl j => some (decide (i = j))
  | .str i, .str j => some (decide (i = j))
  | .non, .int _ => some false
  | .int _, .non => some false
  | .non, .bl _ => some false
  | .bl _, .non => some false
  | .non, .str _ => some false
  | .str _, .non => some false
  | .int _, .str _ => some false
  | .str _, .int _ => some false
  | .bl _, .str _ => some false
  | .str _, .bl _ => some false
  | _, _ => none
def gEq (k : Bool → Bool) : DO := fun x y M Q => match eqS x y with
  | some b => Q (.bl (k b)) M
  | none => shp x = true ∧ shp y = true ∧ Q (.bl (k (PyData.eqv (toP x) (toP y)))) M
theorem eqS_rd {K : PySem.W.Frag} {G : Hp} {x y : V} {dx dy : Dv} {b : Bool} (hx : RD K G x dx) (hy : RD K G y dy) (e : eqS dx dy = some b) : scal x y = true ∧ decide (x = y) = b := by
  unfold eqS at e
  split at e <;> first
    | (cases e; done)
    | (cases hx; cases hy; cases e; refine ⟨rfl, ?_⟩; first | rfl | simp | (apply decide_eq_decide.mpr; simp))
section
variable {X : Cx}
abbrev rEqA (K : PySem.W.Frag) : R2 := fun x y H Q => rEq x y H Q ∨ rEqD K x y H Q
abbrev rNeA (K : PySem.W.Frag) : R2 := fun x y H Q => rNe x y H Q ∨ rNeD K x y H Q
theorem o_eq (hu : X.A.units + 64 < cLine) : Op X (compareOp .Eq) (rEqA X.K) (gEq fun b => b) := by
  refine ⟨opr_or op_eq (op_eqD hu), ?_⟩
  intro S H x y dx dy M Q R rx ry hr f q
  unfold gEq at f
  split at f
  · rename_i e
    obtain ⟨e1, e2⟩ := eqS_rd rx ry e
    exact .inl ⟨e1, by rw [e2]; exact q _ M _ H f Gr.refl (.bl _) hr⟩
  · obtain ⟨h1, h2, f⟩ := f
    unfold shp at h1 h2
    rw [Bool.and_eq_true] at h1 h2
    exact .inr ⟨_, _, RD.dp _ _ h1.1 rx, RD.dp _ _ h2.1 ry, h1.2, h2.2, q _ M _ H f Gr.refl (.bl _) hr⟩
theorem o_ne (hu : X.A.units + 64 < cLine) : Op X (compareOp .NotEq) (rNeA X.K) (gEq fun b => !b) := by
  refine ⟨opr_or op_ne (op_neD hu), ?_⟩
  intro S H x y dx dy M Q R rx ry hr f q
  unfold gEq at f
  split at f
  · rename_i e
    obtain ⟨e1, e2⟩ := eqS_rd rx ry e
    exact .inl ⟨e1, by rw [e2]; exact q _ M _ H f Gr.refl (.bl _) hr⟩
  · obtain ⟨h1, h2, f⟩ := f
    unfold shp at h1 h2
    rw [Bool.and_eq_true] at h1 h2
    exact .inr ⟨_, _, RD.dp _ _ h1.1 rx, RD.dp _ _ h2.1 ry, h1.2, h2.2, q _ M _ H f Gr.refl (.bl _) hr⟩
/-! ## is None -/
def isNonD : Dv → Bool
  | .non => true
  | _ => false
theorem isNon_rd {K : PySem.W.Frag} {G : Hp} {x : V} {d : Dv} (h : RD K G x d) : decide (x = .non) = isNonD d := by
  cases h <;> simp [isNonD]
def gIsN (k : Bool → Bool) : DO := fun x y M Q => match y with | .non => Q (.bl (k (isNonD x))) M | _ => False
end
end Vk
set_option linter.unusedVariables false
namespace Vk
open PySem PySem.Spec PyProof.Rows L2
/-! # The data layer: in, is, kinds, match, lists that change -/
theorem gEq_or {K : PySem.W.Frag} : True := trivial
section
variable {X : Cx} {a b c e o : Expr} {es : List Expr} {ta tb tc te to_ : TE} {ti tj : TT} {tt : TA} {n k j : Nat} {A B C D : DE} {I J : DT} {G : DA} {pos p apos : Pos} {F : DF} {x : Str} {sts : List Stmt} {t : TS} {T : DS}
/-! ## in -/
def flatD : Dv → Bool
  | .non => true
  | .bl _ => true
  | .int _ => true
  | .str _ => true
  | _ => false
def eqF : Dv → Dv → Bool
  | .non, .non => true
  | .bl a, .bl b => a == b
  | .bl a, .int b => (if a then 1 else 0) == b
  | .int a, .bl b => a == (if b then 1 else 0)
  | .int a, .int b => a == b
  | .str a, .str b => a == b
  | _, _ => false
/-- the items of data -/
def itsD (M : MH) : Dv → Option (List Dv)
  | .tup ds => some ds
  | .lst ds => some ds
  | .scr ns => some (ns.map .int)
  | .ref p => match M p with
    | some (.lst ds) => some ds
    | _ => none
  | _ => none
@[irreducible] def gIn (k : Bool → Bool) : DO := fun x y M Q => match itsD M y with
  | some ds => if (flatD x && ds.all flatD) = true then Q (.bl (k (ds.any fun z => eqF z x))) M else shp x = true ∧ shp (.lst ds) = true ∧ Q (.bl (k ((toPs ds).any fun z => PyData.eqv z (toP x)))) M
  | none => False
theorem flat_rd {K : PySem.W.Frag} {G : Hp} {v : V} {d : Dv} (h : RD K G v d) (f : flatD d = true) : flatV v = true := by
  cases h <;> first | rfl | (simp [flatD] at f)
theorem flats_rd {K : PySem.W.Frag} {G : Hp} : ∀ {vs : List V} {ds : List Dv}, RDs K G vs ds → ds.all flatD = true → vs.all flatV = true
  | _, _, .nil, _ => rfl
  | _, _, .cons a b, f => by
    rw [List.all_cons, Bool.and_eq_true] at f ⊢
    exact ⟨flat_rd a f.1, flats_rd b f.2⟩
theorem eqF_rd {K : PySem.W.Frag} {G : Hp} {v w : V} {d e : Dv} (h : RD K G v d) (h2 : RD K G w e) (f : flatD d = true) (f2 : flatD e = true) : eqV v w = eqF d e := by
  cases h <;> first | (simp [flatD] at f; done) | (cases h2 <;> first | (simp [flatD] at f2; done) | rfl)
theorem inF_rd {K : PySem.W.Frag} {G : Hp} {w : V} {e : Dv} (h2 : RD K G w e) (f2 : flatD e = true) : ∀ {vs : List V} {ds : List Dv}, RDs K G vs ds → ds.all flatD = true → (vs.any fun y => eqV y w) = ds.any fun y => eqF y e
  | _, _, .nil, _ => rfl
  | _, _, .cons a b, f => by
    rw [List.all_cons, Bool.and_eq_true] at f
    rw [List.any_cons, List.any_cons, eqF_rd a h2 f.1 f2, inF_rd h2 f2 b f.2]
theorem its_rd {K : PySem.W.Frag} {S : Addr → Bool} {M : MH} {H : Hp} {v : V} {d : Dv} {ds : List Dv} (hr : HR K S M H) (h : RD K (hid S M H) v d) (e : itsD M d = some ds) :
    ∃ a vs, v = .ref a ∧ (SqL K H a vs ∨ SqT K H a vs) ∧ RDs K (hid S M H) vs ds := by
  cases h with
  | tup ha ra => cases e; exact ⟨_, _, rfl, .inr (sqT_hid ha), ra⟩
  | lst ha ra => cases e; exact ⟨_, _, rfl, .inl (SqL.of (hid_some ha).1), ra⟩
  | scr ha => cases e; exact ⟨_, _, rfl, .inl (sqL_hid ha), RDs.ints _⟩
  | ref p =>
    unfold itsD at e
    simp only at e
    split at e
    · rename_i e1
      cases e
      obtain ⟨u, z1, z2⟩ := hr.obj _ _ e1
      cases z2 with
      | lst ra => exact ⟨_, _, rfl, .inl (SqL.of z1), ra⟩
    · cases e
  | _ => cases e
def rInA (K : PySem.W.Frag) : R2 := fun x y H Q => ∃ d ds, Dp K H x d ∧ (Dp K H y (.list ds) ∨ Dp K H y (.tuple ds)) ∧ SeqAt.shaped d = true ∧ SeqAt.shaped (.list ds) = true ∧ Q (.bl (ds.any fun z => PyData.eqv z d)) H
def rNotInA (K : PySem.W.Frag) : R2 := fun x y H Q => ∃ d ds, Dp K H x d ∧ (Dp K H y (.list ds) ∨ Dp K H y (.tuple ds)) ∧ SeqAt.shaped d = true ∧ SeqAt.shaped (.list ds) = true ∧ Q (.bl (!ds.any fun z => PyData.eqv z d)) H
theorem op_inA (hu : X.A.units + 65 < cLine) : OpR X (compareOp .In) (rInA X.K) := by
  intro pins s σ H x y v u Q I rx ry h
  obtain ⟨d, ds, hd, he, sd, se, q⟩ := h
  obtain ⟨as, r1⟩ := Dp.reads I d x v hd rx
  rcases he with he | he
  · obtain ⟨bs, r2⟩ := Dp.reads I (.list ds) y u he ry
    exact SeqAt.in_list_reads r2 r1 (SeqAt.canLay_of_shaped se) (SeqAt.canLay_of_shaped sd) (room_in_shaped sd hu) ⟨.bl _, H, I, rfl, q⟩
  · obtain ⟨bs, r2⟩ := Dp.reads I (.tuple ds) y u he ry
    exact SeqAt.in_tuple_reads r2 r1 (SeqAt.canLay_of_shaped se) (SeqAt.canLay_of_shaped sd) (room_in_shaped sd hu) ⟨.bl _, H, I, rfl, q⟩
theorem op_notInA (hu : X.A.units + 65 < cLine) : OpR X (compareOp .NotIn) (rNotInA X.K) := by
  intro pins s σ H x y v u Q I rx ry h
  obtain ⟨d, ds, hd, he, sd, se, q⟩ := h
  obtain ⟨as, r1⟩ := Dp.reads I d x v hd rx
  rcases he with he | he
  · obtain ⟨bs, r2⟩ := Dp.reads I (.list ds) y u he ry
    exact SeqAt.notIn_list_reads r2 r1 (SeqAt.canLay_of_shaped se) (SeqAt.canLay_of_shaped sd) (room_in_shaped sd hu) ⟨.bl _, H, I, rfl, q⟩
  · obtain ⟨bs, r2⟩ := Dp.reads I (.tuple ds) y u he ry
    exact SeqAt.notIn_tuple_reads r2 r1 (SeqAt.canLay_of_shaped se) (SeqAt.canLay_of_shaped sd) (room_in_shaped sd hu) ⟨.bl _, H, I, rfl, q⟩
theorem its_dp {K : PySem.W.Frag} {S : Addr → Bool} {M : MH} {H : Hp} {v : V} {d : Dv} {ds : List Dv} (hr : HR K S M H) (h : RD K (hid S M H) v d) (e : itsD M d = some ds) (o : datDs ds = true) : Dp K H v (.list (toPs ds)) ∨ Dp K H v (.tuple (toPs ds)) := by
  cases h with
  | tup ha ra => cases e; exact .inr (.tup (sqT_hid ha) (RDs.dp _ _ o ra))
  | lst ha ra => cases e; exact .inl (.lst (SqL.of (hid_some ha).1) (RDs.dp _ _ o ra))
  | scr ha => cases e; exact .inl (.lst (sqL_hid ha) (RDs.dp (S := S) (M := M) _ _ o (RDs.ints _)))
  | ref p =>
    unfold itsD at e
    simp only at e
    split at e
    · rename_i e1
      cases e
      obtain ⟨u, z1, z2⟩ := hr.obj _ _ e1
      cases z2 with
      | lst ra => exact .inl (.lst (SqL.of z1) (RDs.dp _ _ o ra))
    · cases e
  | _ => cases e
abbrev rInB (K : PySem.W.Frag) : R2 := fun x y H Q => rIn K false x y H Q ∨ rInA K x y H Q
abbrev rNotInB (K : PySem.W.Frag) : R2 := fun x y H Q => rIn K true x y H Q ∨ rNotInA K x y H Q
theorem o_in (hu : X.A.units + 65 < cLine) : Op X (compareOp .In) (rInB X.K) (gIn fun b => b) := by
  refine ⟨opr_or op_in_seq (op_inA hu), ?_⟩
  intro S H x y dx dy M Q R rx ry hr f q
  unfold gIn at f
  split at f
  · rename_i ds e
    split at f
    · rename_i fl
      rw [Bool.and_eq_true] at fl
      obtain ⟨a, vs, rfl, h1, h2⟩ := its_rd hr ry e
      refine .inl ⟨a, vs, rfl, h1, flat_rd rx fl.1, flats_rd h2 fl.2, ?_⟩
      show Q (.bl (inV x vs)) H
      unfold inV
      rw [inF_rd rx fl.1 h2 fl.2]
      exact q _ M _ H f Gr.refl (.bl _) hr
    · obtain ⟨h1, h2, f⟩ := f
      unfold shp at h1 h2
      rw [Bool.and_eq_true] at h1 h2
      have h3 : datDs ds = true := by simpa [datD] using h2.1
      exact .inr ⟨_, _, RD.dp _ _ h1.1 rx, its_dp hr ry e h3, h1.2, by simpa [toP] using h2.2, q _ M _ H f Gr.refl (.bl _) hr⟩
  · exact f.elim
theorem o_notIn (hu : X.A.units + 65 < cLine) : Op X (compareOp .NotIn) (rNotInB X.K) (gIn fun b => !b) := by
  refine ⟨opr_or op_notIn_seq (op_notInA hu), ?_⟩
  intro S H x y dx dy M Q R rx ry hr f q
  unfold gIn at f
  split at f
  · rename_i ds e
    split at f
    · rename_i fl
      rw [Bool.and_eq_true] at fl
      obtain ⟨a, vs, rfl, h1, h2⟩ := its_rd hr ry e
      refine .inl ⟨a, vs, rfl, h1, flat_rd rx fl.1, flats_rd h2 fl.2, ?_⟩
      show Q (.bl (!inV x vs)) H
      unfold inV
      rw [inF_rd rx fl.1 h2 fl.2]
      exact q _ M _ H f Gr.refl (.bl _) hr
    · obtain ⟨h1, h2, f⟩ := f
      unfold shp at h1 h2
      rw [Bool.and_eq_true] at h1 h2
      have h3 : datDs ds = true := by simpa [datD] using h2.1
      exact .inr ⟨_, _, RD.dp _ _ h1.1 rx, its_dp hr ry e h3, h1.2, by simpa [toP] using h2.2, q _ M _ H f Gr.refl (.bl _) hr⟩
  · exact f.elim
/-! ## is -/
theorem o_isN : Op X (compareOp .Is) (fun x y H Q => y = .non ∧ Q (.bl (decide (x = .non))) H) (gIsN fun b => b) := by
  refine ⟨op_isN, ?_⟩
  intro S H x y dx dy M Q R rx ry hr f q
  unfold gIsN at f
  split at f
  · cases ry
    exact ⟨rfl, by rw [isNon_rd rx]; exact q _ M _ H f Gr.refl (.bl _) hr⟩
  · exact f.elim
theorem o_notN : Op X (compareOp .IsNot) (fun x y H Q => y = .non ∧ Q (.bl (!decide (x = .non))) H) (gIsN fun b => !b) := by
  refine ⟨op_notN, ?_⟩
  intro S H x y dx dy M Q R rx ry hr f q
  unfold gIsN at f
  split at f
  · cases ry
    exact ⟨rfl, by rw [isNon_rd rx]; exact q _ M _ H f Gr.refl (.bl _) hr⟩
  · exact f.elim
def gIsB (k : Bool → Bool) : DO := fun x y M Q => match x, y with | .bl a, .bl b => Q (.bl (k (decide (a = b)))) M | _, _ => False
theorem o_isB : Op X (compareOp .Is) (fun x y H Q => ∃ a b, x = .bl a ∧ y = .bl b ∧ Q (.bl (decide (a = b))) H) (gIsB fun b => b) := by
  refine ⟨op_is_bl, ?_⟩
  intro S H x y dx dy M Q R rx ry hr f q
  unfold gIsB at f
  split at f
  · cases rx
    cases ry
    exact ⟨_, _, rfl, rfl, q _ M _ H f Gr.refl (.bl _) hr⟩
  · exact f.elim
theorem o_notB : Op X (compareOp .IsNot) (fun x y H Q => ∃ a b, x = .bl a ∧ y = .bl b ∧ Q (.bl (!decide (a = b))) H) (gIsB fun b => !b) := by
  refine ⟨op_isnot_bl, ?_⟩
  intro S H x y dx dy M Q R rx ry hr f q
  unfold gIsB at f
  split at f
  · cases rx
    cases ry
    exact ⟨_, _, rfl, rfl, q _ M _ H f Gr.refl (.bl _) hr⟩
  · exact f.elim
/-! ## type(x) is T -/
@[irreducible] def gTy : DL := fun ds M Q => match ds with
  | [.scr _] => False
  | [d] => match tyN M d with | some n => Q (.ty n) M | none => False
  | _ => False
theorem c_type : Cb X (.type "type") (rTypX X.K) gTy := by
  refine ⟨call_typX, ?_⟩
  intro S H vs ds M Q R rs hr f q
  unfold gTy at f
  split at f
  · exact f.elim
  · rename_i d ns
    obtain ⟨v, rfl, rd⟩ := rs.one
    split at f
    · rename_i e
      have go : Q (.ty _) H := q _ M _ H f Gr.refl (.ty _) hr
      cases rd with
      | non => cases e; exact typ_go rfl go
      | bl b => cases e; exact typ_go rfl go
      | int i => cases e; exact typ_go rfl go
      | str x => cases e; exact typ_go rfl go
      | tup ha ra => cases e; exact typ_goT (sqT_hid ha) go
      | lst ha ra => cases e; exact typ_go (by simp only [zTyV, (hid_some ha).1]) go
      | scr ha => exact (ns _ rfl).elim
      | ref a =>
        unfold tyN at e
        simp only at e
        split at e
        · rename_i e1
          cases e
          obtain ⟨w, z1, z2⟩ := hr.obj _ _ e1
          cases z2
          exact typ_go (by simp only [zTyV, z1]) go
        · rename_i e1
          cases e
          obtain ⟨w, z1, z2⟩ := hr.obj _ _ e1
          cases z2
          exact typ_goD z1 go
        · cases e
      | ty m => cases e
    · exact f.elim
  · exact f.elim
def gIsTy : DO := fun x y M Q => match x, y with | .ty a, .ty b => Q (.bl (decide (a = b))) M | _, _ => False
theorem o_isTy : Op X (compareOp .Is) (fun x y H Q => ∃ m n, x = .ty m ∧ y = .ty n ∧ Q (.bl (decide (m = n))) H) gIsTy := by
  refine ⟨op_isTy, ?_⟩
  intro S H x y dx dy M Q R rx ry hr f q
  unfold gIsTy at f
  split at f
  · cases rx
    cases ry
    exact ⟨_, _, rfl, rfl, q _ M _ H f Gr.refl (.bl _) hr⟩
  · exact f.elim
/-! ## match -/
inductive DPat where
  | lit (s : Str)
  | name
  | any
  | sub (f : Dv → Option (Option (List Dv)))
/-- is the data this word; none: it is not known -/
def eqLit (d : Dv) (s : Str) : Option Bool := match d with
  | .str x => some (decide (x = s))
  | .non => some false
  | .bl _ => some false
  | .int _ => some false
  | d => if shp d = true then some false else none
def matchP : List DPat → List Dv → Option (Option (List Dv))
  | [], _ => some (some [])
  | _ :: _, [] => none
  | .lit s :: ps, d :: ds => match eqLit d s with
    | none => none
    | some false => some none
    | some true => matchP ps ds
  | .name :: ps, d :: ds => match matchP ps ds with
    | some (some cs) => some (some (d :: cs))
    | r => r
  | .any :: ps, _ :: ds => matchP ps ds
  | .sub f :: ps, d :: ds => match f d with
    | none => none
    | some none => some none
    | some (some cs) => match matchP ps ds with
      | some (some es) => some (some (cs ++ es))
      | r => r
def RPs (K : PySem.W.Frag) (t : TPs) (ps : List DPat) : Prop := ∀ (S : Addr → Bool) (H : Hp) (M : MH) (vs : List V) (ds : List Dv) (Q : Option (List V) → Hp → Prop), ds.length = ps.length → RDs K (hid S M H) vs ds → HR K S M H →
  (match matchP ps ds with | none => False | some none => Q none H | some (some cs) => ∀ ws, RDs K (hid S M H) ws cs → Q (some ws) H) → t vs H Q
structure Pats (X : Cx) (ps : List Pattern) (ns : List Str) (t : TPs) (q : List DPat) : Prop where
  p : PPs X ps ns t
  r : RPs X.K t q
theorem eqv_strD (d : PyData) (s : Str) : PyData.eqv d (.str s) = (match d with | .str x => x == s | _ => false) := by
  cases d <;> simp [PyData.eqv]
theorem ps0 : Pats X [] [] tPNil [] := by
  refine ⟨pps_nil, ?_⟩
  intro S H M vs ds Q hl rs hr f
  cases ds with
  | nil => cases rs; exact ⟨rfl, f [] .nil⟩
  | cons _ _ => cases hl
def kLit (t : TPs) (vs : List V) (Q : Option (List V) → Hp → Prop) : Option (List V) → Hp → Prop := fun o H1 => match o with
  | none => Q none H1
  | some ws => t vs H1 fun o2 H2 => match o2 with
    | none => Q none H2
    | some zs => Q (some (ws ++ zs)) H2
theorem RPs.lit {K : PySem.W.Frag} {s : Str} {t : TPs} {q : List DPat} (h : RPs K t q) (hs : SeqAt.shaped (.str s) = true) : RPs K (tPCons (tPLit (rEqA K) (.str s)) t) (.lit s :: q) := by
  intro S H M vs ds Q hl rs hr f
  cases rs with
  | nil => cases hl
  | @cons v d vs ds a b =>
    refine ⟨v, vs, rfl, ?_⟩
    show (rEqA K) v (.str s) H fun b H1 => ∃ c, b = .bl c ∧ kLit t vs Q (if c = true then some [] else none) H1
    cases er : eqLit d s with
    | none =>
      rw [matchP, er] at f
      exact f.elim
    | some r =>
      have fin : ∀ c : Bool, c = r → kLit t vs Q (if c = true then some [] else none) H := by
        rintro c rfl
        rw [matchP, er] at f
        cases c with
        | false => exact f
        | true =>
          show t vs H _
          refine h S H M vs ds _ (by simpa using hl) b hr ?_
          cases e : matchP q ds with
          | none => rw [e] at f; exact f.elim
          | some o =>
            rw [e] at f
            cases o with
            | none => exact f
            | some cs => exact fun ws hw => f ws hw
      have other : ∀ (hd : datD d = true) (sd : SeqAt.shaped (toP d) = true) (ne : PyData.eqv (toP d) (.str s) = r), (rEqA K) v (.str s) H fun b H1 => ∃ c, b = .bl c ∧ kLit t vs Q (if c = true then some [] else none) H1 :=
        fun hd sd ne => .inr ⟨_, _, RD.dp _ _ hd a, .str s, sd, hs, _, rfl, fin _ ne⟩
      cases a with
      | non => cases er; exact .inl ⟨rfl, _, rfl, fin _ (decide_eq_false (by simp))⟩
      | bl b => cases er; exact .inl ⟨rfl, _, rfl, fin _ (decide_eq_false (by simp))⟩
      | int i => cases er; exact .inl ⟨rfl, _, rfl, fin _ (decide_eq_false (by simp))⟩
      | str y =>
        cases er
        refine .inl ⟨rfl, _, rfl, fin _ ?_⟩
        apply decide_eq_decide.mpr
        simp
      | ref p => simp [eqLit, shp, datD] at er
      | ty p => simp [eqLit, shp, datD] at er
      | _ =>
        unfold eqLit at er
        simp only at er
        split at er
        · rename_i e
          cases er
          unfold shp at e
          rw [Bool.and_eq_true] at e
          refine other e.1 e.2 ?_
          rw [eqv_strD]
          rfl
        · cases er
theorem ps_lit {s : Str} {jj : Nat} {p1 p2 : Pos} {ps : List Pattern} {ns : List Str} {t : TPs} {q : List DPat} (hu : X.A.units + 64 < cLine) (h : Pats X ps ns t q) (hs : SeqAt.shaped (.str s) = true := by decide +kernel) :
    Pats X (.MatchValue (.Constant (.str s) jj p1) p2 :: ps) ([] ++ ns) (tPCons (tPLit (rEqA X.K) (.str s)) t) (.lit s :: q) :=
  ⟨pps_cons (ppt_lit (y := .str s) pe_str (opr_or op_eq (op_eqD hu))) h.p, RPs.lit h.r hs⟩
theorem ps_name {s : Str} {p1 : Pos} {ps : List Pattern} {ns : List Str} {t : TPs} {q : List DPat} (h : Pats X ps ns t q) : Pats X (.MatchAs none (some s) p1 :: ps) ([s] ++ ns) (tPCons tPName t) (.name :: q) := by
  refine ⟨pps_cons ppt_name h.p, ?_⟩
  intro S H M vs ds Q hl rs hr f
  cases rs with
  | nil => cases hl
  | @cons v d vs ds a b =>
    refine ⟨v, vs, rfl, ?_⟩
    show t vs H fun o2 H2 => match o2 with | none => Q none H2 | some zs => Q (some ([v] ++ zs)) H2
    refine h.r S H M vs ds _ (by simpa using hl) b hr ?_
    rw [matchP] at f
    cases e : matchP q ds with
    | none => rw [e] at f; exact f.elim
    | some o =>
      rw [e] at f
      cases o with
      | none => exact f
      | some cs => exact fun ws hw => f (v :: ws) (.cons a hw)
theorem ps_any {p1 : Pos} {ps : List Pattern} {ns : List Str} {t : TPs} {q : List DPat} (h : Pats X ps ns t q) : Pats X (.MatchAs none none p1 :: ps) ([] ++ ns) (tPCons tPAny t) (.any :: q) := by
  refine ⟨pps_cons ppt_any h.p, ?_⟩
  intro S H M vs ds Q hl rs hr f
  cases rs with
  | nil => cases hl
  | @cons v d vs ds a b =>
    refine ⟨v, vs, rfl, ?_⟩
    show t vs H fun o2 H2 => match o2 with | none => Q none H2 | some zs => Q (some ([] ++ zs)) H2
    refine h.r S H M vs ds _ (by simpa using hl) b hr ?_
    rw [matchP] at f
    cases e : matchP q ds with
    | none => rw [e] at f; exact f.elim
    | some o =>
      rw [e] at f
      cases o with
      | none => exact f
      | some cs => exact fun ws hw => f ws hw
/-- names -/
structure Bds (X : Cx) (ns : List Str) (g : TGs) (ws : List Nat) (F : DGs) : Prop where
  p : PB X ns g
  r : RGs X.K g ws F
theorem b_nil : Bds X [] gNil [] sNil := ⟨pb_nil, RGs.nil⟩
theorem b_cons (i : Nat) {nm : Str} {ns : List Str} {g : TGs} {ws : List Nat} {F : DGs} (hN : X.N.Nodup) (h : Bds X ns g ws F) (hi : X.N[i]? = some nm := by rfl) (hx : Loc X.env.scope nm := by first | exact Or.inl rfl | exact Or.inr rfl) (hf : X.fn nm = true ∨ X.env.scope.names.lookup nm = some .local := by first | exact .inl rfl | exact .inr rfl | assumption) :
    Bds X (nm :: ns) (gCons (gName i) g) ([i] ++ ws) (sCons (sName i) F) := ⟨pb_cons hN hi hx hf h.p, RGs.cons (RG.name i) h.r⟩
abbrev DCs := Dv → DS
def RCs (K : PySem.W.Frag) (t : V → TS) (F : DCs) : Prop := ∀ (S : Addr → Bool) (σ : L2.St) (H : Hp) (env : DEnv) (M : MH) (D : Ends) (E : DEnds) (v : V) (d : Dv), RD K (hid S M H) v d → RN K (hid S M H) σ env → HR K S M H → F d E env M → Cnv K S M H E D → t v D σ H
structure Cs (X : Cx) (cs : List MatchCase) (t : V → TS) (F : DCs) : Prop where
  p : PCs X cs t
  r : RCs X.K t F
theorem cs_nil : Cs X [] (fun _ D σ H => D.nx σ H) (fun _ => dNext) := ⟨pcs_nil, fun S σ H env M D E v d rd rn hr f c => c.nx env M σ H f Gr.refl rn hr⟩
theorem cs_any {body : List Stmt} {rest : List MatchCase} {pos : Pos} (hb : Ss X body t T) : Cs X (⟨.MatchAs none none pos, none, body⟩ :: rest) (fun _ => t) (fun _ => T) := ⟨pcs_any hb.p, fun S σ H env M D E v d rd rn hr f c => hb.r S σ H env M D E rn hr f c⟩
@[irreducible] def dCase (q : List DPat) (Fs : DGs) (T : DS) (R : DCs) : DCs := fun d E env M => match d with
  | .tup ds => if ds.length = q.length then match matchP q ds with
      | none => False
      | some none => R d E env M
      | some (some cs) => Fs cs env M fun env1 M1 => T E env1 M1
    else R d E env M
  | .non => R d E env M
  | .bl _ => R d E env M
  | .int _ => R d E env M
  | .str _ => R d E env M
  | _ => False
theorem cs_seq {ps : List Pattern} {ns : List Str} {body : List Stmt} {rest : List MatchCase} {tp : TPs} {tg : TGs} {tr : V → TS} {pos : Pos} {q : List DPat} {ws : List Nat} {Fs : DGs} {R : DCs} (hc : X.calm = true) (hp : Pats X ps ns tp q) (hg : Bds X ns tg ws Fs) (hb : Ss X body t T) (hr : Cs X rest tr R)
    (hn : ps.length = q.length := by rfl) (hstar : ps.findIdx? (·.isStar) = none := by rfl) (hwild : (ps.all fun p => p.isWildcard || (p.isStar && p.names.isEmpty)) = false := by rfl) :
    Cs X (⟨.MatchSequence ps pos, none, body⟩ :: rest) (tCase X.K q.length tp tg t tr) (dCase q Fs T R) := by
  refine ⟨pcs_seq hc hp.p hg.p hb.p hr.p hn hstar hwild, ?_⟩
  intro S σ H env M D E v d rd rn hr' f c
  unfold dCase at f
  split at f
  · cases rd with
    | tup ha ra =>
      refine .inr ⟨_, _, rfl, sqT_hid ha, fun nl => ?_, fun yl => ?_⟩
      · rw [if_neg (by rw [← ra.len]; exact nl)] at f
        exact hr.r S σ H env M D E _ _ (.tup ha ra) rn hr' f c
      · rw [if_pos (by rw [← ra.len]; exact yl)] at f
        refine hp.r S H M _ _ _ (by rw [← ra.len]; exact yl) ra hr' ?_
        split at f
        · exact f.elim
        · exact hr.r S σ H env M D E _ _ (.tup ha ra) rn hr' f c
        · rename_i cs e
          intro ws hw
          refine hg.r S σ H ws cs env M _ _ hw rn hr' f fun env1 M1 σ1 H1 f1 g1 rn1 hr1 _ => ?_
          exact hb.r S σ1 H1 env1 M1 D E rn1 hr1 f1 (c.from g1)
  · cases rd; exact .inl ⟨trivial, hr.r S σ H env M D E _ _ .non rn hr' f c⟩
  · cases rd; exact .inl ⟨trivial, hr.r S σ H env M D E _ _ (.bl _) rn hr' f c⟩
  · cases rd; exact .inl ⟨trivial, hr.r S σ H env M D E _ _ (.int _) rn hr' f c⟩
  · cases rd; exact .inl ⟨trivial, hr.r S σ H env M D E _ _ (.str _) rn hr' f c⟩
  · exact f.elim
def dMatch (A : DE) (F : DCs) : DS := fun E env M => A env M fun d M1 => F d E env M1
theorem s_match {cs : List MatchCase} {tc : V → TS} {F : DCs} (h : Ex X e te A) (hc : Cs X cs tc F) : Sm X (.Match e cs pos) (tMatch te tc) (dMatch A F) := by
  refine ⟨ps_match h.p hc.p, ?_⟩
  intro S σ H env M D E rn hr f c
  refine h.r S σ H env M _ _ rn hr f fun d M1 v H1 f1 g1 r1 hr1 => ?_
  exact hc.r S σ H1 env M1 D E v d r1 (rn.same g1.same) hr1 f1 (c.from g1)
/-! ## lists that change -/
/-- a method of a list with one argument -/
def dMeth1 (A : DE) (G : DA) (g : Addr → List Dv → List Dv → MH → DK → Prop) : DE := fun env M Q => A env M fun o M1 => match o with
  | .ref p => match M1 p with
    | some (.lst _) => G env M1 fun ds M2 => match M2 p with
      | some (.lst xs) => g p xs ds M2 Q
      | _ => False
    | _ => False
  | _ => False
def RMt (K : PySem.W.Frag) (r : V → List V → Hp → VK → Prop) (g : Addr → List Dv → List Dv → MH → DK → Prop) : Prop := ∀ (S : Addr → Bool) (H : Hp) (p : Addr) (vs : List V) (xs ds : List Dv) (M : MH) (Q : VK) (R : DK), M p = some (.lst xs) → RDs K (hid S M H) vs ds → HR K S M H → g p xs ds M R →
  (∀ d M' v H', R d M' → Gr S M H M' H' → RD K (hid S M' H') v d → HR K S M' H' → Q v H') → r (.ref p) vs H Q
theorem RE.meth1 {K : PySem.W.Frag} {r : V → List V → Hp → VK → Prop} {g : Addr → List Dv → List Dv → MH → DK → Prop} (hm : RMt K r g) (h1 : RE K to_ A) (h2 : RA K tt n G) : RE K (tBM K "list" r to_ tt) (dMeth1 A G g) := by
  intro S σ H env M Q R rn hr f q
  refine h1 S σ H env M _ _ rn hr f fun o M1 v H1 f1 g1 r1 hr1 => ?_
  split at f1
  · cases r1
    split at f1
    · rename_i e1
      obtain ⟨u, z1, z2⟩ := hr1.obj _ _ e1
      cases z2 with
      | lst ra =>
        refine ⟨.inl ⟨rfl, _, SqL.of z1⟩, ?_⟩
        refine h2 S σ H1 env M1 _ _ (rn.same g1.same) hr1 f1 fun ds M2 vs H2 f2 l2 g2 r2 hr2 => ?_
        split at f2
        · rename_i e2
          exact hm S H2 _ vs _ ds M2 Q R e2 r2 hr2 f2 fun d M' v H' h k rd hr' => q d M' v H' h ((g1.trans g2).trans k) rd hr'
        · exact f2.elim
    · exact f1.elim
  · exact f1.elim
theorem RE.meth0 {K : PySem.W.Frag} {r : V → List V → Hp → VK → Prop} {g : Addr → List Dv → List Dv → MH → DK → Prop} (hm : RMt K r g) (h1 : RE K to_ A) : RE K (tBM0 K "list" r to_) (dMeth1 A dANil g) := by
  intro S σ H env M Q R rn hr f q
  refine h1 S σ H env M _ _ rn hr f fun o M1 v H1 f1 g1 r1 hr1 => ?_
  split at f1
  · cases r1
    split at f1
    · rename_i e1
      obtain ⟨u, z1, z2⟩ := hr1.obj _ _ e1
      cases z2 with
      | lst ra =>
        refine ⟨.inl ⟨rfl, _, SqL.of z1⟩, ?_⟩
        have f1 : match M1 _ with | some (.lst xs) => g _ xs [] M1 R | _ => False := f1
        split at f1
        · rename_i e2
          exact hm S H1 _ [] _ [] M1 Q R e2 .nil hr1 f1 fun d M' v H' h k rd hr' => q d M' v H' h (g1.trans k) rd hr'
        · exact f1.elim
    · exact f1.elim
  · exact f1.elim
def gApp : Addr → List Dv → List Dv → MH → DK → Prop := fun p xs ds M Q => match ds with
  | [y] => xs.length < sizeLine ∧ Q .non (mup M p (.lst (xs ++ [y])))
  | _ => False
theorem mt_app {K : PySem.W.Frag} : RMt K rAppend gApp := by
  intro S H p vs xs ds M Q R e rs hr f q
  unfold gApp at f
  split at f
  · obtain ⟨v, rfl, rd⟩ := rs.one
    obtain ⟨u, z1, z2⟩ := hr.obj _ _ e
    cases z2 with
    | lst ra =>
      obtain ⟨g, hr'⟩ := hr.put (o := .lst (_ ++ [v])) e (.lst (ra.app (.cons rd .nil)))
      exact ⟨p, _, v, rfl, rfl, z1, by rw [ra.len]; exact f.1, q _ _ _ _ f.2 g .non hr'⟩
  · exact f.elim
def gExt : Addr → List Dv → List Dv → MH → DK → Prop := fun p xs ds M Q => match ds with
  | [.lst ys] => xs.length + ys.length ≤ sizeLine ∧ Q .non (mup M p (.lst (xs ++ ys)))
  | _ => False
theorem mt_ext {K : PySem.W.Frag} : RMt K rExtend gExt := by
  intro S H p vs xs ds M Q R e rs hr f q
  unfold gExt at f
  split at f
  · obtain ⟨v, rfl, rd⟩ := rs.one
    obtain ⟨u, z1, z2⟩ := hr.obj _ _ e
    cases z2 with
    | lst ra =>
      cases rd with
      | lst hb rb =>
        obtain ⟨g, hr'⟩ := hr.put (o := .lst (_ ++ _)) e (.lst (ra.app rb))
        exact ⟨p, _, _, _, rfl, rfl, z1, (hid_some hb).1, by rw [ra.len, rb.len]; exact f.1, q _ _ _ _ f.2 g .non hr'⟩
  · exact f.elim
def gPop : Addr → List Dv → List Dv → MH → DK → Prop := fun p xs ds M Q => match ds, xs[xs.length - 1]? with
  | [], some y => Q y (mup M p (.lst xs.dropLast))
  | _, _ => False
theorem RDs.init {K : PySem.W.Frag} {G : Hp} {vs : List V} {ds : List Dv} (h : RDs K G vs ds) : RDs K G vs.dropLast ds.dropLast := by
  rw [List.dropLast_eq_take, List.dropLast_eq_take, h.len]
  exact h.take _
theorem mt_popD {K : PySem.W.Frag} : RMt K rPop gPop := by
  intro S H p vs xs ds M Q R e rs hr f q
  unfold gPop at f
  split at f
  · rename_i y ey
    cases rs
    obtain ⟨u, z1, z2⟩ := hr.obj _ _ e
    cases z2 with
    | lst ra =>
      obtain ⟨v, ev, rd⟩ := ra.at ey
      obtain ⟨g, hr'⟩ := hr.put (o := .lst _) e (.lst ra.init)
      exact ⟨p, _, v, rfl, rfl, z1, by rw [ra.len]; exact ev, q _ _ _ _ f g (RD.same g.same _ _ rd) hr'⟩
  · exact f.elim
theorem d_append (h1 : Ex X o to_ A) (h2 : As X (e :: es) tt n G) {ap : Pos} (st : starEach (e :: es) X.env = (false, eval e X.env) :: starEach es X.env := by rfl) (pl : (backTo pos (starEach es X.env)).any (·.1) = false := by rfl) (hp : PE X (.Call (.Attribute o "append" ap) (e :: es) [] pos) (tBM X.K "list" rAppend to_ tt)) :
    Ex X (.Call (.Attribute o "append" ap) (e :: es) [] pos) (tBM X.K "list" rAppend to_ tt) (dMeth1 A G gApp) := ⟨hp, RE.meth1 mt_app h1.r h2.r⟩
/-- xs[i] = v -/
def dPut (A O I : DE) : DS := fun E env M => A env M fun v M1 => O env M1 fun o M2 => I env M2 fun i M3 => match o, i with
  | .ref p, .int k => match M3 p with
    | some (.lst xs) => match ixN xs.length k with
      | some j => E.nx env (mup M3 p (.lst (xs.set j v)))
      | none => False
    | _ => False
  | _, _ => False
theorem RDs.set {K : PySem.W.Frag} {G : Hp} {v : V} {d : Dv} (r : RD K G v d) : ∀ {vs : List V} {ds : List Dv} (j : Nat), RDs K G vs ds → RDs K G (vs.set j v) (ds.set j d)
  | _, _, _, .nil => .nil
  | _, _, 0, .cons _ b => .cons r b
  | _, _, j + 1, .cons a b => .cons a (RDs.set r j b)
theorem s_putL {te2 ti2 : TE} {A O I2 : DE} {st : Stmt} (h : PS X st (tAsg te (gSub te2 ti2 rSetL))) (h1 : RE X.K te A) (h2 : RE X.K te2 O) (h3 : RE X.K ti2 I2) : Sm X st (tAsg te (gSub te2 ti2 rSetL)) (dPut A O I2) := by
  refine ⟨h, ?_⟩
  intro S σ H env M D E rn hr f c
  refine h1 S σ H env M _ _ rn hr f fun v M1 x H1 f1 g1 r1 hr1 => ?_
  refine h2 S σ H1 env M1 _ _ (rn.same g1.same) hr1 f1 fun o M2 y H2 f2 g2 r2 hr2 => ?_
  refine h3 S σ H2 env M2 _ _ (rn.same (g1.trans g2).same) hr2 f2 fun i M3 z H3 f3 g3 r3 hr3 => ?_
  split at f3
  · split at f3
    · rename_i e
      split at f3
      · rename_i j ej
        cases r2
        cases r3
        obtain ⟨u, z1, z2⟩ := hr3.obj _ _ e
        cases z2 with
        | lst ra =>
          have rx := RD.same (g2.trans g3).same _ _ r1
          obtain ⟨g, hr'⟩ := hr3.put (o := .lst _) e (.lst (ra.set rx j))
          have gg := ((g1.trans g2).trans g3).trans g
          exact ⟨_, _, _, j, rfl, rfl, z1, by rw [ra.len]; exact ej, c.nx env _ σ _ f3 gg (rn.same gg.same) hr'⟩
      · exact f3.elim
    · exact f3.elim
  · exact f3.elim
end
end Vk
set_option linter.unusedVariables false
namespace Vk
open PySem PySem.Spec PyProof.Rows L2
/-! # The data layer: texts times numbers, methods of lists, small things -/
/-- a text n times -/
def repS (z : Str) (n : Nat) : Str := ⟨(List.replicate n z.cps).foldl (· ++ ·) #[]⟩
theorem foldS (l : List (Array Nat)) : ∀ acc : Array Nat, l.foldl (· ++ ·) acc = acc ++ l.foldl (· ++ ·) #[] := by
  induction l with
  | nil => intro acc; simp
  | cons a r ih =>
    intro acc
    rw [List.foldl_cons, ih, List.foldl_cons, ih (#[] ++ a)]
    simp [Array.append_assoc]
theorem repS_size (z : Array Nat) : ∀ n, ((List.replicate n z).foldl (· ++ ·) #[]).size = n * z.size
  | 0 => by simp
  | n + 1 => by
    have ih := repS_size z n
    rw [List.replicate_succ, List.foldl_cons, foldS]
    simp only [Array.size_append, ih]
    simp only [Array.size_empty]
    rw [Nat.succ_mul]
    omega
theorem repS_length (z : Str) (n : Nat) : (repS z n).length = n * z.length := repS_size z.cps n
theorem repS_codes (z : Str) : ∀ n, (repS z n).cps.toList = (List.replicate n z.cps.toList).flatten
  | 0 => by simp [repS]
  | n + 1 => by
    have ih := repS_codes z n
    unfold repS at ih ⊢
    rw [List.replicate_succ, List.foldl_cons, foldS, List.replicate_succ, List.flatten_cons]
    simp only [Array.toList_append] at ih ⊢
    rw [ih]
    simp
def rMulE : R2 := fun x y H Q => ∃ z n, x = .str z ∧ y = .int n ∧ 0 ≤ n ∧ n ≤ 1000 ∧ z.length ≤ 1000 ∧ Q (.str (repS z n.toNat)) H
section
variable {X : Cx} {a b c e o : Expr} {es : List Expr} {ta tb tc te to_ : TE} {ti tj : TT} {tt : TA} {n k j : Nat} {A B C D : DE} {I J : DT} {G : DA} {pos p apos : Pos} {F : DF} {x : Str} {sts : List Stmt} {t : TS} {T : DS}
theorem str_nil {z : Str} (h : z.length = 0) : z = Str.empty := by
  cases z with
  | mk c =>
    have : c = #[] := Array.eq_empty_of_size_eq_zero h
    rw [this]
    rfl
theorem op_mulE : OpR X (binaryOp .Mult) rMulE := by
  intro pins s σ H x y v u Q I rx ry h
  obtain ⟨z, n, rfl, rfl, n0, n1, hz, q⟩ := h
  obtain ⟨t, rfl⟩ := rx
  obtain ⟨t', rfl⟩ := ry
  have hline : (sizeLine : Nat) = 16777216 := sizeLine_eq
  have hz2 : z.length * n.toNat ≤ 1000 * 1000 := Nat.mul_le_mul hz (by omega)
  refine PySem.P.mul_str ?_ ?_ ?_ ?_
  · have h1 : ¬ n < -(2 ^ 63 : Int) := by omega
    have h2 : ¬ n ≥ 2 ^ 63 := by omega
    rw [decide_eq_false h1, decide_eq_false h2]
    rfl
  · intro h1 _ h3
    have h4 : (z.length : Int) * n ≤ 2 ^ 63 - 1 := by
      have e : (z.length : Int) * n = ((z.length * n.toNat : Nat) : Int) := by
        rw [Int.natCast_mul, Int.toNat_of_nonneg n0]
      rw [e]
      omega
    have h5 := Int.le_ediv_of_mul_le (show 0 < n by omega) h4
    omega
  · intro _ _
    unfold Builtin.Str.tooLong
    exact decide_eq_false (by omega)
  · split
    · rename_i c1
      have e : repS z n.toNat = Str.empty := str_nil (by rw [repS_length, show n.toNat = 0 by omega]; omega)
      rw [e] at q
      exact ⟨by decide, .str Str.empty, H, I.tok _, ⟨_, rfl⟩, q⟩
    · split
      · rename_i c1 c2
        have ez : repS z n.toNat = z := by
          rcases Bool.or_eq_true_iff.mp c2 with e | e
          · have e2 : n = 1 := by simpa using e
            subst e2
            show repS z 1 = z
            unfold repS
            simp
          · have e2 : z.length = 0 := by simpa using e
            rw [str_nil e2]
            exact str_nil (by rw [repS_length]; show _ * 0 = 0; omega)
        rw [ez] at q
        exact ⟨.str z, H, I, ⟨_, rfl⟩, q⟩
      · have sz : (repS z n.toNat).length = z.length * n.toNat := by rw [repS_length, Nat.mul_comm]
        exact ⟨by unfold repS at sz; rw [sz]; omega, .str _, H, I.tok _, ⟨_, rfl⟩, q⟩
def gMul : DO := fun x y M Q => match x, y with
  | .int i, .int j => CMul i j ∧ Q (.int (i * j)) M
  | .str z, .int k => (0 ≤ k ∧ k ≤ 1000 ∧ z.length ≤ 1000) ∧ Q (.str (repS z k.toNat)) M
  | .tup ds, .int k => (ds ≠ [] ∧ 2 ≤ k ∧ k ≤ 1000 ∧ ds.length ≤ 1000) ∧ Q (.tup (List.replicate k.toNat ds).flatten) M
  | _, _ => False
abbrev rMulA (K : PySem.W.Frag) : R2 := fun x y H Q => rI CMul (fun i j => .int (i * j)) x y H Q ∨ rMulE x y H Q ∨ rRepT K x y H Q
theorem o_mulA : Op X (binaryOp .Mult) (rMulA X.K) gMul := by
  refine ⟨opr_or op_mul (opr_or op_mulE op_repT), ?_⟩
  intro S H x y dx dy M Q R rx ry hr f q
  unfold gMul at f
  split at f
  · cases rx
    cases ry
    exact .inl ⟨_, _, rfl, rfl, f.1, q _ M _ H f.2 Gr.refl (.int _) hr⟩
  · cases rx
    cases ry
    obtain ⟨⟨h1, h2, h3⟩, f⟩ := f
    exact .inr (.inl ⟨_, _, rfl, rfl, h1, h2, h3, q _ M _ H f Gr.refl (.str _) hr⟩)
  · obtain ⟨⟨h1, h2, h3, h4⟩, f⟩ := f
    cases ry
    cases rx with
    | tup ha ra =>
      refine .inr (.inr ⟨_, _, _, rfl, rfl, sqT_hid ha, fun z => h1 (ra.isNil.mp z), h2, h3, by rw [ra.len]; exact h4, fun p hp => ?_⟩)
      obtain ⟨g, hr', rd⟩ := RD.newT hr hp (ra.rep _)
      exact q _ M _ _ f g rd hr'
  · exact f.elim
/-- a method of a list, by its rule -/
theorem d_bm {id : String} {name : Str} {r : V → List V → Hp → VK → Prop} {g : Addr → List Dv → List Dv → MH → DK → Prop} {cpos : Pos} (pa : PlainAttrs "list") (slot : Slot "list" name id) (hty : typeOf (.builtin id) = pure (.type "method_descriptor")) (hm : MtR X id r) (hR : RMt X.K r g) (h1 : Ex X o to_ A) (h2 : As X (e :: es) tt n G)
    (hbase : attributeBase o name X.env (eval o X.env) = eval o X.env := by rfl)
    (hfew : ((backTo cpos (starEach (e :: es) X.env)).all (fun x => !x.1) && (backToKw cpos (keywordEach [] X.env)).all (fun x => x.1.isSome)
      && decide ((e :: es).length + ([] : List Keyword).length + (if ([] : List Keyword).isEmpty then 0 else 1) < 30)) = true := by rfl)
    (hline : (apos.endLine == cpos.line) = true := by rfl) (hs : starEach (e :: es) X.env = (false, eval e X.env) :: starEach es X.env := by rfl) (hplain : (backTo cpos (starEach es X.env)).any (·.1) = false := by rfl) :
    Ex X (.Call (.Attribute o name apos) (e :: es) [] cpos) (tBM X.K "list" r to_ tt) (dMeth1 A G g) := ⟨pe_bm pa slot hty hm h1.p h2.p hbase hfew hline hs hplain, RE.meth1 hR h1.r h2.r⟩
theorem d_bm0 {id : String} {name : Str} {r : V → List V → Hp → VK → Prop} {g : Addr → List Dv → List Dv → MH → DK → Prop} {cpos : Pos} (pa : PlainAttrs "list") (slot : Slot "list" name id) (hty : typeOf (.builtin id) = pure (.type "method_descriptor")) (hm : MtR X id r) (hR : RMt X.K r g) (h1 : Ex X o to_ A)
    (hbase : attributeBase o name X.env (eval o X.env) = eval o X.env := by rfl) (hline : (apos.endLine == cpos.line) = true := by rfl) :
    Ex X (.Call (.Attribute o name apos) [] [] cpos) (tBM0 X.K "list" r to_) (dMeth1 A dANil g) := ⟨pe_bm0 pa slot hty hm h1.p hbase hline, RE.meth0 hR h1.r⟩
theorem units5 {k : Nat} {A : Around} (r : Room k A) : A.units + 65 < cLine := by have := r.un; omega
/-! ## constants of the module -/
theorem rd_tupK {K : PySem.W.Frag} {a : Addr} {od : Option Addr} {its : Array Value} {m : Nat} {sl : Array (Option Value)} {vs : List V} {ds : List Dv} (h : K.lookup a = some ⟨.type "tuple", od, .seq its m, sl⟩) (hz : its.size ≤ sizeLine) (hv : Vals vs its.toList) (G : Hp) (hd : RDs K G vs ds) : RD K G (.ref a) (.tup ds) :=
  .tup (.inr ⟨_, its, m, h, rfl, rfl, hz, hv⟩) hd
theorem d_cint {x : Str} {i : Int} {pos : Pos} (hg : Gl X x) (h : ∃ t, X.mg x = some (.int i t)) (hd : (x == ("__debug__" : Str)) = false := by decide) : Ex X (.Name x pos) (tC (.int i)) (dC (.int i)) := by
  obtain ⟨t, h⟩ := h
  exact d_glob hg h ⟨_, rfl⟩ (fun _ => .int i) hd
theorem d_ctup {x : Str} {ds : List Dv} {a : Addr} {pos : Pos} (hg : Gl X x) (h : X.mg x = some (.ref a)) (hr : ∀ G, RD X.K G (.ref a) (.tup ds)) (hd : (x == ("__debug__" : Str)) = false := by decide) : Ex X (.Name x pos) (tC (.ref a)) (dC (.tup ds)) :=
  d_glob (v := .ref a) hg h rfl hr hd
/-! ## invariants that are often wanted -/
/-- a comprehension whose items do not change the state -/
theorem dLc_map {W : DI} {g : DG} {A : DE} {vs : List Nat} {env : DEnv} {M : MH} {Q : DK} (items : List Dv) (f : Dv → Dv) (inv : MH → Prop) (hW : ∀ R : List Dv → (MH → Prop) → MH → Prop, R items inv M → W env M R) (hz : items.length ≤ sizeLine) (hin : inv M)
    (step : ∀ d, d ∈ items → ∀ R : DK, R (f d) M → g d (wipeD env vs) M fun env1 M2 => A env1 M2 R) (q : Q (.lst (items.map f)) M) : dLc W g dYes A vs env M Q := by
  unfold dLc
  refine hW _ ⟨hz, fun i acc M' => acc = (items.take i).map f ∧ M' = M, ⟨by simp, rfl⟩, fun i acc M' h => by rw [h.2]; exact hin, ?_, ?_⟩
  · rintro i d acc M' hd ⟨rfl, rfl⟩
    have hmem : d ∈ items := List.mem_of_getElem? hd
    exact step d hmem (fun y M4 => (items.take i).map f ++ [y] = (items.take (i + 1)).map f ∧ M4 = M') ⟨by rw [take_next hd, List.map_append]; rfl, rfl⟩
  · rintro acc M' ⟨rfl, rfl⟩
    rw [List.take_length]
    exact q
/-- a comprehension whose items do not change the state, told by a property of each item -/
theorem dLc_at {W : DI} {g : DG} {A : DE} {vs : List Nat} {env : DEnv} {M : MH} {Q : DK} (items : List Dv) (p : Nat → Dv → Prop) (inv : MH → Prop) (hW : ∀ R : List Dv → (MH → Prop) → MH → Prop, R items inv M → W env M R) (hz : items.length ≤ sizeLine) (hin : inv M)
    (step : ∀ i d, items[i]? = some d → ∀ R : DK, (∀ y, p i y → R y M) → g d (wipeD env vs) M fun env1 M2 => A env1 M2 R) (q : ∀ acc, acc.length = items.length → (∀ i y, acc[i]? = some y → p i y) → Q (.lst acc) M) : dLc W g dYes A vs env M Q := by
  unfold dLc
  refine hW _ ⟨hz, fun i acc M' => (acc.length = i ∧ ∀ j y, acc[j]? = some y → p j y) ∧ M' = M, ⟨⟨rfl, fun j y h => by simp at h⟩, rfl⟩, fun i acc M' h => by rw [h.2]; exact hin, ?_, ?_⟩
  · rintro i d acc M' hd ⟨⟨hl, hp⟩, rfl⟩
    refine step i d hd (fun y M4 => ((acc ++ [y]).length = i + 1 ∧ ∀ j z, (acc ++ [y])[j]? = some z → p j z) ∧ M4 = M') fun y hy => ⟨⟨by rw [List.length_append, hl]; rfl, fun j z hz => ?_⟩, rfl⟩
    by_cases c : j < acc.length
    · rw [List.getElem?_append_left c] at hz
      exact hp j z hz
    · rw [List.getElem?_append_right (by omega)] at hz
      cases e : j - acc.length with
      | zero =>
        rw [e] at hz
        simp at hz
        subst hz
        have : j = i := by omega
        rw [this]
        exact hy
      | succ m =>
        rw [e] at hz
        simp at hz
  · rintro acc M' ⟨⟨hl, hp⟩, rfl⟩
    exact q acc hl hp
/-- a for in which every turn leaves names and state as they were, or returns -/
theorem forI_same {g : DG} {body : DS} {E : DEnds} {env : DEnv} {M : MH} (items : List Dv) (inv : MH → Prop) (hin : inv M) (I : DEnv → Prop) (h0 : I env)
    (step : ∀ d, d ∈ items → ∀ e, I e → g d e M fun env1 M1 => body { E with nx := fun e' M' => I e' ∧ M' = M, ct := fun e' M' => I e' ∧ M' = M, bk := E.nx } env1 M1) (fin : ∀ e, I e → E.nx e M) :
    ∃ I : Nat → DEnv → MH → Prop, I 0 env M ∧ (∀ i env M, I i env M → inv M) ∧ (∀ i d env M, items[i]? = some d → I i env M → g d env M fun env1 M1 => body { E with nx := I (i + 1), ct := I (i + 1), bk := E.nx } env1 M1) ∧ ∀ env M, I items.length env M → E.nx env M := by
  refine ⟨fun i e M' => I e ∧ M' = M, ⟨h0, rfl⟩, fun i e M' h => by rw [h.2]; exact hin, ?_, ?_⟩
  · rintro i d e M' hd ⟨he, rfl⟩
    exact step d (List.mem_of_getElem? hd) e he
  · rintro e M' ⟨he, rfl⟩
    exact fin e he
theorem dFor_same {W : DI} {g : DG} {body : DS} {E : DEnds} {env : DEnv} {M : MH} (items : List Dv) (inv : MH → Prop) (hW : ∀ R : List Dv → (MH → Prop) → MH → Prop, R items inv M → W env M R) (hin : inv M) (I : DEnv → Prop) (h0 : I env)
    (step : ∀ d, d ∈ items → ∀ e, I e → g d e M fun env1 M1 => body { E with nx := fun e' M' => I e' ∧ M' = M, ct := fun e' M' => I e' ∧ M' = M, bk := E.nx } env1 M1) (fin : ∀ e, I e → E.nx e M) : dFor W g body E env M := by
  unfold dFor
  exact hW _ (forI_same items inv hin I h0 step fin)
end
/-! ## a def that leaves objects of its own behind -/
def MLe (M M' : MH) : Prop := ∀ a o, M a = some o → M' a = some o
theorem MLe.refl {M : MH} : MLe M M := fun _ _ h => h
theorem MLe.up {M : MH} {p : Addr} {o : MO} (h : M p = none) : MLe M (mup M p o) := fun a u e => by
  rw [mup_ne (fun z => by subst z; rw [h] at e; cases e)]
  exact e
theorem MLe.hid {S : Addr → Bool} {M M' : MH} {H : Hp} (h : MLe M M') : Same (hid S M' H) (hid S M H) := fun a o e => by
  obtain ⟨y1, y2, y3⟩ := hid_some e
  rw [hid_of y2]
  · exact y1
  · cases c : M a with
    | none => rfl
    | some u => rw [h a u c] at y3; cases y3
theorem HR.less {K : PySem.W.Frag} {S : Addr → Bool} {M M' : MH} {H : Hp} (h : MLe M M') (r : HR K S M' H) : HR K S M H := by
  refine ⟨fun a o e => ?_, fun a ha => ?_⟩
  · obtain ⟨u, y1, y2⟩ := r.obj a o (h a o e)
    exact ⟨u, y1, y2.same h.hid⟩
  · obtain ⟨y1, y2⟩ := r.apart a ha
    refine ⟨?_, y2⟩
    cases c : M a with
    | none => rfl
    | some u => rw [h a u c] at y1; cases y1
theorem Gr.less {S : Addr → Bool} {M M1 M' : MH} {H H' : Hp} (h : MLe M1 M') (g : Gr S M H M' H') : Gr S M H M1 H' := ⟨g.same.trans h.hid, g.hold⟩
theorem dfunG {P : Program} {w : World} {K : PySem.W.Frag} {mg : Str → Option Value} {base : Heap} {k : Nat} {f : Addr} {fd : FuncData} {ps N : List Str} {x qual : Str} {st : Stmt} {F : DF}
    (Fn : L2.Fun K x qual st f fd) (S : FnScope N ps (defScope st)) (len : ∀ ds M R, F ds M R → ds.length = ps.length)
    (body : ∀ (cd : Value) (A : Around) (out : List Env) (s : Shared) (H : Hp) (E : XK), (A.deeper (envOfC qual (defScope st) s.heap.objs.size f cd)).guards = some [] → Room k (A.deeper (envOfC qual (defScope st) s.heap.objs.size f cd)) →
      ∃ t G, Ss (cxOf CX0 P w K mg base N qual (defScope st) f cd A out s H E).nox (defBody st) t G ∧
        ∀ ds M (R : DK), F ds M R → G { nx := fun _ M' => ∃ M'', MLe M'' M' ∧ R .non M'', rt := fun d M' => ∃ M'', MLe M'' M' ∧ R d M'' } (dstart N ds) M) : Gk P w K mg base (k + 1) f fd ps (spD K F) := by
  refine okG Fn S (fun vs H Q E h => ?_) (fun cd A out s H vs Q E hg hr h => ?_)
  · obtain ⟨S', ds, M, R, h1, _, h2, _⟩ := h
    rw [h1.len]
    exact len ds M R h2
  · obtain ⟨S', ds, M, R, h1, hr', h2, q⟩ := h
    obtain ⟨t, G, hs, hb⟩ := body cd A out s H E hg hr
    refine ⟨t, hs.p, ?_⟩
    refine hs.r S' (L2.start N vs) H (dstart N ds) M _ _ (RN.start N h1) hr' (hb ds M R h2) ⟨fun env' M' σ' H' e g rn hr2 => ?_, fun _ _ _ _ e _ _ _ => e.elim, fun _ _ _ _ e _ _ _ => e.elim, fun d M' v H' e g rd hr2 => ?_⟩
    · obtain ⟨M'', l, e⟩ := e
      exact q .non M'' .non H' e (g.less l) .non (hr2.less l)
    · obtain ⟨M'', l, e⟩ := e
      exact q d M'' v H' e (g.less l) (RD.same l.hid _ _ rd) (hr2.less l)
end Vk
set_option linter.unusedVariables false
namespace Vk
open PySem PySem.Spec PyProof.Rows L2
/-! # The data layer: the rules with the written part named (a comprehension's block wants readings that do not name its context) -/
section
variable {X : Cx} {K : PySem.W.Frag} {a b c e o tg : Expr} {es : List Expr} {ta tb tc te to_ : TE} {ti tj : TT} {tt : TA} {n k j : Nat} {A B C D : DE} {I J : DT} {G : DA} {pos p apos : Pos} {F : DF} {x : Str} {sts : List Stmt} {t : TS} {T : DS}
theorem k_add (hK : X.K = K := by rfl) : Op X (binaryOp .Add) (rAddA K) gAdd := by subst hK; exact o_add
theorem k_mul (hK : X.K = K := by rfl) : Op X (binaryOp .Mult) (rMulA K) gMul := by subst hK; exact o_mulA
theorem k_in (hu : X.A.units + 65 < cLine) (hK : X.K = K := by rfl) : Op X (compareOp .In) (rInB K) (gIn fun b => b) := by subst hK; exact o_in hu
theorem k_notIn (hu : X.A.units + 65 < cLine) (hK : X.K = K := by rfl) : Op X (compareOp .NotIn) (rNotInB K) (gIn fun b => !b) := by subst hK; exact o_notIn hu
theorem k_eq (hu : X.A.units + 64 < cLine) (hK : X.K = K := by rfl) : Op X (compareOp .Eq) (rEqA K) (gEq fun b => b) := by subst hK; exact o_eq hu
theorem k_ne (hu : X.A.units + 64 < cLine) (hK : X.K = K := by rfl) : Op X (compareOp .NotEq) (rNeA K) (gEq fun b => !b) := by subst hK; exact o_ne hu
abbrev rLenA (K : PySem.W.Frag) : List V → Hp → VK → Prop := fun xs H Q => ∃ x n, xs = [x] ∧ LenV K x H n ∧ Q (.int n) H
theorem k_len (hK : X.K = K := by rfl) : Cb X (.builtin "len") (rLenA K) gLen := by subst hK; exact c_len
abbrev rTupA (K : PySem.W.Frag) : List V → Hp → VK → Prop := fun xs H Q => ∃ p ys, xs = [.ref p] ∧ ((SqL K H p ys ∧ ∀ l, H l = none → Q (.ref l) (upd H l (.tup ys))) ∨ (SqT K H p ys ∧ Q (.ref p) H))
theorem k_tuple (hK : X.K = K := by rfl) : Cb X (.type "tuple") (rTupA K) gTupOf := by subst hK; exact c_tuple
abbrev rLstA (K : PySem.W.Frag) : List V → Hp → VK → Prop := fun xs H Q => ∃ p ys, xs = [.ref p] ∧ (SqL K H p ys ∨ SqT K H p ys) ∧ ∀ l, H l = none → Q (.ref l) (upd H l (.lst ys))
theorem k_list (hK : X.K = K := by rfl) : Cb X (.type "list") (rLstA K) gLstOf := by subst hK; exact c_list
theorem k_all (hc : X.calm = true) (hK : X.K = K := by rfl) : Cb X (.builtin "all") (rAll K) (gAll fun bs => bs.all id) := by subst hK; exact c_all hc
theorem k_any (hc : X.calm = true) (hK : X.K = K := by rfl) : Cb X (.builtin "any") (rAny K) (gAll fun bs => bs.any id) := by subst hK; exact c_any hc
theorem k_isi (hK : X.K = K := by rfl) : Cb X (.builtin "isinstance") (rIsi K) gIsi := by subst hK; exact c_isi
theorem k_type (hK : X.K = K := by rfl) : Cb X (.type "type") (rTypX K) gTy := by subst hK; exact c_type
theorem k_ix (h1 : Ex X a ta A) (h2 : Ex X b tb B) (hs : PlainIx b := by exact fun _ _ => rfl) (hK : X.K = K := by rfl) : Ex X (.Subscript a b pos) (tOp (fun x y H Q => rIxL K x y H Q ∨ (rIxT K x y H Q ∨ rIxS x y H Q)) ta tb) (dOp gIx A B) := by subst hK; exact d_ix h1 h2 hs
theorem k_slice {lo hi : Option Expr} {p2 : Pos} {tl th : TO} {L U : DP} (h : Ex X e te A) (hl : Pt X lo tl L) (hu : Pt X hi th U) (hK : X.K = K := by rfl) :
    Ex X (.Subscript e (.Slice lo hi none p2) pos) (tSl (fun x lo hi H Q => rSlL K x lo hi H Q ∨ (rSlA K x lo hi H Q ∨ rSlS x lo hi H Q)) te tl th) (dSl A L U) := by subst hK; exact d_slice h hl hu
theorem k_call (hg : X.A.guards = some []) (C : DCal X.prog X.w X.K X.mg X.base x k F) (hr : Room j X.A) (gl : Gl X x) (h : As X (e :: es) tt n G) (hk : k ≤ j := by decide) (dbg : (x == ("__debug__" : Str)) = false := by decide)
    (st : starEach (e :: es) X.env = (false, eval e X.env) :: starEach es X.env := by rfl) (pl : (backTo pos (starEach es X.env)).any (·.1) = false := by rfl) (hK : X.K = K := by rfl) : Ex X (.Call (.Name x p) (e :: es) [] pos) (tCall (spD K F) [] E0 tt) (dCall F G) := by
  subst hK
  exact d_call hg C hr gl h hk dbg st pl
theorem k_call0 (hg : X.A.guards = some []) (C : DCal X.prog X.w X.K X.mg X.base x k F) (hr : Room j X.A) (gl : Gl X x) (hk : k ≤ j := by decide) (dbg : (x == ("__debug__" : Str)) = false := by decide) (hK : X.K = K := by rfl) :
    Ex X (.Call (.Name x p) [] [] pos) (tCall (spD K F) [] E0 tNil) (dCall F dANil) := by
  subst hK
  exact d_call0 hg C hr gl hk dbg
theorem k_callv {P : Program} {w : World} {mg : Str → Option Value} {base : Heap} (i : Nat) (hg : X.A.guards = some []) (hr : Room j X.A) (h : As X (e :: es) tt n G) (hN : X.N[i]? = some x := by rfl) (hv : Vis X.env.scope x := by first | exact Or.inl rfl | exact Or.inr (Or.inl rfl) | exact Or.inr (Or.inr rfl))
    (hd : (x == ("__debug__" : Str)) = false := by decide) (hcd : (x == ("__classdict__" : Str)) = false := by decide)
    (st : starEach (e :: es) X.env = (false, eval e X.env) :: starEach es X.env := by rfl) (pl : (backTo pos (starEach es X.env)).any (·.1) = false := by rfl) (hP : X.prog = P := by rfl) (hw : X.w = w := by rfl) (hK : X.K = K := by rfl) (hm : X.mg = mg := by rfl) (hb : X.base = base := by rfl) :
    Ex X (.Call (.Name x p) (e :: es) [] pos) (tCallD i (fun f sp => ∃ k F, k ≤ j ∧ DAt P w K mg base f k F ∧ sp = spD K F) tt) (dCallV i (fun f F => ∃ k, k ≤ j ∧ DAt P w K mg base f k F) G) := by
  subst hP hw hK hm hb
  exact d_callv i hg hr h hN hv hd hcd st pl
theorem k_truth (h : Ex X a ta A) (he : ∀ whole, isTrue a X.env whole = (do let v ← whole; standAt a.pos; holding [v] (truthy v)) := by intro _; rfl) (hK : X.K = K := by rfl) :
    Ts X a (fun σ H Q => ta σ H fun x H' => ∃ k, TruV K x H' k ∧ Q k H') (dTru A) := by subst hK; exact t_truth h he
theorem k_list_ (h : Ex X a ta A) (hK : X.K = K := by rfl) : Wk X tg a (iList K ta) (wItems A) := by subst hK; exact w_list h
theorem k_tup_ (h : Ex X a ta A) (hK : X.K = K := by rfl) : Wk X tg a (iTup K ta) (wTup A) := by subst hK; exact w_tup h
theorem kg_tup {es : List Expr} {k : Nat} {gs : TGs} {ws : List Nat} {Fs : DGs} {n : Nat} (hc : X.calm = true) (h : Tgs X es gs ws Fs)
    (hn : (assignEach es X.env).length = n := by rfl) (hst : (assignEach es X.env).findIdx? (·.1) = none := by rfl) (hK : X.K = K := by rfl) : Tg X (.Tuple es k pos) (gTup K n gs) ws (sTup n Fs) := by subst hK; exact g_tup hc h hn hst
theorem meth_go {i : Nat} {env : DEnv} {M : MH} {Q : DK} {p : Addr} {xs : List Dv} {G : DA} {g : Addr → List Dv → List Dv → MH → DK → Prop} (e : env[i]? = some (some (.ref p))) (h : M p = some (.lst xs)) (q : G env M fun ds M2 => match M2 p with
    | some (.lst ys) => g p ys ds M2 Q
    | _ => False) : dMeth1 (dV i) G g env M Q := by
  unfold dMeth1 dV
  rw [e]
  show (match M p with | some (.lst _) => _ | _ => False)
  rw [h]
  exact q
theorem meth_go0 {i : Nat} {env : DEnv} {M : MH} {Q : DK} {p : Addr} {xs : List Dv} {g : Addr → List Dv → List Dv → MH → DK → Prop} (e : env[i]? = some (some (.ref p))) (h : M p = some (.lst xs)) (q : g p xs [] M Q) : dMeth1 (dV i) dANil g env M Q := by
  refine meth_go e h ?_
  show (match M p with | some (.lst _) => _ | _ => False)
  rw [h]
  exact q
theorem pop_go {p : Addr} {xs : List Dv} {y : Dv} {M : MH} {Q : DK} (q : Q y (mup M p (.lst xs))) : gPop p (xs ++ [y]) [] M Q := by
  unfold gPop
  have e : (xs ++ [y])[(xs ++ [y]).length - 1]? = some y := by simp
  rw [e, List.dropLast_concat]
  exact q
end
end Vk
set_option linter.unusedVariables false
namespace Vk
open PySem PySem.Spec PyProof.Rows L2
theorem tuple_mulSame (l : Addr) (items : Array Value) (n : Nat) (dd : Option Addr) (sl : Array (Option Value)) (x : Int) (u : Tok) (c0 : (decide (x < -(2 ^ 63)) || decide (x ≥ 2 ^ 63)) = false) (c1 : (items.isEmpty || x == 1) = true) :
    Meets (Builtin.«tuple.__mul__» ⟨[.ref l, .int x u], []⟩) (fun _ R s => s.heap.get? l = some { cls := .type "tuple", dict := dd, data := .seq items n, slots := sl } ∧ R (.ok (.ret (Value.ref l))) s) :=
  .of_wp fun prog w A R s h => by
    obtain ⟨hp, g, d, tk, os⟩ := s
    obtain ⟨hl, h⟩ := h
    have f1 := AutoSeq1.idx_int
    wp_walk using wpAny_loadPart' hl
    repeat (first
      | (refine wpAny_ite_false (decide_eq_false (by rw [c0]; exact Bool.false_ne_true)) ?_; wp_walk using wpAny_loadPart' hl)
      | (refine wpAny_ite_true (decide_eq_true c1) ?_; wp_walk using wpAny_loadPart' hl))
    exact ⟨_, rfl, h⟩
theorem tuple_mulNone (l : Addr) (items : Array Value) (n : Nat) (dd : Option Addr) (sl : Array (Option Value)) (x : Int) (u : Tok) (c0 : (decide (x < -(2 ^ 63)) || decide (x ≥ 2 ^ 63)) = false) (c1 : (items.isEmpty || x == 1) = false) (c2 : (decide (x ≤ 0) || items.isEmpty) = true) :
    Meets (Builtin.«tuple.__mul__» ⟨[.ref l, .int x u], []⟩) (fun _ R s => s.heap.get? l = some { cls := .type "tuple", dict := dd, data := .seq items n, slots := sl } ∧
      R (.ok (.ret (Value.ref s.heap.objs.size))) { s with heap := s.heap.push { cls := Value.type "tuple", data := Data.seq #[] }, toks := s.toks }) :=
  .of_wp fun prog w A R s h => by
    obtain ⟨hp, g, d, tk, os⟩ := s
    obtain ⟨hl, h⟩ := h
    have f1 := AutoSeq1.idx_int
    wp_walk using wpAny_loadPart' hl
    repeat (first
      | (refine wpAny_ite_false (decide_eq_false (by rw [c0]; exact Bool.false_ne_true)) ?_; wp_walk using wpAny_loadPart' hl)
      | (refine wpAny_ite_false (decide_eq_false (by rw [c1]; exact Bool.false_ne_true)) ?_; wp_walk using wpAny_loadPart' hl)
      | (refine wpAny_ite_true (decide_eq_true c2) ?_; wp_walk using wpAny_loadPart' hl))
    exact ⟨_, rfl, h⟩
def rRepG (K : PySem.W.Frag) : R2 := fun x y H Q => ∃ l k xs, x = .ref l ∧ y = .int k ∧ SqT K H l xs ∧ -1000 ≤ k ∧ k ≤ 1000 ∧ xs.length ≤ 1000 ∧ ((xs = [] ∨ k = 1) → Q (.ref l) H) ∧ (xs ≠ [] → k ≤ 0 → ∀ p, H p = none → Q (.ref p) (upd H p (.tup []))) ∧
  (xs ≠ [] → 2 ≤ k → ∀ p, H p = none → Q (.ref p) (upd H p (.tup (List.replicate k.toNat xs).flatten)))
section
variable {X : Cx}
theorem op_repG : OpR X (binaryOp .Mult) (rRepG X.K) := by
  intro pins s σ H x y v u Q I rx ry h
  obtain ⟨l, k, xs, rfl, rfl, hT, h1, h2, hz, q1, q2, q3⟩ := h
  by_cases hbig : xs ≠ [] ∧ 2 ≤ k
  · exact op_repT pins s σ H _ _ v u Q I rx ry ⟨l, k, xs, rfl, rfl, hT, hbig.1, hbig.2, h2, hz, q3 hbig.1 hbig.2⟩
  · cases rx
    obtain ⟨t, rfl⟩ := ry
    obtain ⟨its, r, ⟨⟨cls, dd, data, sl⟩, ho, hc, n, hd⟩, hs⟩ := I.tuple hT
    simp only at hc hd
    subst hc hd
    have hle : its.length = xs.length := r.length.symm
    have c0 : (decide (k < -(2 ^ 63)) || decide (k ≥ 2 ^ 63)) = false := by
      rw [decide_eq_false (by omega), decide_eq_false (by omega)] <;> rfl
    by_cases hsame : xs = [] ∨ k = 1
    · have c1 : (its.toArray.isEmpty || k == 1) = true := by
        rcases hsame with e | e
        · have : its = [] := List.eq_nil_of_length_eq_zero (by rw [hle, e]; rfl)
          rw [this]
          rfl
        · rw [e]
          simp
      refine wpAny_binaryOp_repeat_ref (T := "tuple") (U := "int") (by decide) ⟨_, ho, rfl⟩ (fun s' => typeIs_int s' k t) noFill_tuple_mul F.fills_int_mul F.slot_int_rmul repeat_tuple F.slot_int_index.lookup
        (call_meets F.slot_int_rmul (typeIs_int s k t) F.entry_int_rmul (F.args_int_rmul_2 _ _) (int_rmul_tuple k t l its.toArray n dd sl)
          ⟨ho, rfl, ⟨_, ho, rfl⟩, call_meets F.slot_tuple_mul ⟨_, ho, rfl⟩ F.entry_tuple_mul (F.args_tuple_mul_2 _ _) (tuple_mulSame l its.toArray n dd sl k t c0 c1) ⟨ho, ?_⟩⟩)
      exact ⟨.ref l, H, I, rfl, q1 hsame⟩
    · have hne : xs ≠ [] := fun e => hsame (.inl e)
      have hk1 : ¬ k = 1 := fun e => hsame (.inr e)
      have hk : k ≤ 0 := by
        have : ¬ 2 ≤ k := fun e => hbig ⟨hne, e⟩
        omega
      have hn : its ≠ [] := fun e => hne (by
        rw [e] at hle
        exact List.eq_nil_of_length_eq_zero hle.symm)
      have hi : its.toArray.isEmpty = false := by
        cases its with
        | nil => exact absurd rfl hn
        | cons a b => rfl
      have c1 : (its.toArray.isEmpty || k == 1) = false := by
        rw [hi, Bool.false_or]
        exact beq_eq_false_iff_ne.mpr hk1
      have c2 : (decide (k ≤ 0) || its.toArray.isEmpty) = true := by
        rw [decide_eq_true hk]
        rfl
      refine wpAny_binaryOp_repeat_ref (T := "tuple") (U := "int") (by decide) ⟨_, ho, rfl⟩ (fun s' => typeIs_int s' k t) noFill_tuple_mul F.fills_int_mul F.slot_int_rmul repeat_tuple F.slot_int_index.lookup
        (call_meets F.slot_int_rmul (typeIs_int s k t) F.entry_int_rmul (F.args_int_rmul_2 _ _) (int_rmul_tuple k t l its.toArray n dd sl)
          ⟨ho, rfl, ⟨_, ho, rfl⟩, call_meets F.slot_tuple_mul ⟨_, ho, rfl⟩ F.entry_tuple_mul (F.args_tuple_mul_2 _ _) (tuple_mulNone l its.toArray n dd sl k t c0 c1 c2) ⟨ho, ?_⟩⟩)
      refine ⟨.ref s.heap.objs.size, _, I.laid (t' := s.toks) (o := .tup []) (fun b ob q => Heap.get?_push_of_some _ q) (Nat.le_refl _) ?_, rfl, q2 hne hk _ (I.hok.fresh (Nat.le_refl _))⟩
      exact ⟨Nat.zero_le _, [], .nil, IsTup.new _ _⟩
def gMulG : DO := fun x y M Q => match x, y with
  | .int i, .int j => CMul i j ∧ Q (.int (i * j)) M
  | .str z, .int k => (0 ≤ k ∧ k ≤ 1000 ∧ z.length ≤ 1000) ∧ Q (.str (repS z k.toNat)) M
  | .tup ds, .int k => (-1000 ≤ k ∧ k ≤ 1000 ∧ ds.length ≤ 1000) ∧ Q (.tup (List.replicate k.toNat ds).flatten) M
  | _, _ => False
abbrev rMulG (K : PySem.W.Frag) : R2 := fun x y H Q => rI CMul (fun i j => .int (i * j)) x y H Q ∨ rMulE x y H Q ∨ rRepG K x y H Q
theorem o_mulG : Op X (binaryOp .Mult) (rMulG X.K) gMulG := by
  refine ⟨opr_or op_mul (opr_or op_mulE op_repG), ?_⟩
  intro S H x y dx dy M Q R rx ry hr f q
  unfold gMulG at f
  split at f
  · cases rx
    cases ry
    exact .inl ⟨_, _, rfl, rfl, f.1, q _ M _ H f.2 Gr.refl (.int _) hr⟩
  · cases rx
    cases ry
    obtain ⟨⟨h1, h2, h3⟩, f⟩ := f
    exact .inr (.inl ⟨_, _, rfl, rfl, h1, h2, h3, q _ M _ H f Gr.refl (.str _) hr⟩)
  · obtain ⟨⟨h1, h2, h3⟩, f⟩ := f
    cases ry
    cases rx with
    | tup ha ra =>
      refine .inr (.inr ⟨_, _, _, rfl, rfl, sqT_hid ha, h1, h2, by rw [ra.len]; exact h3, fun z => ?_, fun z hk p hp => ?_, fun _ _ p hp => ?_⟩)
      · rename_i ds k _ _
        have e : (List.replicate k.toNat ds).flatten = ds := by
          rcases z with z | z
          · rw [ra.isNil.mp z]
            simp
          · rw [z]
            show (List.replicate 1 ds).flatten = ds
            simp
        rw [e] at f
        exact q _ M _ H f Gr.refl (.tup ha ra) hr
      · rename_i ds k _ _
        have e : (List.replicate k.toNat ds).flatten = [] := by
          rw [show k.toNat = 0 by omega]
          rfl
        rw [e] at f
        obtain ⟨g, hr', rd⟩ := RD.newT hr hp (vs := []) (ds := []) (.nil (K := X.K) (G := hid S M H))
        exact q _ M _ _ f g rd hr'
      · obtain ⟨g, hr', rd⟩ := RD.newT hr hp (ra.rep _)
        exact q _ M _ _ f g rd hr'
  · exact f.elim
theorem k_mulG {K : PySem.W.Frag} (hK : X.K = K := by rfl) : Op X (binaryOp .Mult) (rMulG K) gMulG := by subst hK; exact o_mulG
end
end Vk
set_option linter.unusedVariables false
namespace Vk
open PySem PySem.Spec PyProof.Rows L2
/-! # The data layer: comprehensions whose list is changed later, sums of lists that change -/
@[irreducible] def dLcM (W : DI) (g : DG) (T : DT) (A : DE) (vs : List Nat) : DE := fun env M Q => W env M fun items inv M1 => items.length ≤ sizeLine ∧ ∃ I : Nat → List Dv → MH → Prop, I 0 [] M1 ∧ (∀ i acc M, I i acc M → inv M) ∧
  (∀ i d acc M, items[i]? = some d → I i acc M → g d (wipeD env vs) M fun env1 M2 => T env1 M2 fun b M3 => if b = true then A env1 M3 fun y M4 => I (i + 1) (acc ++ [y]) M4 else I (i + 1) acc M3) ∧ ∀ acc M, I items.length acc M → ∀ p, M p = none → Q (.ref p) (mup M p (.lst acc))
theorem RE.lcM {K : PySem.W.Frag} {wi : TI} {g : TG} {tT : TT} {te : TE} {vs ws : List Nat} {W : DI} {Fg : DG} {T : DT} {A : DE} (hi : RI K wi W) (hg : RG K g ws Fg) (ht : RT K tT T) (he : RE K te A) (hw : ∀ i, i ∈ ws → i ∈ vs) :
    RE K (tLc wi g tT te vs) (dLcM W Fg T A vs) := by
  intro S σ H env M Q R rn hr f q
  unfold dLcM at f
  refine hi S σ H env M _ _ rn hr f fun items inv M1 J H1 f1 g1 hr1 wk => ?_
  obtain ⟨hsz, I, h0, hin, step, fin⟩ := f1
  intro D hD
  obtain ⟨sD, mD⟩ := hr1.fresh hD
  let S2 : Addr → Bool := fun z => S z || z == D
  have s2D : S2 D = true := by simp [S2]
  have s2S : ∀ z, S z = true → S2 z = true := fun z hz => by simp [S2, hz]
  have hid0 : ∀ o, hid S2 M1 (upd H1 D o) = hid S M1 H1 := fun o => by
    funext z
    by_cases c : z = D
    · subst c
      unfold hid
      rw [s2D, sD, mD, hD]
      simp
    · have e : S2 z = S z := by simp [S2, c]
      unfold hid
      rw [e, upd_ne c]
  have hr0 : HR K S2 M1 (upd H1 D (.lst [])) := by
    refine ⟨fun z o e => ?_, fun z hz => ?_⟩
    · obtain ⟨u, y1, y2⟩ := hr1.obj z o e
      have n : z ≠ D := fun w => by subst w; rw [mD] at e; cases e
      exact ⟨u, by rw [upd_ne n]; exact y1, by rw [hid0]; exact y2⟩
    · by_cases c : z = D
      · subst c
        exact ⟨mD, by rw [upd_same]; exact fun w => by cases w⟩
      · have e : S z = true := by simpa [S2, c] using hz
        obtain ⟨y1, y2⟩ := hr1.apart z e
        exact ⟨y1, by rw [upd_ne c]; exact y2⟩
  refine ⟨fun i m H' => ∃ acc M' av, I i acc M' ∧ H' D = some (.lst av) ∧ RDs K (hid S2 M' H') av acc ∧ HR K S2 M' H' ∧ Same (hid S M1 H1) (hid S2 M' H') ∧ (∀ z, S z = true → H' z = H1 z) ∧ acc.length ≤ i ∧ m = items.length - i ∧ i ≤ items.length,
    ⟨_, [], M1, [], h0, upd_same, .nil, hr0, by rw [hid0]; exact Same.refl _, fun z hz => upd_ne (fun w => by subst w; rw [sD] at hz; cases hz), Nat.zero_le _, rfl, Nat.zero_le _⟩, ?_⟩
  rintro i m H2 ⟨acc, M2, av, h2, at2, ra2, hr2, same2, hold2, hl2, rfl, hi2⟩
  rcases Nat.lt_or_eq_of_le hi2 with hlt | heq
  · refine .inr ?_
    have hd : items[i]? = some items[i] := List.getElem?_eq_getElem hlt
    obtain ⟨w1, w2⟩ := wk.go i _ hd S2 M2 H2 same2 hr2 (hin _ _ _ h2)
    refine ⟨w1, fun H' => ∃ acc' M' av', I (i + 1) acc' M' ∧ H' D = some (.lst av') ∧ RDs K (hid S2 M' H') av' acc' ∧ HR K S2 M' H' ∧ Same (hid S M1 H1) (hid S2 M' H') ∧ (∀ z, S z = true → H' z = H1 z) ∧ acc'.length ≤ i + 1,
      fun H' ⟨a', M', av', y1, y2, y3, y4, y5, y6, y7⟩ => ⟨items.length - (i + 1), by omega, a', M', av', y1, y2, y3, y4, y5, y6, y7, rfl, hlt⟩, fun x H3 hy => ?_⟩
    obtain ⟨g3, hr3, rd⟩ := w2 x H3 hy
    have rnw : RN K (hid S2 M2 H3) (L2.wipe σ vs) (wipeD env vs) := RN.same g3.same (RN.same same2 (RN.wipe (rn.same g1.same) vs))
    refine hg S2 (L2.wipe σ vs) H3 x _ (wipeD env vs) M2 _ _ rd rnw hr3 (step i _ acc M2 hd h2) fun env4 M4 σ4 H4 f4 g4 rn4 hr4 k4 => ?_
    refine ⟨wipe_back hw (by rw [k4.1, L2.wipe_length]) k4.2, ?_⟩
    refine ht S2 σ4 H4 env4 M4 _ _ rn4 hr4 f4 fun b M5 H5 f5 g5 hr5 => ?_
    split at f5
    · rename_i eb
      rw [if_pos eb]
      refine he S2 σ4 H5 env4 M5 _ _ (rn4.same g5.same) hr5 f5 fun y M6 v H6 f6 g6 rd6 hr6 => ?_
      have gg := ((g3.trans g4).trans g5).trans g6
      have at6 : H6 D = some (.lst av) := by rw [gg.hold D s2D]; exact at2
      have ra6 := RDs.same gg.same _ _ ra2
      have hidE : ∀ o, hid S2 M6 (upd H6 D o) = hid S2 M6 H6 := fun o => by
        funext z
        by_cases c : z = D
        · subst c
          unfold hid
          rw [s2D]
          simp
        · unfold hid
          rw [upd_ne c]
      refine ⟨av, at6, by rw [ra2.len]; omega, acc ++ [y], M6, av ++ [v], f6, upd_same, by rw [hidE]; exact ra6.app (.cons rd6 .nil), ⟨fun z o e => ?_, fun z hz => ?_⟩, by rw [hidE]; exact same2.trans gg.same, fun z hz => ?_, by rw [List.length_append]; simp; omega⟩
      · obtain ⟨u, y1, y2⟩ := hr6.obj z o e
        have n : z ≠ D := fun w => by subst w; rw [(hr6.apart _ s2D).1] at e; cases e
        exact ⟨u, by rw [upd_ne n]; exact y1, by rw [hidE]; exact y2⟩
      · obtain ⟨y1, y2⟩ := hr6.apart z hz
        refine ⟨y1, ?_⟩
        by_cases c : z = D
        · subst c
          rw [upd_same]
          exact fun w => by cases w
        · rw [upd_ne c]
          exact y2
      · have n : z ≠ D := fun w => by subst w; rw [sD] at hz; cases hz
        rw [upd_ne n, gg.hold z (s2S z hz)]
        exact hold2 z hz
    · rename_i eb
      rw [if_neg eb]
      have gg := (g3.trans g4).trans g5
      exact ⟨acc, M5, av, f5, by rw [gg.hold D s2D]; exact at2, RDs.same gg.same _ _ ra2, hr5, same2.trans gg.same, fun z hz => by rw [gg.hold z (s2S z hz)]; exact hold2 z hz, by omega⟩
  · subst heq
    refine .inl ⟨wk.stop S2 M2 H2 same2 hr2 (hin _ _ _ h2), ?_⟩
    have m2D : M2 D = none := (hr2.apart D s2D).1
    have eqh : hid S (mup M2 D (.lst acc)) H2 = hid S2 M2 H2 := by
      funext z
      by_cases c : z = D
      · subst c
        unfold hid
        rw [s2D, mup_same]
        simp
      · have e : S2 z = S z := by simp [S2, c]
        unfold hid
        rw [e, mup_ne c]
    refine q _ (mup M2 D (.lst acc)) _ H2 (fin _ _ h2 D m2D) (g1.trans ⟨by rw [eqh]; exact same2, hold2⟩) (.ref D) ⟨fun z o e => ?_, fun z hz => ?_⟩
    · rw [eqh]
      by_cases c : z = D
      · subst c
        rw [mup_same] at e
        cases e
        exact ⟨_, at2, .lst ra2⟩
      · rw [mup_ne c] at e
        exact hr2.obj z o e
    · have n : z ≠ D := fun w => by subst w; rw [sD] at hz; cases hz
      obtain ⟨y1, y2⟩ := hr2.apart z (s2S z hz)
      exact ⟨by rw [mup_ne n]; exact y1, y2⟩
section
variable {X : Cx} {K : PySem.W.Frag} {a b c e o i_ tg : Expr} {ta tb tc te to_ ti_ : TE} {A B C D O I2 : DE} {pos p : Pos}
theorem s_setLcM {i : Nat} {y : Str} {py spos : Pos} {elt it : Expr} {ifs : List Expr} {scope : Scope} {own : List (Str × Nat)} {wi : TI} {g : TG} {tT : TT} {ws : List Nat} {W : DI} {Fg : DG} {T : DT} (hc : X.calm = true) (hN : X.N.Nodup) (hy : X.N[i]? = some y) (hyl : X.env.scope.names.lookup y = some .local)
    (hsw : swapsWith (.ListComp elt [⟨tg, it, ifs, 0⟩] scope pos) (some (.Name y py)) spos.line X.env = pure true) (hi : Wk X tg it wi W) (ok : BlkOk X.N X.env.scope scope own)
    (hg : ∀ (s : Shared) (H : Hp) (C : Addr) (cl : List (Str × Addr)) (fp : List Addr), Tg (X.blk s H scope (compEnvC scope cl C X.env) fp) tg g ws Fg) (ht : ∀ (s : Shared) (H : Hp) (C : Addr) (cl : List (Str × Addr)) (fp : List Addr), PTs (X.blk s H scope (compEnvC scope cl C X.env) fp) ifs tT) (htr : RT X.K tT T)
    (he : ∀ (s : Shared) (H : Hp) (C : Addr) (cl : List (Str × Addr)) (fp : List Addr), Ex (X.blk s H scope (compEnvC scope cl C X.env) fp) elt te A) (hw : ∀ i, i ∈ ws → i ∈ own.map (·.2) := by decide) (hs : ∀ x, foldedSetIterable it X.env x = pure x := by intro _; rfl) :
    Sm X (.Assign [.Name y py] (.ListComp elt [⟨tg, it, ifs, 0⟩] scope pos) spos) (tAsg (tLc wi g tT te (own.map (·.2))) (gName i)) (dSet i (dLcM W Fg T A (own.map (·.2)))) := by
  refine ⟨ps_setLc hc hN hy hyl hsw hi.p ok (fun s H C cl fp => (hg s H C cl fp).p) ht (fun s H C cl fp => (he s H C cl fp).p) hs, ?_⟩
  have r := RE.lcM hi.r (hg X.s_0 X.H_0 0 [] []).r htr (he X.s_0 X.H_0 0 [] []).r hw
  intro S σ H env M D E rn hr f c
  refine r S σ H env M _ _ rn hr f fun d M' v H' e g rd hr' => ?_
  exact c.nx _ M' _ H' e g ((rn.same g.same).set rd i) hr'
/-- a list, data or one that changes -/
def lsD (M : MH) : Dv → Option (List Dv)
  | .lst ds => some ds
  | .ref p => match M p with
    | some (.lst ds) => some ds
    | _ => none
  | _ => none
theorem ls_rd {K : PySem.W.Frag} {S : Addr → Bool} {M : MH} {H : Hp} {v : V} {d : Dv} {ds : List Dv} (hr : HR K S M H) (h : RD K (hid S M H) v d) (e : lsD M d = some ds) : ∃ a vs, v = .ref a ∧ H a = some (.lst vs) ∧ RDs K (hid S M H) vs ds := by
  cases h with
  | lst ha ra => cases e; exact ⟨_, _, rfl, (hid_some ha).1, ra⟩
  | ref p =>
    unfold lsD at e
    simp only at e
    split at e
    · rename_i e1
      cases e
      obtain ⟨u, z1, z2⟩ := hr.obj _ _ e1
      cases z2 with
      | lst ra => exact ⟨_, _, rfl, z1, ra⟩
    · cases e
  | _ => cases e
/-- + of two lists -/
@[irreducible] def gAddL : DO := fun x y M Q => match lsD M x, lsD M y with
  | some i, some j => i.length + j.length ≤ sizeLine ∧ Q (.lst (i ++ j)) M
  | _, _ => False
theorem o_addL : Op X (binaryOp .Add) rCat gAddL := by
  refine ⟨op_cat, ?_⟩
  intro S H x y dx dy M Q R rx ry hr f q
  unfold gAddL at f
  split at f
  · rename_i e1 e2
    obtain ⟨a, vs, rfl, ha, ra⟩ := ls_rd hr rx e1
    obtain ⟨b, ws, rfl, hb, rb⟩ := ls_rd hr ry e2
    refine ⟨_, _, _, _, rfl, rfl, ha, hb, by rw [ra.len, rb.len]; exact f.1, fun p hp => ?_⟩
    obtain ⟨g, hr', rd⟩ := RD.newL hr hp (ra.app rb)
    exact q _ M _ _ f.2 g rd hr'
  · exact f.elim
/-- xs[i] = v -/
theorem s_put {st : Stmt} (h1 : Ex X e te A) (h2 : Ex X o to_ O) (h3 : Ex X i_ ti_ I2) (hst : PE X e te → PE X o to_ → PE X i_ ti_ → PS X st (tAsg te (gSub to_ ti_ rSetL))) : Sm X st (tAsg te (L2.gSub to_ ti_ rSetL)) (dPut A O I2) := s_putL (hst h1.p h2.p h3.p) h1.r h2.r h3.r
end
end Vk
set_option linter.unusedVariables false
set_option linter.unusedSimpArgs false
/-! DLO: fields, methods, new instances; dicts with keys that are ints or texts -/
namespace Vk
open PySem PySem.Spec PyProof.Rows L2
def putFD (f : Str) (v : Dv) : List (Str × Dv) → List (Str × Dv)
  | [] => [(f, v)]
  | (g, x) :: r => if g = f then (g, v) :: r else (g, x) :: putFD f v r
def valD (kds : List (L2.Key × Dv)) (k : L2.Key) : Option Dv := (kds.find? fun kv => decide (kv.1 = k)).map (·.2)
def putD (kds : List (L2.Key × Dv)) (k : L2.Key) (v : Dv) : List (L2.Key × Dv) :=
  if (kds.any fun kv => decide (kv.1 = k)) = true then kds.map (fun kv => if kv.1 = k then (kv.1, v) else kv) else kds ++ [(k, v)]
def keyOf : Dv → Option L2.Key
  | .int i => some (.inl i)
  | .str s => some (.inr s)
  | _ => none
theorem key_rd {K : PySem.W.Frag} {G : Hp} {y : V} {d : Dv} {k : L2.Key} (h : RD K G y d) (e : keyOf d = some k) : y = L2.kV k := by
  cases h with
  | int i => cases e; rfl
  | str s => cases e; rfl
  | _ => cases e
theorem RKV.lookup {K : PySem.W.Frag} {G : Hp} : ∀ {fs : List (Str × V)} {gs : List (Str × Dv)} {f : Str} {d : Dv}, RKV K G fs gs → gs.lookup f = some d → ∃ v, fs.lookup f = some v ∧ RD K G v d
  | _, _, _, _, .nil, h => by cases h
  | (g, v) :: _, (_, x) :: _, f, d, .cons a b, h => by
    rw [List.lookup_cons] at h ⊢
    cases e : f == g with
    | true =>
      rw [e] at h
      cases h
      exact ⟨v, rfl, a⟩
    | false =>
      rw [e] at h
      exact RKV.lookup b h
theorem RKV.lookN {K : PySem.W.Frag} {G : Hp} : ∀ {fs : List (Str × V)} {gs : List (Str × Dv)} {f : Str}, RKV K G fs gs → gs.lookup f = none → fs.lookup f = none
  | _, _, _, .nil, _ => rfl
  | (g, v) :: _, (_, x) :: _, f, .cons a b, h => by
    rw [List.lookup_cons] at h ⊢
    cases e : f == g with
    | true => rw [e] at h; cases h
    | false =>
      rw [e] at h
      exact RKV.lookN b h
theorem RKV.len {κ : Type} {K : PySem.W.Frag} {G : Hp} : ∀ {fs : List (κ × V)} {gs : List (κ × Dv)}, RKV K G fs gs → fs.length = gs.length
  | _, _, .nil => rfl
  | _, _, .cons _ b => congrArg Nat.succ (RKV.len b)
theorem RKV.putF {K : PySem.W.Frag} {G : Hp} {f : Str} {v : V} {d : Dv} (h : RD K G v d) : ∀ {fs : List (Str × V)} {gs : List (Str × Dv)}, RKV K G fs gs → RKV K G (L2.putF f v fs) (putFD f d gs)
  | _, _, .nil => .cons h .nil
  | (g, x) :: r, (_, y) :: s, .cons a b => by
    unfold L2.putF putFD
    by_cases e : g = f
    · rw [if_pos e, if_pos e]
      exact .cons h b
    · rw [if_neg e, if_neg e]
      exact .cons a (RKV.putF h b)
theorem RKV.app {κ : Type} {K : PySem.W.Frag} {G : Hp} {ks : List (κ × V)} {ms : List (κ × Dv)} (h : RKV K G ks ms) : ∀ {fs : List (κ × V)} {gs : List (κ × Dv)}, RKV K G fs gs → RKV K G (fs ++ ks) (gs ++ ms)
  | _, _, .nil => h
  | _, _, .cons a b => .cons a (RKV.app h b)
theorem RKV.val {K : PySem.W.Frag} {G : Hp} : ∀ {kvs : List (L2.Key × V)} {kds : List (L2.Key × Dv)} (k : L2.Key), RKV K G kvs kds → (valD kds k = none ∧ L2.valV kvs k = none) ∨ ∃ v d, valD kds k = some d ∧ L2.valV kvs k = some v ∧ RD K G v d
  | _, _, _, .nil => .inl ⟨rfl, rfl⟩
  | (g, x) :: r, (_, y) :: s, k, .cons a b => by
    unfold valD L2.valV
    rw [List.find?_cons, List.find?_cons]
    by_cases e : g = k
    · simp only [e, decide_true]
      exact .inr ⟨x, y, rfl, rfl, a⟩
    · simp only [e, decide_false]
      exact RKV.val k b
theorem RKV.any {K : PySem.W.Frag} {G : Hp} : ∀ {kvs : List (L2.Key × V)} {kds : List (L2.Key × Dv)} (k : L2.Key), RKV K G kvs kds → (kvs.any fun kv => decide (kv.1 = k)) = (kds.any fun kv => decide (kv.1 = k))
  | _, _, _, .nil => rfl
  | _, _, k, .cons a b => by rw [List.any_cons, List.any_cons, RKV.any k b]
theorem RKV.set {K : PySem.W.Frag} {G : Hp} {v : V} {d : Dv} (h : RD K G v d) (k : L2.Key) : ∀ {kvs : List (L2.Key × V)} {kds : List (L2.Key × Dv)}, RKV K G kvs kds → RKV K G (kvs.map fun kv => if kv.1 = k then (kv.1, v) else kv) (kds.map fun kv => if kv.1 = k then (kv.1, d) else kv)
  | _, _, .nil => .nil
  | (g, x) :: r, (_, y) :: s, .cons a b => by
    rw [List.map_cons, List.map_cons]
    by_cases e : g = k
    · rw [if_pos e, if_pos e]
      exact .cons h (RKV.set h k b)
    · rw [if_neg e, if_neg e]
      exact .cons a (RKV.set h k b)
theorem RKV.putK {K : PySem.W.Frag} {G : Hp} {v : V} {d : Dv} (h : RD K G v d) (k : L2.Key) {kvs : List (L2.Key × V)} {kds : List (L2.Key × Dv)} (r : RKV K G kvs kds) : RKV K G (L2.putK kvs k v) (putD kds k d) := by
  unfold L2.putK putD
  rw [r.any k]
  split
  · exact RKV.set h k r
  · exact RKV.app (.cons h .nil) r
section
variable {X : Cx} {K : PySem.W.Frag} {o e a : Expr} {es : List Expr} {to_ ta ti : TE} {tt : TA} {O A I : DE} {G : DA} {f x m : Str} {p pos apos : Pos} {C fI fm : Addr} {k j n : Nat} {F : DF} {st : Stmt}
/-! ### fields -/
structure FldOk (K : PySem.W.Frag) (C : Addr) (f : Str) : Prop where
  c : Cls K C
  n : NoAttr K C f
/-- o.f -/
def dFld (K : PySem.W.Frag) (f : Str) (O : DE) : DE := fun env M Q => O env M fun x M1 => match x with
  | .ref p => match M1 p with
    | some (.ins C dx fs) => match fs.lookup f with
      | some d => FldOk K C f ∧ Q d M1
      | none => False
    | _ => False
  | _ => False
theorem d_fld (h : Ex X o to_ O) (hb : attributeBase o f X.env (eval o X.env) = eval o X.env := by rfl) (hK : X.K = K := by rfl) : Ex X (.Attribute o f pos) (tFld K to_ f) (dFld K f O) := by
  subst hK
  refine ⟨pe_fld h.p hb, ?_⟩
  intro S σ H env M Q R rn hr f0 q
  refine h.r S σ H env M _ _ rn hr f0 fun d M1 v H1 f1 g1 r1 hr1 => ?_
  split at f1
  · split at f1
    · rename_i e1
      split at f1
      · rename_i e2
        cases r1
        obtain ⟨u, z1, z2⟩ := hr1.obj _ _ e1
        cases z2 with
        | ins r =>
          obtain ⟨v, ev, rd⟩ := r.lookup e2
          exact ⟨_, _, _, _, v, rfl, z1, f1.1.c, f1.1.n, ev, q _ M1 _ H1 f1.2 g1 rd hr1⟩
      · exact f1.elim
    · exact f1.elim
  · exact f1.elim
/-- o.f = e -/
def dFldSet (K : PySem.W.Frag) (f : Str) (O A : DE) : DS := fun E env M => A env M fun v M1 => O env M1 fun o M2 => match o with
  | .ref p => match M2 p with
    | some (.ins C dx fs) => (FldOk K C f ∧ fs.length < 1000) ∧ E.nx env (mup M2 p (.ins C dx (putFD f v fs)))
    | _ => False
  | _ => False
theorem s_fld (h1 : Ex X o to_ O) (h2 : Ex X e ta A) (hs : swapsWith e (some (.Attribute o f apos)) pos.line X.env = pure false := by rfl) (hK : X.K = K := by rfl) :
    Sm X (.Assign [.Attribute o f apos] e pos) (sFld K to_ ta f) (dFldSet K f O A) := by
  subst hK
  refine ⟨ps_fld h1.p h2.p hs, ?_⟩
  intro S σ H env M D E rn hr f0 c
  refine h2.r S σ H env M _ _ rn hr f0 fun v M1 x H1 f1 g1 r1 hr1 => ?_
  refine h1.r S σ H1 env M1 _ _ (rn.same g1.same) hr1 f1 fun o M2 y H2 f2 g2 r2 hr2 => ?_
  split at f2
  · split at f2
    · rename_i e1
      cases r2
      obtain ⟨u, z1, z2⟩ := hr2.obj _ _ e1
      cases z2 with
      | ins r =>
        have rx := RD.same g2.same _ _ r1
        obtain ⟨g, hr'⟩ := hr2.put (o := .ins _ _ _) e1 (.ins (r.putF (f := f) rx))
        have gg := (g1.trans g2).trans g
        exact ⟨_, _, _, _, rfl, z1, f2.1.1.c, f2.1.1.n, by rw [r.len]; exact f2.1.2, c.nx env _ σ _ f2.2 gg (rn.same gg.same) hr'⟩
    · exact f2.elim
  · exact f2.elim
/-! ### dicts -/
/-- what stands at a key of a dict -/
def dictAt (M : MH) (o i : Dv) : Option (Addr × List (L2.Key × Dv) × L2.Key) := match o with
  | .ref p => match M p with
    | some (.dK kds) => match keyOf i with
      | some k => some (p, kds, k)
      | none => none
    | _ => none
  | _ => none
theorem dict_rd {S : Addr → Bool} {M : MH} {H : Hp} {y i : V} {dy di : Dv} {p : Addr} {kds : List (L2.Key × Dv)} {k : L2.Key} (hr : HR K S M H) (h1 : RD K (hid S M H) y dy) (h2 : RD K (hid S M H) i di) (e : dictAt M dy di = some (p, kds, k)) :
    ∃ kvs, y = .ref p ∧ i = L2.kV k ∧ H p = some (.dK kvs) ∧ M p = some (.dK kds) ∧ RKV K (hid S M H) kvs kds := by
  unfold dictAt at e
  split at e
  · split at e
    · rename_i e1
      split at e
      · rename_i e2
        cases e
        cases h1
        obtain ⟨u, z1, z2⟩ := hr.obj _ _ e1
        cases z2 with
        | dK r => exact ⟨_, rfl, key_rd h2 e2, z1, e1, r⟩
      · cases e
    · cases e
  · cases e
/-- o[i] of a dict -/
def dDGet (O I : DE) : DE := fun env M Q => O env M fun o M1 => I env M1 fun i M2 => match dictAt M2 o i with
  | some (_, kds, k) => match valD kds k with
    | some d => Q d M2
    | none => False
  | none => False
theorem d_dget (hu : X.A.units + 64 < cLine) (h1 : Ex X o to_ O) (h2 : Ex X e ti I) (hs : NoSl e) : Ex X (.Subscript o e pos) (tDGet to_ ti) (dDGet O I) := by
  refine ⟨pe_dget (by omega) h1.p h2.p hs, ?_⟩
  intro S σ H env M Q R rn hr f0 q
  refine h1.r S σ H env M _ _ rn hr f0 fun dy M1 y H1 f1 g1 r1 hr1 => ?_
  refine h2.r S σ H1 env M1 _ _ (rn.same g1.same) hr1 f1 fun di M2 i H2 f2 g2 r2 hr2 => ?_
  split at f2
  · rename_i e1
    obtain ⟨kvs, rfl, rfl, z, _, r⟩ := dict_rd hr2 (RD.same g2.same _ _ r1) r2 e1
    split at f2
    · rename_i e2
      rcases r.val _ with ⟨n1, _⟩ | ⟨v, d, n1, n2, rd⟩
      · rw [n1] at e2; cases e2
      · rw [n1] at e2
        cases e2
        exact ⟨_, v, rfl, by rw [← n2]; exact DGet.k z, q _ M2 _ H2 f2 (g1.trans g2) rd hr2⟩
    · exact f2.elim
  · exact f2.elim
/-- i in o, of a dict -/
def dDIn (k : Bool → Bool) (I O : DE) : DE := fun env M Q => I env M fun i M1 => O env M1 fun o M2 => match dictAt M2 o i with
  | some (_, kds, key) => Q (.bl (k (valD kds key).isSome)) M2
  | none => False
theorem dict_in {S : Addr → Bool} {M2 : MH} {H2 : Hp} {y i : V} {dy di : Dv} {p : Addr} {kds : List (L2.Key × Dv)} {k : L2.Key} (hr2 : HR K S M2 H2) (h1 : RD K (hid S M2 H2) y dy) (h2 : RD K (hid S M2 H2) i di) (e1 : dictAt M2 dy di = some (p, kds, k)) :
    ∃ r, y = .ref p ∧ DGet H2 p i r ∧ r.isSome = (valD kds k).isSome := by
  obtain ⟨kvs, rfl, rfl, z, _, r⟩ := dict_rd hr2 h1 h2 e1
  refine ⟨_, rfl, DGet.k z, ?_⟩
  rcases r.val k with ⟨n1, n2⟩ | ⟨v, d, n1, n2, rd⟩ <;> rw [n1, n2] <;> rfl
/-- o[i] = v of a dict -/
def dDPut (O I A : DE) : DS := fun E env M => A env M fun v M1 => O env M1 fun o M2 => I env M2 fun i M3 => match dictAt M3 o i with
  | some (p, kds, k) => kds.length < sizeLine ∧ E.nx env (mup M3 p (.dK (putD kds k v)))
  | none => False
theorem s_dput (hu : X.A.units + 64 < cLine) (h1 : Ex X o to_ O) (h2 : Ex X e ti I) (h3 : Ex X a ta A) (hs : swapsWith a (some (.Subscript o e apos)) pos.line X.env = pure false := by rfl) :
    Sm X (.Assign [.Subscript o e apos] a pos) (sDPut to_ ti ta) (dDPut O I A) := by
  refine ⟨ps_dput (by omega) h1.p h2.p h3.p hs, ?_⟩
  intro S σ H env M D E rn hr f0 c
  refine h3.r S σ H env M _ _ rn hr f0 fun v M1 x H1 f1 g1 r1 hr1 => ?_
  refine h1.r S σ H1 env M1 _ _ (rn.same g1.same) hr1 f1 fun dy M2 y H2 f2 g2 r2 hr2 => ?_
  refine h2.r S σ H2 env M2 _ _ (rn.same (g1.trans g2).same) hr2 f2 fun di M3 i H3 f3 g3 r3 hr3 => ?_
  split at f3
  · rename_i e1
    obtain ⟨kvs, rfl, rfl, z, zm, r⟩ := dict_rd hr3 (RD.same g3.same _ _ r2) r3 e1
    have rx := RD.same (g2.trans g3).same _ _ r1
    obtain ⟨g, hr'⟩ := hr3.put (o := .dK _) zm (.dK (r.putK rx _))
    have gg := ((g1.trans g2).trans g3).trans g
    exact ⟨_, _, rfl, DPut.k z (by rw [r.len]; exact f3.1), c.nx env _ σ _ f3.2 gg (rn.same gg.same) hr'⟩
  · exact f3.elim
end
end Vk
set_option linter.unusedVariables false
set_option linter.unusedSimpArgs false
/-! DLP: `in` of a dict, get, len, methods, new instances -/
namespace Vk
open PySem PySem.Spec PyProof.Rows L2
section
variable {X : Cx} {K : PySem.W.Frag} {o e a : Expr} {es : List Expr} {to_ ta ti tz : TE} {tt : TA} {O A I Z : DE} {G : DA} {f x m : Str} {p pos apos cpos : Pos} {C : Addr} {k j n : Nat} {F : DF}
/-! ### in -/
def rInD (neg : Bool) : R2 := fun y x H Q => ∃ a r, x = .ref a ∧ DGet H a y r ∧ Q (.bl (if neg then !r.isSome else r.isSome)) H
theorem op_inD (hu : X.A.units + 64 < cLine) : OpR X (compareOp .In) (rInD false) := by
  intro pins s σ H y x v u Q I ry rx h
  obtain ⟨a, r, rfl, g, q⟩ := h
  cases (show u = Value.ref a from rx)
  exact d_in (by omega) I g ry fun s3 I3 => ⟨.bl r.isSome, H, I3, rfl, q⟩
theorem op_notInD (hu : X.A.units + 64 < cLine) : OpR X (compareOp .NotIn) (rInD true) := by
  intro pins s σ H y x v u Q I ry rx h
  obtain ⟨a, r, rfl, g, q⟩ := h
  cases (show u = Value.ref a from rx)
  exact d_notIn (by omega) I g ry fun s3 I3 => ⟨.bl (!r.isSome), H, I3, rfl, q⟩
def gInD (neg : Bool) : DO := fun i o M Q => match dictAt M o i with
  | some (_, kds, key) => Q (.bl (if neg then !(valD kds key).isSome else (valD kds key).isSome)) M
  | none => False
theorem RO.inD {neg : Bool} : RO K (rInD neg) (gInD neg) := by
  intro S H i y di dy M Q R ri ry hr f q
  unfold gInD at f
  split at f
  · rename_i e1
    obtain ⟨r, rfl, g, e⟩ := dict_in hr ry ri e1
    exact ⟨_, r, rfl, g, q _ M _ H (by rw [e]; exact f) Gr.refl (.bl _) hr⟩
  · exact f.elim
theorem o_inD (hu : X.A.units + 64 < cLine) : Op X (compareOp .In) (rInD false) (gInD false) := ⟨op_inD hu, RO.inD⟩
theorem o_notInD (hu : X.A.units + 64 < cLine) : Op X (compareOp .NotIn) (rInD true) (gInD true) := ⟨op_notInD hu, RO.inD⟩
/-! ### get -/
def isDct (M : MH) : Dv → Bool
  | .ref p => match M p with
    | some (.dK _) => true
    | _ => false
  | _ => false
theorem isD_rd {S : Addr → Bool} {M : MH} {H : Hp} {y : V} {d : Dv} (hr : HR K S M H) (h : RD K (hid S M H) y d) (e : isDct M d = true) : ∃ a, y = .ref a ∧ IsD H a := by
  unfold isDct at e
  split at e
  · split at e
    · rename_i e1
      cases h
      obtain ⟨u, z1, z2⟩ := hr.obj _ _ e1
      cases z2 with
      | dK r => exact ⟨_, rfl, .inl ⟨_, .inl z1⟩⟩
    · cases e
  · cases e
theorem dict_get {S : Addr → Bool} {M : MH} {H : Hp} {y i : V} {dy di : Dv} {p : Addr} {kds : List (L2.Key × Dv)} {k : L2.Key} (hr : HR K S M H) (h1 : RD K (hid S M H) y dy) (h2 : RD K (hid S M H) i di) (e : dictAt M dy di = some (p, kds, k)) :
    y = .ref p ∧ ((valD kds k = none ∧ DGet H p i none) ∨ ∃ v d, valD kds k = some d ∧ DGet H p i (some v) ∧ RD K (hid S M H) v d) := by
  obtain ⟨kvs, rfl, rfl, z, _, r⟩ := dict_rd hr h1 h2 e
  refine ⟨rfl, ?_⟩
  rcases r.val k with ⟨n1, n2⟩ | ⟨v, d, n1, n2, rd⟩
  · exact .inl ⟨n1, by rw [← n2]; exact DGet.k z⟩
  · exact .inr ⟨v, d, n1, by rw [← n2]; exact DGet.k z, rd⟩
/-- o.get(i) -/
def dGet1 (O I : DE) : DE := fun env M Q => O env M fun o M1 => isDct M1 o = true ∧ I env M1 fun i M2 => match dictAt M2 o i with
  | some (_, kds, k) => Q ((valD kds k).getD .non) M2
  | none => False
theorem d_get1 (hu : X.A.units + 64 < cLine) (h1 : Ex X o to_ O) (h2 : Ex X e ti I) (mm : M1 X o "get" apos e cpos := by exact ⟨rfl, rfl, rfl, rfl⟩) : Ex X (.Call (.Attribute o "get" apos) [e] [] cpos) (tDGet1 to_ ti) (dGet1 O I) := by
  refine ⟨pe_dget1 (by omega) h1.p h2.p mm, ?_⟩
  intro S σ H env M Q R rn hr f0 q
  refine h1.r S σ H env M _ _ rn hr f0 fun dy M1 y H1 f1 g1 r1 hr1 => ?_
  obtain ⟨a, rfl, isd⟩ := isD_rd hr1 r1 f1.1
  refine ⟨a, rfl, isd, h2.r S σ H1 env M1 _ _ (rn.same g1.same) hr1 f1.2 fun di M2 i H2 f2 g2 r2 hr2 => ?_⟩
  split at f2
  · rename_i e1
    obtain ⟨ea, h⟩ := dict_get hr2 (RD.same g2.same _ _ r1) r2 e1
    cases ea
    rcases h with ⟨n1, n2⟩ | ⟨v, d, n1, n2, rd⟩
    · rw [n1] at f2
      exact ⟨none, n2, q _ M2 _ H2 f2 (g1.trans g2) .non hr2⟩
    · rw [n1] at f2
      exact ⟨some v, n2, q _ M2 _ H2 f2 (g1.trans g2) rd hr2⟩
  · exact f2.elim
/-- o.get(i, z) -/
def dGet2 (O I Z : DE) : DE := fun env M Q => O env M fun o M1 => isDct M1 o = true ∧ I env M1 fun i M2 => Z env M2 fun z M3 => match dictAt M3 o i with
  | some (_, kds, k) => Q ((valD kds k).getD z) M3
  | none => False
theorem d_get2 (hu : X.A.units + 64 < cLine) (h1 : Ex X o to_ O) (h2 : Ex X e ti I) (h3 : Ex X a tz Z) (mm : M2 X o "get" apos e a cpos := by exact ⟨rfl, rfl, rfl, rfl⟩) : Ex X (.Call (.Attribute o "get" apos) [e, a] [] cpos) (tDGet2 to_ ti tz) (dGet2 O I Z) := by
  refine ⟨pe_dget2 (by omega) h1.p h2.p h3.p mm, ?_⟩
  intro S σ H env M Q R rn hr f0 q
  refine h1.r S σ H env M _ _ rn hr f0 fun dy M1 y H1 f1 g1 r1 hr1 => ?_
  obtain ⟨a, rfl, isd⟩ := isD_rd hr1 r1 f1.1
  refine ⟨a, rfl, isd, h2.r S σ H1 env M1 _ _ (rn.same g1.same) hr1 f1.2 fun di M2 i H2 f2 g2 r2 hr2 => ?_⟩
  refine h3.r S σ H2 env M2 _ _ (rn.same (g1.trans g2).same) hr2 f2 fun dz M3 z H3 f3 g3 r3 hr3 => ?_
  split at f3
  · rename_i e1
    obtain ⟨ea, h⟩ := dict_get hr3 (RD.same (g2.trans g3).same _ _ r1) (RD.same g3.same _ _ r2) e1
    cases ea
    rcases h with ⟨n1, n2⟩ | ⟨v, d, n1, n2, rd⟩
    · rw [n1] at f3
      exact ⟨none, n2, q _ M3 _ H3 f3 ((g1.trans g2).trans g3) r3 hr3⟩
    · rw [n1] at f3
      exact ⟨some v, n2, q _ M3 _ H3 f3 ((g1.trans g2).trans g3) rd hr3⟩
  · exact f3.elim
/-! ### methods -/
/-- a method of the class at C -/
structure DMeth (P : Program) (w : World) (K : PySem.W.Frag) (mg : Str → Option Value) (base : Heap) (C : Addr) (m : Str) (k : Nat) (F : DF) : Prop where
  ex : ∃ (f : Addr) (fd : FuncData) (ps : List Str), Cls K C ∧ Meth K C m f ∧ Gk P w K mg base k f fd ps (spD K F) ∧ Binds K fd ps []
def dMethO (C : Addr) (m : Str) (F : DF) (O : DE) (G : DA) : DE := fun env M Q => O env M fun x M1 => match x with
  | .ref p => match M1 p with
    | some (.ins C' _ fs) => (C' = C ∧ fs.lookup m = none) ∧ G env M1 fun ds M2 => F (.ref p :: ds) M2 Q
    | _ => False
  | _ => False
theorem RE.methO (h1 : RE K to_ O) (h2 : RA K tt n G) : RE K (tMeth C m (spD K F) [] E0 to_ tt) (dMethO C m F O G) := by
  intro S σ H env M Q R rn hr f0 q
  refine h1 S σ H env M _ _ rn hr f0 fun d M1 v H1 f1 g1 r1 hr1 => ?_
  split at f1
  · split at f1
    · rename_i e1
      obtain ⟨⟨rfl, ln⟩, f1⟩ := f1
      cases r1
      obtain ⟨u, z1, z2⟩ := hr1.obj _ _ e1
      cases z2 with
      | ins r =>
        refine ⟨_, _, _, rfl, z1, r.lookN ln, h2 S σ H1 env M1 _ _ (rn.same g1.same) hr1 f1 fun ds M2 vs H2 f2 l2 g2 rs hr2 => ?_⟩
        rw [List.append_nil]
        exact ⟨S, _, M2, R, .cons (.ref _) rs, hr2, f2, fun d M' v H' h k rd hr' => q d M' v H' h ((g1.trans g2).trans k) rd hr'⟩
    · exact f1.elim
  · exact f1.elim
theorem d_meth {pl : Sem Bool} (hg : X.A.guards = some []) (c : DMeth X.prog X.w X.K X.mg X.base C m k F) (hr : Room j X.A) (h1 : Ex X o to_ O) (h2 : As X (e :: es) tt n G) (hk : k ≤ j := by decide)
    (st : starEach (e :: es) X.env = (false, eval e X.env) :: starEach es X.env := by rfl) (pb : (backTo pos (starEach es X.env)).any (·.1) = false := by rfl)
    (ht : eval (.Call (.Attribute o m apos) (e :: es) [] pos) X.env = (do
        let ov ← eval o X.env
        standAt apos.atName
        let fm ← holding [ov] (getMethod ov m pl)
        callWith pos fm.1 fm.2 (backTo pos (starEach (e :: es) X.env)) (backToKw pos (keywordEach [] X.env))) := by rfl) (hK : X.K = K := by rfl) :
    Ex X (.Call (.Attribute o m apos) (e :: es) [] pos) (tMeth C m (spD K F) [] E0 to_ tt) (dMethO C m F O G) := by
  subst hK
  obtain ⟨f, fd, ps, cl, mt, g, b⟩ := c.ex
  exact ⟨pe_methG hg h1.p cl mt g (hr.mono hk) b h2.p st pb ht, RE.methO h1.r h2.r⟩
/-- o.m() -/
theorem d_meth0 {pl : Sem Bool} (hg : X.A.guards = some []) (c : DMeth X.prog X.w X.K X.mg X.base C m k F) (hr : Room j X.A) (h1 : Ex X o to_ O) (hk : k ≤ j := by decide)
    (ht : eval (.Call (.Attribute o m apos) [] [] pos) X.env = (do
        let ov ← eval o X.env
        standAt apos.atName
        let fm ← holding [ov] (getMethod ov m pl)
        callWith pos fm.1 fm.2 (backTo pos (starEach [] X.env)) (backToKw pos (keywordEach [] X.env))) := by rfl) (hK : X.K = K := by rfl) :
    Ex X (.Call (.Attribute o m apos) [] [] pos) (tMeth C m (spD K F) [] E0 to_ tNil) (dMethO C m F O dANil) := by
  subst hK
  obtain ⟨f, fd, ps, cl, mt, g, b⟩ := c.ex
  refine ⟨⟨fun pins s σ H Q I h => ?_⟩, RE.methO h1.r a_nil.r⟩
  refine PySem.W.methodCall_KW (pl := pl) (thn (h1.p.run pins s σ H _ I h) ?_) ht
  rintro u s1 ⟨v, H1, I1, rv, a, dx, fs, ev, ea, lo, q⟩
  cases ev
  cases (show u = Value.ref a from rv)
  refine getmeth_ok I1 ea cl mt lo ?_
  exact PySem.W.callWith_K0 (first := [.ref a]) I1.kIn mt.kp (runG (us := [.ref a]) (vs := [.ref a]) hg g (hr.mono hk) b I1 (.cons rfl .nil) q)
/-! ### new instances -/
structure DMk (P : Program) (w : World) (K : PySem.W.Frag) (mg : Str → Option Value) (base : Heap) (x : Str) (C : Addr) (k : Nat) (F : DF) : Prop where
  ex : ∃ (f : Addr) (fd : FuncData) (ps : List Str), Mk K C f ∧ mg x = some (.ref C) ∧ Gk P w K mg base k f fd ps (spD K F) ∧ Binds K fd ps []
theorem runMakeG {pins : List (Addr × Obj)} {σ : L2.St} {H : Hp} {s : Shared} {Q : VK} {us : List Value} {vs : List V} {fI : Addr} {fd : FuncData} {ps : List Str} {sp : Sp} (hg : X.A.guards = some []) (mk : Mk X.K C fI) (g : Gk X.prog X.w X.K X.mg X.base k fI fd ps sp)
    (room : Room (k + 1) X.A) (B : Binds X.K fd ps []) (I : Inv X pins σ H s) (vals : Vals vs us)
    (h : ∀ x dx, H x = none → H dx = none → dx ≠ x → sp (.ref x :: vs) (upd (upd H dx (.own x)) x (.ins C dx [])) (fun v H2 => v = .non ∧ Q (.ref x) H2) E0) :
    wpAny (model X.prog X.w) X.A (call (.ref C) us) (EP X pins σ Q) X.xe s := by
  have want := h (s.heap.objs.size + 1) s.heap.objs.size (I.hok.fresh (Nat.le_succ _)) (I.hok.fresh (Nat.le_refl _)) (Nat.ne_of_lt (Nat.lt_succ_self _))
  have J := Inv.made (C := C) I
  have vals2 : Vals (V.ref (s.heap.objs.size + 1) :: vs) (Value.ref (s.heap.objs.size + 1) :: us) := .cons rfl vals
  have n1 : (Value.ref (s.heap.objs.size + 1) :: us).length = ps.length := by
    rw [← vals2.length]
    exact g.len _ _ _ _ want
  have bind := B _ (Value.ref (s.heap.objs.size + 1) :: us) J.kIn (by rw [List.append_nil]; exact n1)
  rw [List.append_nil] at bind
  refine wpAny_call (make_map (f := fI) I.kIn mk.makes mk.init (beq_iff_eq.mp mk.fn) (codeAny_mono (g.go (args := ⟨Value.ref (s.heap.objs.size + 1) :: us, []⟩) hg (room.make C us []) (J.env0.make C us []) bind vals2 want) fun r s2 h2 => ?_))
  match r, h2 with
  | .error _, h => exact h.elim
  | .ok (.ret u), h =>
    obtain ⟨v, H3, I3, rv, ev, q3⟩ := J.after h
    subst ev
    exact ⟨rv, ⟨V.ref (s.heap.objs.size + 1), H3, I3, rfl, q3⟩⟩
  | .ok .next, h => exact h.elim
  | .ok .brk, h => exact h.elim
  | .ok .cont, h => exact h.elim
def dMk (C : Addr) (F : DF) (G : DA) : DE := fun env M Q => G env M fun ds M1 => ∀ x dx, M1 x = none → M1 dx = none → dx ≠ x → F (.ref x :: ds) (mup (mup M1 dx (.own x)) x (.ins C dx [])) (fun v M2 => v = .non ∧ Q (.ref x) M2)
end
end Vk
set_option linter.unusedVariables false
set_option linter.unusedSimpArgs false
/-! DLQ: new instances, repr, len of a dict -/
namespace Vk
open PySem PySem.Spec PyProof.Rows L2
section
variable {X : Cx} {K : PySem.W.Frag} {o e a : Expr} {es : List Expr} {to_ ta ti tz : TE} {tt : TA} {O A I Z : DE} {G : DA} {f x m : Str} {p pos apos cpos : Pos} {C : Addr} {k j n : Nat} {F : DF}
theorem RE.mk_ (h2 : RA K tt n G) : RE K (tMake C (spD K F) [] E0 tt) (dMk C F G) := by
  intro S σ H env M Q R rn hr f0 q
  refine h2 S σ H env M _ _ rn hr f0 fun ds M1 vs H1 f1 l1 g1 rs hr1 x dx hx hdx hne => ?_
  rw [List.append_nil]
  have hx2 : (upd H1 dx (.own x)) x = none := by rw [upd_ne (Ne.symm hne)]; exact hx
  obtain ⟨ga, hra⟩ := hr1.newM hdx (.own x)
  obtain ⟨gb, hrb⟩ := hra.newM (o := .ins C dx []) hx2 (.ins .nil)
  have gg := ga.trans gb
  refine ⟨S, _, _, fun v M2 => v = .non ∧ R (.ref x) M2, .cons (.ref x) (RDs.same gg.same _ _ rs), hrb, f1 x dx (hr1.fresh hx).2 (hr1.fresh hdx).2 hne, ?_⟩
  rintro d M' v H' ⟨rfl, h⟩ g rd hr'
  cases rd
  exact ⟨rfl, q _ M' _ H' h ((g1.trans gg).trans g) (.ref x) hr'⟩
/-- C(e, ..) -/
theorem d_mk (hg : X.A.guards = some []) (c : DMk X.prog X.w X.K X.mg X.base x C k F) (hr : Room j X.A) (gl : Gl X x) (h2 : As X (e :: es) tt n G) (hk : k + 1 ≤ j := by decide) (dbg : (x == ("__debug__" : Str)) = false := by decide)
    (st : starEach (e :: es) X.env = (false, eval e X.env) :: starEach es X.env := by rfl) (pl : (backTo pos (starEach es X.env)).any (·.1) = false := by rfl) (hK : X.K = K := by rfl) :
    Ex X (.Call (.Name x p) (e :: es) [] pos) (tMake C (spD K F) [] E0 tt) (dMk C F G) := by
  subst hK
  obtain ⟨fI, fd, ps, mk, hm, g, b⟩ := c.ex
  refine ⟨⟨fun pins s σ H Q I h => ?_⟩, RE.mk_ h2.r⟩
  refine wpAny_Call_Name_kw (ld_glob I gl hm ?_ dbg)
  refine PySem.W.callWith_K (h₀ := X.base) I.ok.mod.kin mk.kp (thn (h2.p.run pos pins s σ H _ I h) ?_) st pl
  rintro us s1 ⟨vs, H1, I1, r, q⟩
  refine ⟨I1.kIn, runMakeG hg mk g (hr.mono hk) b I1 r fun x dx h1 h2 h3 => ?_⟩
  have := q x dx h1 h2 h3
  rw [List.append_nil] at this
  exact this
/-- C() -/
theorem d_mk0 (hg : X.A.guards = some []) (c : DMk X.prog X.w X.K X.mg X.base x C k F) (hr : Room j X.A) (gl : Gl X x) (hk : k + 1 ≤ j := by decide) (dbg : (x == ("__debug__" : Str)) = false := by decide) (hK : X.K = K := by rfl) :
    Ex X (.Call (.Name x p) [] [] pos) (tMake C (spD K F) [] E0 tNil) (dMk C F dANil) := by
  subst hK
  obtain ⟨fI, fd, ps, mk, hm, g, b⟩ := c.ex
  refine ⟨⟨fun pins s σ H Q I h => ?_⟩, RE.mk_ a_nil.r⟩
  refine wpAny_Call_Name_kw (ld_glob I gl hm ?_ dbg)
  exact PySem.W.callWith_K0 I.kIn mk.kp (runMakeG (us := []) hg mk g (hr.mono hk) b I .nil h)
/-- {} -/
def dDic0 : DE := fun env M Q => ∀ p, M p = none → Q (.ref p) (mup M p (.dK []))
theorem d_dic0 : Ex X (.Dict [] [] pos) tDNewK dDic0 := by
  refine ⟨pe_dnewK, ?_⟩
  intro S σ H env M Q R rn hr f q
  intro p hp
  obtain ⟨g2, hr2⟩ := hr.newM hp (.dK .nil)
  exact q _ _ _ _ (f p (hr.fresh hp).2) g2 (.ref p) hr2
/-! ### what never runs -/
theorem d_never : Ex X e (fun _ _ _ => False) (fun _ _ _ => False) := ⟨⟨fun _ _ _ _ _ _ h => h.elim⟩, fun _ _ _ _ _ _ _ _ _ h _ => h.elim⟩
theorem s_never {st : Stmt} : Sm X st (fun _ _ _ => False) (fun _ _ _ => False) := ⟨⟨fun _ _ _ _ _ _ h => h.elim⟩, fun _ _ _ _ _ _ _ _ _ h _ => h.elim⟩
/-! ### repr, len of a dict -/
def okV (d : Dv) : Bool := datD d && okD (toP d)
def gRepr : DL := fun ds M Q => match ds with
  | [d] => (okV d = true ∧ (toP d).depth ≤ 60 ∧ (toP d).shown.length ≤ sizeLine) ∧ Q (.str (toP d).shown) M
  | _ => False
theorem k_repr (hg : X.A.guards = some []) (room : Room j X.A) (hK : X.K = K := by rfl) : Cb X (.builtin "repr") (rRepr K) gRepr := by
  subst hK
  refine ⟨call_reprD hg room, ?_⟩
  intro S H vs ds M Q R rs hr f0 q
  unfold gRepr at f0
  split at f0
  · obtain ⟨v, rfl, rd⟩ := rs.one
    obtain ⟨⟨h1, h2, h3⟩, f1⟩ := f0
    unfold okV at h1
    rw [Bool.and_eq_true] at h1
    exact ⟨v, _, rfl, RD.dp _ _ h1.1 rd, h1.2, h2, h3, q _ M _ H f1 Gr.refl (.str _) hr⟩
  · exact f0.elim
abbrev rLenD : List V → Hp → VK → Prop := fun xs H Q => ∃ a kvs, xs = [V.ref a] ∧ H a = some (.dK kvs) ∧ Q (.int kvs.length) H
def gLenD : DL := fun ds M Q => match ds with
  | [.ref p] => match M p with
    | some (.dK kds) => Q (.int (kds.length : Nat)) M
    | _ => False
  | _ => False
theorem k_lenD : Cb X (.builtin "len") rLenD gLenD := by
  refine ⟨call_lenD, ?_⟩
  intro S H vs ds M Q R rs hr f0 q
  unfold gLenD at f0
  split at f0
  · split at f0
    · rename_i e1
      obtain ⟨v, rfl, rd⟩ := rs.one
      cases rd
      obtain ⟨u, z1, z2⟩ := hr.obj _ _ e1
      cases z2 with
      | dK r => exact ⟨_, _, rfl, z1, q _ M _ H (by rw [r.len]; exact f0) Gr.refl (.int _) hr⟩
    · exact f0.elim
  · exact f0.elim
end
#print axioms d_mk0
#print axioms k_repr
end Vk
set_option linter.unusedVariables false
set_option linter.unusedSimpArgs false
/-! DLR: x += e, xs[i] += e (ints) -/
namespace Vk
open PySem PySem.Spec PyProof.Rows L2
section
variable {X : Cx} {K : PySem.W.Frag} {o e a : Expr} {to_ ta ti : TE} {O A I : DE} {x : Str} {p pos tpos : Pos} {op : Operator} {f : Int → Int → Int}
def dAug (i : Nat) (f : Int → Int → Int) (A : DE) : DS := fun E env M => match env[i]? with
  | some (some (.int u)) => A env M fun y M1 => match y with
    | .int w => E.nx (env.set i (some (.int (f u w)))) M1
    | _ => False
  | _ => False
theorem s_aug {i : Nat} (ho : PIp X op (ipI f)) (hN : X.N.Nodup) (h : Ex X e ta A) (hi : X.N[i]? = some x := by rfl) (hx : Loc X.env.scope x := by first | exact Or.inl rfl | exact Or.inr rfl) (hf : X.fn x = true ∨ X.env.scope.names.lookup x = some .local := by first | exact .inl rfl | exact .inr rfl) :
    Sm X (.AugAssign (.Name x tpos) op e pos) (tAug i ta (ipI f)) (dAug i f A) := by
  refine ⟨ps_aug hN hi hx h.p ho hf, ?_⟩
  intro S σ H env M D E rn hr f0 c
  unfold dAug at f0
  split at f0
  · rename_i u e1
    obtain ⟨v, ev, rd⟩ := rn.at_ i _ e1
    cases rd
    refine ⟨_, ev, h.r S σ H env M _ _ rn hr f0 fun y M1 w H1 f1 g1 r1 hr1 => ?_⟩
    split at f1
    · cases r1
      exact ⟨_, _, rfl, rfl, c.nx _ M1 _ H1 f1 g1 ((rn.same g1.same).set (.int _) i) hr1⟩
    · exact f1.elim
  · exact f0.elim
/-- xs[i], by values -/
def rGetL (K : PySem.W.Frag) : V → V → Hp → VK → Prop := fun x y H Q => ∃ p xs, ∃ j : Nat, ∃ v, x = .ref p ∧ y = .int (j : Nat) ∧ SqL K H p xs ∧ xs[j]? = some v ∧ Q v H
theorem pget_list : PGet X (rGetL X.K) := by
  intro pins s σ H x y u w Q I rx ry h
  obtain ⟨p, xs, j, z, rfl, rfl, hq, he, q⟩ := h
  cases rx
  obtain ⟨t, rfl⟩ := ry
  obtain ⟨its, r, pl, hz⟩ := I.list hq
  obtain ⟨w, ew, rw'⟩ := r.get he
  have hl := r.length
  have hj : j < its.length := by
    have := List.getElem?_eq_some_iff.mp ew
    exact this.1
  have hn := line63
  exact wpAny_getItem_list pl.isList (by omega) (by omega) (by simpa using ew) ⟨z, H, I, rw', q⟩
def dAugL (f : Int → Int → Int) (O I A : DE) : DS := fun E env M => O env M fun o M1 => I env M1 fun i M2 => match o, i with
  | .ref p, .int k => match M2 p with
    | some (.lst xs) => 0 ≤ k ∧ match xs[k.toNat]? with
      | some (.int u) => A env M2 fun y M3 => match y, M3 p with
        | .int w, some (.lst ys) => k.toNat < ys.length ∧ E.nx env (mup M3 p (.lst (ys.set k.toNat (.int (f u w)))))
        | _, _ => False
      | _ => False
    | _ => False
  | _, _ => False
theorem s_augL (ho : PIp X op (ipI f)) (h1 : Ex X o to_ O) (h2 : Ex X e ti I) (h3 : Ex X a ta A) (hK : X.K = K := by rfl)
    (ha : ∀ ov iv new, augStore e ov iv new = (do holding [new, ov, iv] (setItem ov iv new); release [new, ov, iv] []; pure .next) := by intros; rfl) :
    Sm X (.AugAssign (.Subscript o e tpos) op a pos) (tAugS to_ ti ta (rGetL K) (ipI f) rSetL) (dAugL f O I A) := by
  subst hK
  refine ⟨ps_augS h1.p h2.p pget_list h3.p ho set_list ha, ?_⟩
  intro S σ H env M D E rn hr f0 c
  refine h1.r S σ H env M _ _ rn hr f0 fun oo M1 x H1 f1 g1 r1 hr1 => ?_
  refine h2.r S σ H1 env M1 _ _ (rn.same g1.same) hr1 f1 fun ii M2 y H2 f2 g2 r2 hr2 => ?_
  split at f2
  · rename_i p k
    split at f2
    · rename_i xs e1
      obtain ⟨k0, f2⟩ := f2
      split at f2
      · rename_i u e2
        cases r1
        cases r2
        obtain ⟨_, z1, z2⟩ := hr2.obj _ _ e1
        cases z2 with
        | lst ra =>
          obtain ⟨v, ev, rd⟩ := ra.at e2
          cases rd
          have ek : k = ((k.toNat : Nat) : Int) := by omega
          refine ⟨p, _, k.toNat, _, rfl, by rw [← ek], SqL.of z1, ev, ?_⟩
          refine h3.r S σ H2 env M2 _ _ (rn.same (g1.trans g2).same) hr2 f2 fun yy M3 z H3 f3 g3 r3 hr3 => ?_
          split at f3
          · rename_i w ys e3
            cases r3
            obtain ⟨_, y1, y2⟩ := hr3.obj _ _ e3
            cases y2 with
            | lst rb =>
              obtain ⟨g, hr'⟩ := hr3.put (o := .lst _) e3 (.lst (rb.set (.int (f u w)) k.toNat))
              have gg := ((g1.trans g2).trans g3).trans g
              refine ⟨u, w, rfl, rfl, p, _, k, k.toNat, rfl, rfl, y1, ?_, c.nx env _ σ _ f3.2 gg (rn.same gg.same) hr'⟩
              have hl := rb.len
              unfold ixN
              rw [if_pos k0, if_pos (by omega)]
          · exact f3.elim
      · exact f2.elim
    · exact f2.elim
  · exact f2.elim
end
end Vk
set_option linter.unusedVariables false
set_option linter.unusedSimpArgs false
/-! DLS: a pattern of a tuple within a tuple's pattern -/
namespace Vk
open PySem PySem.Spec PyProof.Rows L2
section
variable {X : Cx} {K : PySem.W.Frag} {pos : Pos} {ps ps1 : List Pattern} {ns ns1 : List Str} {t tp1 : TPs} {q q1 : List DPat}
def tPSeq (K : PySem.W.Frag) (n : Nat) (tp : TPs) : TPt := fun v H Q => (NoSeq v ∧ Q none H) ∨ ∃ a vs, v = .ref a ∧ SqT K H a vs ∧ (¬ vs.length = n → Q none H) ∧ (vs.length = n → tp vs H Q)
theorem ppt_seq {n : Nat} (hc : X.calm = true) (hp : PPs X ps1 ns1 tp1) (hn : ps1.length = n) (hstar : ps1.findIdx? (·.isStar) = none) (hwild : (ps1.all fun p => p.isWildcard || (p.isStar && p.names.isEmpty)) = false) :
    PPt X (.MatchSequence ps1 pos) ns1 (tPSeq X.K n tp1) := by
  refine ⟨fun pins s σ H v u Q I r h => ?_⟩
  rcases h with ⟨hv, q⟩ | ⟨a, vs, rfl, hq, miss, hit⟩
  · have flag : ∀ {T : String}, s.TypeIs u T → flagOfType true (.type T) = pure false → wpAny (model X.prog X.w) X.A (matchPattern (.MatchSequence ps1 pos) X.env u) (Fits X pins σ ns1 Q) X.xe s := fun ht hf =>
      wpAny_matchPattern_Sequence (wpAny_collectionFlag ht hf ⟨H, I, .inl ⟨rfl, q⟩⟩) hstar hwild
    cases v with
    | non => cases (show u = Value.none from r); exact flag (T := "NoneType") rfl flag_seq_None
    | bl b => cases (show u = Value.bool b from r); exact flag (T := "bool") rfl flag_seq_bool
    | int i => obtain ⟨t, rfl⟩ := (show ∃ t, u = Value.int i t from r); exact flag (T := "int") rfl flag_seq_int
    | str x => obtain ⟨t, rfl⟩ := (show ∃ t, u = Value.str x t from r); exact flag (T := "str") rfl flag_seq_str
    | byt b => exact hv.elim
    | flt b => exact hv.elim
    | ty b => exact hv.elim
    | ref b => exact hv.elim
  · cases r
    obtain ⟨its, rv, ht, hz⟩ := I.tuple hq
    have e0 : (sizeLine : Nat) = 16777216 := by decide +kernel
    have ll := rv.length
    have le : (its.toArray.size : Int) < 2 ^ 63 := by
      simp only [List.size_toArray]
      omega
    have ln : its.toArray.size = vs.length := by
      rw [List.size_toArray]
      exact ll.symm
    by_cases c : vs.length = n
    · refine matchSeq_tuple_hit ht le (by rw [ln, c, hn]) ?_ hstar hwild
      have I0 : Inv X pins σ H { s with toks := s.toks + 1 + 1 } := I.tok _
      have e1 : ps1.length = its.toArray.size := by rw [ln, c, hn]
      rw [e1]
      refine unpackItems_tuple (I.ok.hd hc) ht fun h' hx => ?_
      have I1 : Inv X pins σ H { s with toks := s.toks + 1 + 1, heap := h' } := I0.kept (t' := s.toks + 1 + 1) fun b o e => hx b o (Nat.ne_of_lt (Heap.lt_size e)) e
      exact hp.run pins _ σ H vs its _ I1 rv (hit c)
    · exact matchSeq_tuple_miss ht le (by rw [ln, hn]; exact c) ⟨H, I.tok _, .inl ⟨rfl, miss c⟩⟩ hstar hwild
def subP (q : List DPat) : Dv → Option (Option (List Dv))
  | .tup ds => if ds.length = q.length then matchP q ds else some none
  | .non => some none
  | .bl _ => some none
  | .int _ => some none
  | .str _ => some none
  | _ => none
theorem ps_sub (hc : X.calm = true) (h1 : Pats X ps1 ns1 tp1 q1) (h : Pats X ps ns t q) (hn : ps1.length = q1.length := by rfl) (hstar : ps1.findIdx? (·.isStar) = none := by rfl) (hwild : (ps1.all fun p => p.isWildcard || (p.isStar && p.names.isEmpty)) = false := by rfl) :
    Pats X (.MatchSequence ps1 pos :: ps) (ns1 ++ ns) (tPCons (tPSeq X.K q1.length tp1) t) (.sub (subP q1) :: q) := by
  refine ⟨pps_cons (ppt_seq hc h1.p hn hstar hwild) h.p, ?_⟩
  intro S H M vs ds Q hl rs hr f
  cases rs with
  | nil => cases hl
  | @cons v d vs ds a b =>
    refine ⟨v, vs, rfl, ?_⟩
    rw [matchP] at f
    have hl' : ds.length = q.length := by simpa using hl
    have cont : ∀ ws cs, RDs X.K (hid S M H) ws cs → (match matchP q ds with | none => False | some none => Q none H | some (some es) => ∀ zs, RDs X.K (hid S M H) zs (cs ++ es) → Q (some zs) H) →
        t vs H fun o2 H2 => match o2 with | none => Q none H2 | some zs => Q (some (ws ++ zs)) H2 := fun ws cs hw k => by
      refine h.r S H M vs ds _ hl' b hr ?_
      cases e : matchP q ds with
      | none => rw [e] at k; exact k.elim
      | some o =>
        rw [e] at k
        cases o with
        | none => exact k
        | some es => exact fun zs hz => k _ (hw.app hz)
    have atom : NoSeq v → Q none H → tPSeq X.K q1.length tp1 v H fun o H1 => match o with | none => Q none H1 | some ws => t vs H1 fun o2 H2 => match o2 with | none => Q none H2 | some zs => Q (some (ws ++ zs)) H2 := fun n k => .inl ⟨n, k⟩
    cases a with
    | non => exact atom trivial f
    | bl b => exact atom trivial f
    | int i => exact atom trivial f
    | str x => exact atom trivial f
    | lst ha ra => exact f.elim
    | scr ha => exact f.elim
    | ref p => exact f.elim
    | ty p => exact f.elim
    | @tup _ _ d1 ha ra =>
      have el := ra.len
      refine .inr ⟨_, _, rfl, sqT_hid ha, fun nl => ?_, fun yl => ?_⟩
      · unfold subP at f
        simp only at f
        rw [if_neg (by rw [← el]; exact nl)] at f
        exact f
      · unfold subP at f
        simp only at f
        rw [if_pos (by rw [← el]; exact yl)] at f
        refine h1.r S H M _ _ _ (by rw [← el]; exact yl) ra hr ?_
        cases e : matchP q1 d1 with
        | none => rw [e] at f; exact f.elim
        | some o =>
          rw [e] at f
          cases o with
          | none => exact f
          | some cs =>
            intro ws hw
            refine cont ws cs hw ?_
            cases e2 : matchP q ds with
            | none => rw [e2] at f; exact f.elim
            | some o2 =>
              rw [e2] at f
              cases o2 with
              | none => exact f
              | some es => exact f
end
end Vk
set_option linter.unusedVariables false
set_option linter.unusedSimpArgs false
/-! DLT: sorted, sum, max, min of a list of ints -/
namespace Vk
open PySem PySem.Spec PyProof.Rows L2
theorem ints_rd {K : PySem.W.Frag} {G : Hp} : ∀ {ns : List Int} {vs : List V}, RDs K G vs (ns.map Dv.int) → vs = ns.map V.int
  | [], _, h => by cases h; rfl
  | n :: r, _, h => by
    cases h with
    | cons a b =>
      cases a
      rw [ints_rd b]
      rfl
theorem rd_ints {K : PySem.W.Frag} {G : Hp} : ∀ ns : List Int, RDs K G (ns.map V.int) (ns.map Dv.int)
  | [] => .nil
  | n :: r => .cons (.int n) (rd_ints r)
section
variable {X : Cx} {K : PySem.W.Frag}
/-- a list of ints -/
def IntsAt (M : MH) (d : Dv) (ns : List Int) : Prop := lsD M d = some (ns.map Dv.int) ∨ d = .scr ns
theorem ints_at {S : Addr → Bool} {M : MH} {H : Hp} {v : V} {d : Dv} {ns : List Int} (hr : HR K S M H) (h : RD K (hid S M H) v d) (e : IntsAt M d ns) : ∃ a, v = .ref a ∧ SqL K H a (ns.map V.int) := by
  rcases e with e | rfl
  · obtain ⟨a, vs, rfl, ha, ra⟩ := ls_rd hr h e
    rw [ints_rd ra] at ha
    exact ⟨a, rfl, SqL.of ha⟩
  · cases h with
    | scr ha => exact ⟨_, rfl, sqL_hid ha⟩
def gSorted : DL := fun ds M Q => ∃ d ns, ds = [d] ∧ IntsAt M d ns ∧ ns.length < 64 ∧ ∀ ns' : List Int, ns'.Perm ns → ns'.Pairwise (· ≤ ·) → Q (.lst (ns'.map .int)) M
theorem k_sorted (hK : X.K = K := by rfl) : Cb X (.builtin "sorted") (rSorted K) gSorted := by
  subst hK
  refine ⟨cr_sorted, ?_⟩
  intro S H vs ds M Q R rs hr f0 q
  obtain ⟨d, ns, rfl, hi, hl, f⟩ := f0
  obtain ⟨v, rfl, rd⟩ := rs.one
  obtain ⟨a, rfl, sq⟩ := ints_at hr rd hi
  refine ⟨a, ns, rfl, sq, hl, fun ns' p h1 h2 hp => ?_⟩
  obtain ⟨g2, hr2, rd2⟩ := RD.newL hr hp (rd_ints ns')
  exact q _ M _ _ (f ns' h1 h2) g2 rd2 hr2
def gSum : DL := fun ds M Q => ∃ d ns, ds = [d] ∧ IntsAt M d ns ∧ Q (.int ns.sum) M
theorem k_sum (hc : X.calm = true) (hK : X.K = K := by rfl) : Cb X (.builtin "sum") (rSum K) gSum := by
  subst hK
  refine ⟨cr_sum hc, ?_⟩
  intro S H vs ds M Q R rs hr f0 q
  obtain ⟨d, ns, rfl, hi, f⟩ := f0
  obtain ⟨v, rfl, rd⟩ := rs.one
  obtain ⟨a, rfl, sq⟩ := ints_at hr rd hi
  exact ⟨a, ns, rfl, sq, q _ M _ H f Gr.refl (.int _) hr⟩
def gMax1 : DL := fun ds M Q => ∃ d ns, ds = [d] ∧ IntsAt M d ns ∧ 0 < ns.length ∧ ∀ m, m ∈ ns → (∀ y, y ∈ ns → y ≤ m) → Q (.int m) M
theorem k_max1 (hc : X.calm = true) (hK : X.K = K := by rfl) : Cb X (.builtin "max") (rMax K) gMax1 := by
  subst hK
  refine ⟨cr_max hc, ?_⟩
  intro S H vs ds M Q R rs hr f0 q
  obtain ⟨d, ns, rfl, hi, hl, f⟩ := f0
  obtain ⟨v, rfl, rd⟩ := rs.one
  obtain ⟨a, rfl, sq⟩ := ints_at hr rd hi
  exact ⟨a, ns, rfl, sq, hl, fun m h1 h2 => q _ M _ H (f m h1 h2) Gr.refl (.int _) hr⟩
end
end Vk
set_option linter.unusedVariables false
set_option linter.unusedSimpArgs false
/-! DLU: max(list of ints, default=d) -/
namespace Vk
open PySem PySem.Spec PyProof.Rows L2
theorem reads_ints {h : Heap} : ∀ {ns : List Int} {us : List Value}, Vals (ns.map V.int) us → ∃ as, ReadsAll h us (ns.map PyData.int) as
  | [], _, r => by cases r; exact ⟨_, .nil⟩
  | n :: ns, _, r => by
    cases r with
    | cons a b =>
      obtain ⟨t, rfl⟩ := a
      obtain ⟨as, h⟩ := reads_ints b
      exact ⟨_, .cons (.int n t) h⟩
theorem depth_ints : ∀ ns : List Int, PyData.depthAll (ns.map PyData.int) = 0
  | [] => rfl
  | n :: r => by
    rw [List.map_cons, PyData.depthAll, depth_ints r]
    rfl
def maxI (ns : List Int) (z : Dv) : Dv := match ns with
  | [] => z
  | n :: r => .int (r.foldl max n)
section
variable {X : Cx} {K : PySem.W.Frag} {e c : Expr} {te td : TE} {A B : DE} {x : Str} {p pos kp : Pos}
def tMaxD (K : PySem.W.Frag) (ta : TA) (td : TE) : TE := fun σ H Q => ta σ H fun vs H1 => ∃ v, vs = [v] ∧ td σ H1 fun z H2 => ∃ a ns, v = .ref a ∧ SqL K H2 a (ns.map V.int) ∧ Q (match ns with | [] => z | n :: r => .int (r.foldl max n)) H2
theorem pe_maxD {ta : TA} (hc : X.calm = true) (hu : X.A.units + 64 < cLine) (hg : Gl X x) (hm : X.mg x = none) (hv : bootBuiltins x = some (.builtin "max")) (he : PA X [e] ta) (hd : PE X c td) (hn : x ≠ "__name__" := by decide) (hdb : (x == ("__debug__" : Str)) = false := by decide)
    (ht : backTo pos (starEach [e] X.env) = (false, eval e X.env) :: backTo pos (starEach [] X.env) := by rfl) :
    PE X (.Call (.Name x p) [e] [⟨some "default", c, kp⟩] pos) (tMaxD X.K ta td) := by
  refine ⟨fun pins s σ H Q I h => ?_⟩
  refine wpAny_Call_Name_kw (ld_blt I hg hm hv ?_ hn hdb)
  refine PyProof.Rows.callWith_kw (thn (he.run pos pins s σ H _ I h) fun us s1 ⟨vs, H1, I1, r1, v, ev, q1⟩ => ?_) ht (by rw [ht]; rfl) (by rfl) (by rfl)
  · subst ev
    refine PyProof.Rows.kws_cons (thn (hd.run pins s1 σ H1 _ I1 q1) fun z s2 ⟨zv, H2, I2, rz, a, ns, ea, sq, q2⟩ => PyProof.Rows.kws_nil ?_)
    subst ea
    rw [Vals.ref1 r1]
    obtain ⟨its, rv, hl, _⟩ := I2.list sq
    obtain ⟨as, ra⟩ := reads_ints (h := s2.heap) rv
    show wpAny _ _ (call (.builtin "max") [.ref a] [(Str.ofString "default", z)]) _ _ _
    refine PySem.W.max_list_default (I2.ok.hd hc) hl.isList (xs := ns.map PyData.int) (as := as) ra ⟨fun x hx y hy => ?_, fun x hx => ?_⟩ (by rw [depth_ints]; omega) (fun h0 h' tk hk => ?_) (fun y ys i v h' tk bs hxs hv hr hk => ?_)
    · obtain ⟨i, _, rfl⟩ := List.mem_map.mp hx
      obtain ⟨j, _, rfl⟩ := List.mem_map.mp hy
      rfl
    · obtain ⟨i, _, rfl⟩ := List.mem_map.mp hx
      intro z
      cases z
    · have : ns = [] := by simpa using h0
      subst this
      exact ⟨zv, H2, I2.kept hk, rz, q2⟩
    · cases ns with
      | nil => cases hxs
      | cons n r =>
        rw [List.map_cons] at hxs
        cases hxs
        rw [PySem.W.maxD_ints] at hr
        cases hr
        exact ⟨.int _, H2, I2.kept hk, ⟨_, rfl⟩, q2⟩
/-- max(e, default = c) of a list of ints -/
def dMaxD (G : DA) (B : DE) : DE := fun env M Q => G env M fun ds M1 => ∃ d, ds = [d] ∧ B env M1 fun z M2 => ∃ ns, IntsAt M2 d ns ∧ Q (maxI ns z) M2
theorem d_maxD {ta : TA} {n : Nat} {G : DA} (hc : X.calm = true) (hu : X.A.units + 64 < cLine) (hg : Gl X x) (hm : X.mg x = none) (hv : bootBuiltins x = some (.builtin "max")) (h1 : As X [e] ta n G) (h2 : Ex X c td B) (hn : x ≠ "__name__" := by decide) (hdb : (x == ("__debug__" : Str)) = false := by decide)
    (ht : backTo pos (starEach [e] X.env) = (false, eval e X.env) :: backTo pos (starEach [] X.env) := by rfl) (hK : X.K = K := by rfl) :
    Ex X (.Call (.Name x p) [e] [⟨some "default", c, kp⟩] pos) (tMaxD K ta td) (dMaxD G B) := by
  subst hK
  refine ⟨pe_maxD hc hu hg hm hv h1.p h2.p hn hdb ht, ?_⟩
  intro S σ H env M Q R rn hr f0 q
  refine h1.r S σ H env M _ _ rn hr f0 fun ds M1 vs H1 f1 l1 g1 rs hr1 => ?_
  obtain ⟨d, rfl, f1⟩ := f1
  obtain ⟨v, rfl, rd⟩ := rs.one
  refine ⟨v, rfl, h2.r S σ H1 env M1 _ _ (rn.same g1.same) hr1 f1 fun z M2 zv H2 f2 g2 rz hr2 => ?_⟩
  obtain ⟨ns, hi, f2⟩ := f2
  obtain ⟨a, rfl, sq⟩ := ints_at hr2 (RD.same g2.same _ _ rd) hi
  refine ⟨a, ns, rfl, sq, q (maxI ns z) M2 _ H2 f2 (g1.trans g2) ?_ hr2⟩
  cases ns with
  | nil => exact rz
  | cons n r => exact .int _
end
end Vk
set_option linter.unusedVariables false
set_option linter.unusedSimpArgs false
/-! DLV: comprehensions with one `if` -/
namespace Vk
open PySem PySem.Spec PyProof.Rows L2
section
variable {X : Cx} {tg : Expr} {te : TE} {A : DE} {pos : Pos}
theorem d_lc1 {elt it c : Expr} {scope : Scope} {own : List (Str × Nat)} {wi : TI} {g : TG} {tT : TT} {ws : List Nat} {W : DI} {Fg : DG} {T : DT} (hc : X.calm = true) (hN : X.N.Nodup) (hi : Wk X tg it wi W) (ok : BlkOk X.N X.env.scope scope own)
    (hg : ∀ (s : Shared) (H : Hp) (C : Addr) (cl : List (Str × Addr)) (fp : List Addr), Tg (X.blk s H scope (compEnvC scope cl C X.env) fp) tg g ws Fg) (ht : ∀ (s : Shared) (H : Hp) (C : Addr) (cl : List (Str × Addr)) (fp : List Addr), Ts (X.blk s H scope (compEnvC scope cl C X.env) fp) c tT T)
    (he : ∀ (s : Shared) (H : Hp) (C : Addr) (cl : List (Str × Addr)) (fp : List Addr), Ex (X.blk s H scope (compEnvC scope cl C X.env) fp) elt te A) (hw : ∀ i, i ∈ ws → i ∈ own.map (·.2) := by decide) (hs : ∀ x, foldedSetIterable it X.env x = pure x := by intro _; rfl) :
    Ex X (.ListComp elt [⟨tg, it, [c], 0⟩] scope pos) (tLc wi g tT te (own.map (·.2))) (dLc W Fg T A (own.map (·.2))) :=
  d_lc hc hN hi ok hg (fun s H C cl fp => pts_one (ht s H C cl fp).p) (ht X.s_0 X.H_0 0 [] []).r he hw hs
theorem s_setLc1 {i : Nat} {y : Str} {py spos : Pos} {elt it c : Expr} {scope : Scope} {own : List (Str × Nat)} {wi : TI} {g : TG} {tT : TT} {ws : List Nat} {W : DI} {Fg : DG} {T : DT} (hc : X.calm = true) (hN : X.N.Nodup)
    (hsw : swapsWith (.ListComp elt [⟨tg, it, [c], 0⟩] scope pos) (some (.Name y py)) spos.line X.env = pure true) (hi : Wk X tg it wi W) (ok : BlkOk X.N X.env.scope scope own)
    (hg : ∀ (s : Shared) (H : Hp) (C : Addr) (cl : List (Str × Addr)) (fp : List Addr), Tg (X.blk s H scope (compEnvC scope cl C X.env) fp) tg g ws Fg) (ht : ∀ (s : Shared) (H : Hp) (C : Addr) (cl : List (Str × Addr)) (fp : List Addr), Ts (X.blk s H scope (compEnvC scope cl C X.env) fp) c tT T)
    (he : ∀ (s : Shared) (H : Hp) (C : Addr) (cl : List (Str × Addr)) (fp : List Addr), Ex (X.blk s H scope (compEnvC scope cl C X.env) fp) elt te A) (hy : X.N[i]? = some y := by rfl) (hyl : X.env.scope.names.lookup y = some .local := by rfl) (hw : ∀ i, i ∈ ws → i ∈ own.map (·.2) := by decide) (hs : ∀ x, foldedSetIterable it X.env x = pure x := by intro _; rfl) :
    Sm X (.Assign [.Name y py] (.ListComp elt [⟨tg, it, [c], 0⟩] scope pos) spos) (tAsg (tLc wi g tT te (own.map (·.2))) (gName i)) (dSet i (dLc W Fg T A (own.map (·.2)))) :=
  s_setLc hc hN hy hyl hsw hi ok hg (fun s H C cl fp => pts_one (ht s H C cl fp).p) (ht X.s_0 X.H_0 0 [] []).r he hw hs
end
end Vk
namespace Vk
open PySem PySem.Spec PyProof.Rows L2
section
variable {X : Cx}
/-- + of two lists, a list that is changed later -/
@[irreducible] def gAddLM : DO := fun x y M Q => match lsD M x, lsD M y with
  | some i, some j => i.length + j.length ≤ sizeLine ∧ ∀ p, M p = none → Q (.ref p) (mup M p (.lst (i ++ j)))
  | _, _ => False
theorem o_addLM : Op X (binaryOp .Add) rCat gAddLM := by
  refine ⟨op_cat, ?_⟩
  intro S H x y dx dy M Q R rx ry hr f q
  unfold gAddLM at f
  split at f
  · rename_i e1 e2
    obtain ⟨a, vs, rfl, ha, ra⟩ := ls_rd hr rx e1
    obtain ⟨b, ws, rfl, hb, rb⟩ := ls_rd hr ry e2
    refine ⟨_, _, _, _, rfl, rfl, ha, hb, by rw [ra.len, rb.len]; exact f.1, fun p hp => ?_⟩
    obtain ⟨g2, hr2⟩ := hr.newM hp (.lst (ra.app rb))
    exact q _ _ _ _ (f.2 p (hr.fresh hp).2) g2 (.ref p) hr2
  · exact f.elim
end
end Vk
set_option linter.unusedVariables false
set_option linter.unusedSimpArgs false
/-! DLY: more of lists and dicts: displays, o.f op= e, d[k] op= e, extend by a list that changes, pop(i), == of lists that change, repr of lists -/
namespace Vk
open PySem PySem.Spec PyProof.Rows L2
section
variable {X : Cx} {K : PySem.W.Frag} {o e a : Expr} {es : List Expr} {to_ ta ti te : TE} {tt : TA} {O A I : DE} {G : DA} {f x : Str} {p pos apos tpos cpos : Pos} {op : Operator} {fi : Int → Int → Int}
/-! ### xs.extend(ys), whatever list ys is -/
def gExtA : Addr → List Dv → List Dv → MH → DK → Prop := fun p xs ds M Q => match ds with
  | [y] => match lsD M y with
    | some ys => xs.length + ys.length ≤ sizeLine ∧ Q .non (mup M p (.lst (xs ++ ys)))
    | none => False
  | _ => False
theorem mt_extA : RMt K rExtend gExtA := by
  intro S H p vs xs ds M Q R e rs hr f q
  unfold gExtA at f
  split at f
  · split at f
    · rename_i ys e2
      obtain ⟨v, rfl, rd⟩ := rs.one
      obtain ⟨u, z1, z2⟩ := hr.obj _ _ e
      obtain ⟨b, ws, rfl, hb, rb⟩ := ls_rd hr rd e2
      cases z2 with
      | lst ra =>
        obtain ⟨g, hr'⟩ := hr.put (o := .lst (_ ++ _)) e (.lst (ra.app rb))
        exact ⟨p, _, _, _, rfl, rfl, z1, hb, by rw [ra.len, rb.len]; exact f.1, q _ _ _ _ f.2 g .non hr'⟩
    · exact f.elim
  · exact f.elim
/-! ### xs.pop(0) -/
theorem RDs.tail {G : Hp} : ∀ {vs : List V} {ds : List Dv}, RDs K G vs ds → RDs K G vs.tail ds.tail
  | _, _, .nil => .nil
  | _, _, .cons _ b => b
def gPop0 : Addr → List Dv → List Dv → MH → DK → Prop := fun p xs ds M Q => match ds, xs with
  | [.int i], y :: r => i = 0 ∧ xs.length ≤ sizeLine ∧ Q y (mup M p (.lst r))
  | _, _ => False
theorem mt_pop0 : RMt K rPopAt gPop0 := by
  intro S H p vs xs ds M Q R e rs hr f q
  unfold gPop0 at f
  split at f
  · rename_i i y r
    obtain ⟨rfl, hl, f⟩ := f
    obtain ⟨v, rfl, rd⟩ := rs.one
    cases rd
    obtain ⟨u, z1, z2⟩ := hr.obj _ _ e
    cases z2 with
    | lst ra =>
      cases ra with
      | cons a b =>
        rename_i w ws
        have sz : (sizeLine : Nat) = 16777216 := by decide +kernel
        obtain ⟨g, hr'⟩ := hr.put (o := .lst ws) e (.lst b)
        refine ⟨p, w :: ws, 0, 0, w, rfl, rfl, z1, by decide, by decide, ?_, rfl, q _ _ _ _ f g (RD.same g.same _ _ a) hr'⟩
        unfold PySem.seqIndex?
        simp
  · exact f.elim
/-! ### list(x), a list that changes -/
def gLstOfM : DL := fun ds M Q => match ds with
  | [.scr ns] => ∀ p, M p = none → Q (.ref p) (mup M p (.lst (ns.map .int)))
  | [.tup xs] => ∀ p, M p = none → Q (.ref p) (mup M p (.lst xs))
  | [d] => match lsD M d with
    | some xs => ∀ p, M p = none → Q (.ref p) (mup M p (.lst xs))
    | none => False
  | _ => False
theorem k_listM (hK : X.K = K := by rfl) : Cb X (.type "list") (rLstA K) gLstOfM := by
  subst hK
  refine ⟨call_list_of, ?_⟩
  intro S H vs ds M Q R rs hr f q
  unfold gLstOfM at f
  split at f
  · obtain ⟨v, rfl, rd⟩ := rs.one
    cases rd with
    | scr ha =>
      refine ⟨_, _, rfl, .inl (sqL_hid ha), fun l hl => ?_⟩
      obtain ⟨g, hr'⟩ := hr.newM hl (.lst (RDs.ints (K := X.K) (G := hid S M H) _))
      exact q _ _ _ _ (f l (hr.fresh hl).2) g (.ref l) hr'
  · obtain ⟨v, rfl, rd⟩ := rs.one
    cases rd with
    | tup ha ra =>
      refine ⟨_, _, rfl, .inr (sqT_hid ha), fun l hl => ?_⟩
      obtain ⟨g, hr'⟩ := hr.newM hl (.lst ra)
      exact q _ _ _ _ (f l (hr.fresh hl).2) g (.ref l) hr'
  · split at f
    · rename_i e
      obtain ⟨v, rfl, rd⟩ := rs.one
      obtain ⟨a, vs, rfl, ha, ra⟩ := ls_rd hr rd e
      refine ⟨_, _, rfl, .inl (SqL.of ha), fun l hl => ?_⟩
      obtain ⟨g, hr'⟩ := hr.newM hl (.lst ra)
      exact q _ _ _ _ (f l (hr.fresh hl).2) g (.ref l) hr'
    · exact f.elim
  · exact f.elim
/-! ### ==, kept folded -/
@[irreducible] def gEqI : DO := gEq (fun b => b)
@[irreducible] def gNeI : DO := gEq (fun b => !b)
theorem k_eqI (hu : X.A.units + 64 < cLine) (hK : X.K = K := by rfl) : Op X (compareOp .Eq) (rEqA K) gEqI := by unfold gEqI; exact k_eq hu hK
theorem k_neI (hu : X.A.units + 64 < cLine) (hK : X.K = K := by rfl) : Op X (compareOp .NotEq) (rNeA K) gNeI := by unfold gNeI; exact k_ne hu hK
/-! ### == of lists, whatever list -/
@[irreducible] def gEqL (k : Bool → Bool) : DO := fun x y M Q => match lsD M x, lsD M y with
  | some i, some j => shp (.lst i) = true ∧ shp (.lst j) = true ∧ Q (.bl (k (PyData.eqv (toP (.lst i)) (toP (.lst j))))) M
  | _, _ => False
theorem ls_dp {S : Addr → Bool} {M : MH} {H : Hp} {v : V} {d : Dv} {ds : List Dv} (hr : HR K S M H) (h : RD K (hid S M H) v d) (e : lsD M d = some ds) (ok : datD (.lst ds) = true) : Dp K H v (toP (.lst ds)) := by
  obtain ⟨a, vs, rfl, ha, ra⟩ := ls_rd hr h e
  exact .lst (SqL.of ha) (RDs.dp ds _ (by simpa [datD] using ok) ra)
theorem o_eqL (hu : X.A.units + 64 < cLine) : Op X (compareOp .Eq) (rEqD X.K) (gEqL fun b => b) := by
  refine ⟨op_eqD hu, ?_⟩
  intro S H x y dx dy M Q R rx ry hr f q
  unfold gEqL at f
  split at f
  · rename_i e1 e2
    obtain ⟨h1, h2, f⟩ := f
    unfold shp at h1 h2
    rw [Bool.and_eq_true] at h1 h2
    exact ⟨_, _, ls_dp hr rx e1 h1.1, ls_dp hr ry e2 h2.1, h1.2, h2.2, q _ M _ H f Gr.refl (.bl _) hr⟩
  · exact f.elim
theorem o_neL (hu : X.A.units + 64 < cLine) : Op X (compareOp .NotEq) (rNeD X.K) (gEqL fun b => !b) := by
  refine ⟨op_neD hu, ?_⟩
  intro S H x y dx dy M Q R rx ry hr f q
  unfold gEqL at f
  split at f
  · rename_i e1 e2
    obtain ⟨h1, h2, f⟩ := f
    unfold shp at h1 h2
    rw [Bool.and_eq_true] at h1 h2
    exact ⟨_, _, ls_dp hr rx e1 h1.1, ls_dp hr ry e2 h2.1, h1.2, h2.2, q _ M _ H f Gr.refl (.bl _) hr⟩
  · exact f.elim
/-! ### o.f op= e -/
def dFldAug (K : PySem.W.Frag) (f : Str) (fi : Int → Int → Int) (O A : DE) : DS := fun E env M => O env M fun x M1 => match x with
  | .ref p => match M1 p with
    | some (.ins C dx fs) => match fs.lookup f with
      | some (.int i) => FldOk K C f ∧ A env M1 fun y M2 => match y with
        | .int j => match M2 p with
          | some (.ins C' dx' fs') => (C' = C ∧ fs'.length < 1000) ∧ E.nx env (mup M2 p (.ins C' dx' (putFD f (.int (fi i j)) fs')))
          | _ => False
        | _ => False
      | _ => False
    | _ => False
  | _ => False
theorem s_fldaug {op : Operator} {fi : Int → Int → Int} (ho : InOp X op (ipI fi)) (h1 : Ex X o to_ O) (h2 : Ex X e ta A) (hK : X.K = K := by rfl) : Sm X (.AugAssign (.Attribute o f tpos) op e pos) (sFldAug K to_ ta (ipI fi) f) (dFldAug K f fi O A) := by
  subst hK
  refine ⟨ps_fldaug h1.p h2.p ho, ?_⟩
  intro S σ H env M D E rn hr f0 c
  refine h1.r S σ H env M _ _ rn hr f0 fun x M1 v H1 f1 g1 r1 hr1 => ?_
  split at f1
  · split at f1
    · rename_i e1
      split at f1
      · rename_i i e2
        cases r1
        obtain ⟨u, z1, z2⟩ := hr1.obj _ _ e1
        cases z2 with
        | ins r =>
          obtain ⟨w, ew, rw_⟩ := r.lookup e2
          cases rw_
          obtain ⟨ok, f1⟩ := f1
          refine ⟨_, _, _, _, _, rfl, z1, ok.c, ok.n, ew, h2.r S σ H1 env M1 _ _ (rn.same g1.same) hr1 f1 fun y M2 v2 H2 f2 g2 r2 hr2 => ?_⟩
          split at f2
          · cases r2
            split at f2
            · rename_i e3
              obtain ⟨⟨rfl, hl⟩, f2⟩ := f2
              obtain ⟨u3, z3, z4⟩ := hr2.obj _ _ e3
              cases z4 with
              | ins r3 =>
                obtain ⟨g, hr'⟩ := hr2.put (o := .ins _ _ _) e3 (.ins (r3.putF (f := f) (.int _)))
                have gg := (g1.trans g2).trans g
                exact ⟨_, _, rfl, rfl, _, _, z3, by rw [r3.len]; exact hl, c.nx env _ σ _ f2 gg (rn.same gg.same) hr'⟩
            · exact f2.elim
          · exact f2.elim
      · exact f1.elim
    · exact f1.elim
  · exact f1.elim
/-! ### d[k] op= e -/
def dDAug (fi : Int → Int → Int) (O I A : DE) : DS := fun E env M => O env M fun o M1 => I env M1 fun i M2 => match dictAt M2 o i with
  | some (_, kds, k) => match valD kds k with
    | some (.int n) => A env M2 fun y M3 => match y, dictAt M3 o i with
      | .int j, some (p, kds', k') => kds'.length < sizeLine ∧ E.nx env (mup M3 p (.dK (putD kds' k' (.int (fi n j)))))
      | _, _ => False
    | _ => False
  | none => False
theorem s_daug {op : Operator} {fi : Int → Int → Int} (hu : X.A.units + 64 < cLine) (ho : InOp X op (ipI fi)) (h1 : Ex X o to_ O) (h2 : Ex X e ti I) (h3 : Ex X a ta A)
    (ha : ∀ ov iv new, augStore e ov iv new = (do holding [new, ov, iv] (setItem ov iv new); release [new, ov, iv] []; pure .next) := by intros; rfl) : Sm X (.AugAssign (.Subscript o e tpos) op a pos) (sDAug to_ ti ta (ipI fi)) (dDAug fi O I A) := by
  refine ⟨ps_daug (by omega) h1.p h2.p h3.p ho ha, ?_⟩
  intro S σ H env M D E rn hr f0 c
  refine h1.r S σ H env M _ _ rn hr f0 fun dy M1 y H1 f1 g1 r1 hr1 => ?_
  refine h2.r S σ H1 env M1 _ _ (rn.same g1.same) hr1 f1 fun di M2 i H2 f2 g2 r2 hr2 => ?_
  split at f2
  · rename_i e1
    have ry := RD.same g2.same _ _ r1
    obtain ⟨kvs, rfl, rfl, z, _, r⟩ := dict_rd hr2 ry r2 e1
    split at f2
    · rename_i n e2
      rcases r.val _ with ⟨n1, _⟩ | ⟨v, d, n1, n2, rd⟩
      · rw [n1] at e2; cases e2
      · rw [n1] at e2
        cases e2
        cases rd
        refine ⟨_, _, rfl, by rw [← n2]; exact DGet.k z, h3.r S σ H2 env M2 _ _ (rn.same (g1.trans g2).same) hr2 f2 fun dz M3 w H3 f3 g3 r3 hr3 => ?_⟩
        split at f3
        · rename_i e3
          cases r3
          obtain ⟨kvs', ea, ek, z', zm', r'⟩ := dict_rd hr3 (RD.same g3.same _ _ ry) (RD.same g3.same _ _ r2) e3
          cases ea
          obtain ⟨g, hr'⟩ := hr3.put (o := .dK _) zm' (.dK (r'.putK (.int _) _))
          have gg := ((g1.trans g2).trans g3).trans g
          refine ⟨_, _, rfl, rfl, _, ?_, c.nx env _ σ _ f3.2 gg (rn.same gg.same) hr'⟩
          rw [ek]
          exact DPut.k z' (by rw [r'.len]; exact f3.1)
        · exact f3.elim
    · exact f2.elim
  · exact f2.elim
/-! ### {'a': e, ..} -/
def pairsD : List (Str × DE) → DEnv → MH → (List (L2.Key × Dv) → MH → Prop) → Prop
  | [], _, M, Q => Q [] M
  | (k, A) :: r, env, M, Q => A env M fun d M1 => pairsD r env M1 fun ps M2 => Q ((.inr k, d) :: ps) M2
def mergeD (kds more : List (L2.Key × Dv)) : List (L2.Key × Dv) := more.foldl (fun acc kv => putD acc kv.1 kv.2) kds
theorem RKV.merge {G : Hp} : ∀ {ms : List (L2.Key × V)} {mds : List (L2.Key × Dv)} {kvs : List (L2.Key × V)} {kds : List (L2.Key × Dv)}, RKV K G ms mds → RKV K G kvs kds → RKV K G (L2.mergeK kvs ms) (mergeD kds mds)
  | _, _, _, _, .nil, h => h
  | (k, v) :: ms, (_, d) :: mds, kvs, kds, .cons a b, h => by
    have z := RKV.merge (ms := ms) (mds := mds) (kvs := L2.putK kvs k v) (kds := putD kds k d) b (h.putK a k)
    exact z
structure Prs (X : Cx) (pos : Pos) (keys : List (Option Expr)) (values : List Expr) (trs : List (TE × TE)) (F : List (Str × DE)) : Prop where
  p : L2.PPs X pos keys values trs
  r : ∀ (S : Addr → Bool) (σ : L2.St) (H : Hp) (env : DEnv) (M : MH) (Q : List (V × V) → Hp → Prop) (R : List (L2.Key × Dv) → MH → Prop), RN X.K (hid S M H) σ env → HR X.K S M H → pairsD F env M R →
    (∀ kds M' kvs H', R kds M' → Gr S M H M' H' → RKV X.K (hid S M' H') kvs kds → HR X.K S M' H' → Q (kvs.map fun kv => (L2.kV kv.1, kv.2)) H') → tPairs trs σ H Q
  l : keys.length = F.length
theorem prs_nil : Prs X pos [] [] [] [] := ⟨L2.pps_nil, fun S σ H env M Q R rn hr f q => q [] M [] H f Gr.refl .nil hr, rfl⟩
theorem prs_cons {k : Str} {jj : Nat} {p1 : Pos} {v : Expr} {ks : List (Option Expr)} {vs : List Expr} {trs : List (TE × TE)} {F : List (Str × DE)} (hv : Ex X v ta A) (h : Prs X pos ks vs trs F) : Prs X pos (some (.Constant (.str k) jj p1) :: ks) (v :: vs) ((tC (.str k), ta) :: trs) ((k, A) :: F) := by
  refine ⟨L2.pps_cons pe_str hv.p h.p, ?_, by rw [List.length_cons, List.length_cons, h.l]⟩
  intro S σ H env M Q R rn hr f q
  refine hv.r S σ H env M _ _ rn hr f fun d M1 w H1 f1 g1 r1 hr1 => ?_
  refine h.r S σ H1 env M1 _ _ (rn.same g1.same) hr1 f1 fun kds M2 kvs H2 f2 g2 r2 hr2 => ?_
  exact q _ M2 ((.inr k, w) :: kvs) H2 f2 (g1.trans g2) (.cons (RD.same g2.same _ _ r1) r2) hr2
def dDisp (F : List (Str × DE)) : DE := fun env M Q => ∀ p, M p = none → pairsD F env (mup M p (.dK [])) fun kds M2 => M2 p = some (.dK []) ∧ kds.length ≤ 15 ∧ Q (.ref p) (mup M2 p (.dK (mergeD [] kds)))
theorem d_disp {keys : List (Option Expr)} {values : List Expr} {trs : List (TE × TE)} {F : List (Str × DE)} (h : Prs X pos keys values trs F) (hall : keys.all (·.isSome) = true := by rfl) (hl : keys.length = values.length := by rfl) (h0 : keys ≠ [] := by simp) (h15 : keys.length ≤ 15 := by decide) : Ex X (.Dict keys values pos) (tDisp trs) (dDisp F) := by
  refine ⟨pe_disp h.p hall hl h0 h15, ?_⟩
  intro S σ H env M Q R rn hr f q
  intro p hp
  obtain ⟨g1, hr1⟩ := hr.newM hp (.dK .nil)
  refine h.r S σ _ env _ _ _ (rn.same g1.same) hr1 (f p (hr.fresh hp).2) fun kds M2 kvs H2 f2 g2 r2 hr2 => ?_
  obtain ⟨e1, e2, f2⟩ := f2
  obtain ⟨u, z1, z2⟩ := hr2.obj _ _ e1
  cases z2 with
  | dK rr =>
    cases rr
    obtain ⟨g, hr'⟩ := hr2.put (o := .dK _) e1 (.dK (r2.merge .nil))
    exact ⟨z1, kvs, rfl, by rw [r2.len]; exact e2, q _ _ _ _ f2 ((g1.trans g2).trans g) (.ref p) hr'⟩
/-! ### lengths of texts -/
theorem textFrom_le : ∀ (ts : List Str) (k : Nat) (acc : Str), (textFrom k acc ts).length ≤ acc.length + (ts.map fun t => t.length + 2).sum
  | [], _, _ => Nat.le_refl _
  | t :: r, k, acc => by
    have h := textFrom_le r (k + 1) (acc ++ (if k > 0 then ", " else "" : String) ++ t)
    have e : (acc ++ (if k > 0 then ", " else "" : String) ++ t).length = acc.length + (if k > 0 then 2 else 0) + t.length := by
      rw [strLen_append, strLen_append]
      split <;> rfl
    rw [e] at h
    rw [List.map_cons, List.sum_cons]
    show (textFrom (k + 1) _ r).length ≤ _
    have : (if k > 0 then 2 else 0 : Nat) ≤ 2 := by split <;> omega
    omega
theorem listText_le (ts : List Str) : (listText ts).length ≤ (ts.map fun t => t.length + 2).sum + 2 := by
  unfold listText
  rw [strLen_append]
  have h := textFrom_le ts 0 "["
  have e : ("[" : Str).length = 1 := rfl
  have e2 : ("]" : Str).length = 1 := rfl
  omega
theorem intText_le {i : Int} {k : Nat} (hk : 1 ≤ k) (h : i.natAbs < 10 ^ k) : (PyData.shown (.int i)).length ≤ k + 1 := by
  have := intL_len hk h
  unfold intL at this
  exact this
theorem boolText_le (b : Bool) : (PyData.shown (.bool b)).length ≤ 5 := by cases b <;> decide +kernel
/-! ### lists of items that may be compared -/
def laidD (d : Dv) : Bool := datD d && (toP d).canLay0 && decide ((toP d).depth ≤ 40)
theorem shp_list : ∀ {L : List Dv}, (∀ d ∈ L, laidD d = true) → datDs L = true ∧ PyData.canLayAll0 (toPs L) = true ∧ PyData.depthAll (toPs L) ≤ 40
  | [], _ => ⟨rfl, rfl, Nat.zero_le _⟩
  | d :: L, h => by
    obtain ⟨a, b, c⟩ := shp_list (L := L) fun x hx => h x (List.mem_cons_of_mem _ hx)
    have z := h d List.mem_cons_self
    unfold laidD at z
    rw [Bool.and_eq_true, Bool.and_eq_true] at z
    have z2 := of_decide_eq_true z.2
    refine ⟨by rw [datDs, z.1.1, a]; rfl, by rw [toPs, PyData.canLayAll0, z.1.2, b]; rfl, ?_⟩
    rw [toPs, PyData.depthAll]
    omega
theorem shp_lst {L : List Dv} (h : ∀ d ∈ L, laidD d = true) : shp (.lst L) = true := by
  obtain ⟨a, b, c⟩ := shp_list h
  unfold shp SeqAt.shaped
  rw [Bool.and_eq_true, Bool.and_eq_true]
  exact ⟨by simpa [datD] using a, by simpa [toP, PyData.canLay0] using b, decide_eq_true (by simp only [toP, PyData.depth]; omega)⟩
theorem eqv_self {d : Dv} (h : shp d = true) : PyData.eqv (toP d) (toP d) = true := by
  unfold shp SeqAt.shaped at h
  rw [Bool.and_eq_true, Bool.and_eq_true] at h
  exact PySem.SeqAt.eqv_refl _ h.2.1
/-! ### repr of whatever is data, without dicts -/
def okR (d : Dv) : Bool := datD d && PyData.showable (toP d) && !PyData.hasDict (toP d)
def rReprA (K : PySem.W.Frag) : List V → Hp → VK → Prop := fun xs H Q => ∃ x d, xs = [x] ∧ Dp K H x d ∧ (PyData.showable d = true ∧ PyData.hasDict d = false) ∧ d.depth ≤ 60 ∧ d.shown.length ≤ sizeLine ∧ Q (.str d.shown) H
theorem call_reprA {k : Nat} (hg : X.A.guards = some []) (room : Room k X.A) : CallR X (.builtin "repr") (rReprA X.K) := by
  intro pins s σ H xs us Q I r h
  obtain ⟨x, d, rfl, hd, ⟨ok, nd⟩, dep, len, q⟩ := h
  obtain ⟨u, rfl, rx⟩ := vals1 r
  have hu := room.units
  have seq : ∀ a, u = .ref a → (∃ as, PySem.Reads s.heap (.ref a) d as) → wpAny (model X.prog X.w) X.A (call (.builtin "repr") [u]) (EP X pins σ Q) X.xe s := by
    rintro a rfl ⟨as, rd⟩
    refine PySem.repr_of_reads' rd ok (fun z => ?_) hg (by omega) (fun _ _ e => e) (fun h' u tk kp => ?_) len
    · rw [nd] at z
      cases z
    · exact ⟨.str _, H, I.kept (t' := tk) kp, ⟨u, rfl⟩, q⟩
  cases d with
  | none =>
    cases hd
    cases rx
    exact PySem.P.repr_of_none ⟨.str _, H, I.tok _, ⟨_, rfl⟩, q⟩
  | bool b =>
    cases hd
    cases rx
    exact PySem.P.repr_of_bool ⟨.str _, H, I.tok _, ⟨_, rfl⟩, q⟩
  | int i =>
    cases hd
    obtain ⟨t, rfl⟩ := rx
    exact PySem.P.repr_of_int (by simpa [PyData.showable] using ok) ⟨.str _, H, I.tok _, ⟨_, rfl⟩, q⟩
  | str y =>
    cases hd
    obtain ⟨t, rfl⟩ := rx
    exact PySem.P.repr_of_str ⟨.str _, H, I.tok _, ⟨_, rfl⟩, q⟩ (by simpa [PyData.shown] using len)
  | tuple xs =>
    obtain ⟨as, rd⟩ := Dp.reads I _ _ _ hd rx
    cases hd
    cases rx
    exact seq _ rfl ⟨as, rd⟩
  | list xs =>
    obtain ⟨as, rd⟩ := Dp.reads I _ _ _ hd rx
    cases hd
    cases rx
    exact seq _ rfl ⟨as, rd⟩
  | dict xs => simp [PyData.hasDict] at nd
/-- what stands for a list that changes -/
def frozen (M : MH) (d : Dv) : Dv := match lsD M d with
  | some ds => .lst ds
  | none => d
def gReprA : DL := fun ds M Q => match ds with
  | [d] => (okR (frozen M d) = true ∧ (toP (frozen M d)).depth ≤ 60 ∧ (toP (frozen M d)).shown.length ≤ sizeLine) ∧ Q (.str (toP (frozen M d)).shown) M
  | _ => False
theorem k_reprA {k : Nat} (hg : X.A.guards = some []) (room : Room k X.A) (hK : X.K = K := by rfl) : Cb X (.builtin "repr") (rReprA K) gReprA := by
  subst hK
  refine ⟨call_reprA hg room, ?_⟩
  intro S H vs ds M Q R rs hr f0 q
  unfold gReprA at f0
  split at f0
  · obtain ⟨⟨h1, h2, h3⟩, f⟩ := f0
    obtain ⟨v, rfl, rd⟩ := rs.one
    unfold okR at h1
    rw [Bool.and_eq_true, Bool.and_eq_true, Bool.not_eq_true'] at h1
    refine ⟨v, _, rfl, ?_, ⟨h1.1.2, h1.2⟩, h2, h3, q _ M _ H f Gr.refl (.str _) hr⟩
    have hd := h1.1.1
    unfold frozen at hd ⊢
    split at hd
    · rename_i e
      exact ls_dp hr rd e hd
    · exact RD.dp _ _ hd rd
  · exact f0.elim
end
end Vk
set_option linter.unusedVariables false
set_option linter.unusedSimpArgs false
/-! DLZ: sorted of a tuple, len(set(t)), zip of tuples, xs[::-1], tuple(range(a, b)) -/
namespace Vk
open PySem PySem.Spec PyProof.Rows L2
section
variable {w : World} {A : Around} {s : Shared} {E : Value → Shared → Prop} {prog : Program}
theorem collect_tuple {l : Addr} {vs : List Value} {Q : List Value → Shared → Prop} (hl : s.heap.IsTuple l vs.toArray)
    (h : Q vs { s with heap := (s.heap.push (seqObj "list" #[] 0)).update s.heap.objs.size (Obj.mapSeq (· ++ vs.toArray)) }) (hsz : vs.length ≤ sizeLine) :
    wpAny (model prog w) A (collect (.ref l)) Q E s := by
  obtain ⟨o, ho, hc, n, hd⟩ := id hl
  unfold collect
  refine wpAny_bind (wpAny_runValue (codeAny_builtin entry_proto_collect' ?_))
  show wpAny _ _ (do again (.builtin "list.__iadd__" ⟨[← newList [], .ref l], []⟩)) _ _ s
  refine wpAny_bind (wpAny_newList (wpAny_pure ⟨Code.quiet_builtin _ (by decide +kernel), codeAny_builtin entry_list_iadd' ?_⟩))
  show wpAny _ _ (Builtin.List.listExtendWith (.ref s.heap.objs.size) (.ref l) (.ref s.heap.objs.size)) _ _ { s with heap := s.heap.push (seqObj "list" #[] 0) }
  unfold Builtin.List.listExtendWith
  have ho' : (s.heap.push (seqObj "list" #[] 0)).get? l = some o := Heap.get?_push_of_some _ ho
  refine wpAny_bind (wpAny_typeOf (T := "tuple") ⟨o, ho', hc⟩ ?_)
  have ht : (Value.type "tuple" == Value.type "tuple") = true := by rfl
  rw [if_pos (by rw [ht]; simp)]
  refine wpAny_bind (listItems_at ho' hd ?_)
  refine wpAny_bind (listItems_at (xs := #[]) (n := 0) (Heap.get?_push_size _ rfl) rfl ?_)
  rw [if_neg (by simp)]
  refine wpAny_bind (listUpdate_at (xs := #[]) (n := 0) (Heap.get?_push_size _ rfl) rfl ?_ (Nat.zero_le _) (by show (#[] ++ vs.toArray).size ≤ sizeLine + 1; simp only [Array.size_append, List.size_toArray, List.length_nil]; omega))
  refine wpAny_pure ?_
  show wpAny (model prog w) A (do
      let o ← load s.heap.objs.size
      match o.data with
      | .seq xs _ => pure xs.toList
      | _ => unsupported "internal:collect") Q E { s with heap := (s.heap.push (seqObj "list" #[] 0)).update s.heap.objs.size (Obj.mapSeq (· ++ vs.toArray)) }
  refine wpAny_bind (wpAny_load (get?_update_seq (Heap.get?_push_size _ rfl) _) ?_)
  show wpAny _ _ (pure ((#[] : Array Value) ++ vs.toArray).toList) Q E _
  rw [show ((#[] : Array Value) ++ vs.toArray).toList = vs by simp]
  exact wpAny_pure h
theorem sorted_intsT {l : Addr} {vs : List Value} {ns : List Int} {Q : Value → Shared → Prop} (hl : s.heap.IsTuple l vs.toArray) (hI : IntsAre vs ns) (h64 : vs.length < 64)
    (h : ∀ (out : Array Value) (ns' : List Int), IntsAre out.toList ns' → ns'.Perm ns → ns'.Pairwise (· ≤ ·) → Q (.ref (s.heap.objs.size + 1)) { s with heap := sortedAll s.heap vs out }) :
    wpAny (model prog w) A (call (.builtin "sorted") [.ref l]) Q E s := by
  refine Calls.call_function_entry kind_sorted plain_sorted entry_sorted (args_sorted1 _) ?_
  unfold Builtin.«sorted»
  refine wpAny_bind (m := checkCount "sorted" 1 1 _) (wpAny_pure ?_)
  refine wpAny_bind (collect_tuple hl ?_ (by rw [sizeLine_eq]; omega))
  refine wpAny_bind (wpAny_newList ?_ (by rw [sizeLine_eq]; omega))
  have hsz : ((s.heap.push (seqObj "list" #[] 0)).update s.heap.objs.size (Obj.mapSeq (· ++ vs.toArray))).objs.size = s.heap.objs.size + 1 := by
    rw [Heap.size_update, size_push']
  have hoL : (((s.heap.push (seqObj "list" #[] 0)).update s.heap.objs.size (Obj.mapSeq (· ++ vs.toArray))).push (seqObj "list" vs.toArray 0)).get? (s.heap.objs.size + 1) = some (seqObj "list" vs.toArray 0) := by
    rw [← hsz]; exact Heap.get?_push_size _ rfl
  show wpAny _ _ _ _ _ { s with heap := ((s.heap.push (seqObj "list" #[] 0)).update s.heap.objs.size (Obj.mapSeq (· ++ vs.toArray))).push (seqObj "list" vs.toArray 0) }
  rw [hsz]
  refine wpAny_bind (wpAny_holding (wpAny_call_entry slot_list_sort ⟨_, hoL, rfl⟩ entry_list_sort (list_sort_tree hoL hI h64 fun out ns' a1 a2 a3 => ⟨_, rfl, ?_⟩) (args_list_sort _)))
  exact wpAny_pure ⟨_, rfl, h out ns' a1 a2 a3⟩
end
section
variable {X : Cx} {K : PySem.W.Frag}
/-- sorted(t), t a tuple of ints -/
def rSortedTu (K : PySem.W.Frag) : List V → Hp → VK → Prop := fun vs H Q => ∃ (a : Addr) (ns : List Int), vs = [V.ref a] ∧ SqT K H a (ns.map V.int) ∧ ns.length < 64 ∧
  ∀ (ns' : List Int) (p : Addr), ns'.Perm ns → ns'.Pairwise (· ≤ ·) → H p = none → Q (.ref p) (upd H p (.lst (ns'.map V.int)))
theorem cr_sortedTu : CallR X (.builtin "sorted") (rSortedTu X.K) := by
  intro pins s σ H vs us Q I r h
  obtain ⟨a, ns, rfl, hs, h64, q⟩ := h
  obtain ⟨its, rv, hl, _⟩ := I.tuple hs
  rw [Vals.ref1 r]
  have hi := rv.ints
  refine sorted_intsT (show s.heap.IsTuple a its.toArray from hl) hi (by rw [hi.length]; exact h64) fun out ns' h1 h2 h3 => ?_
  obtain ⟨ep, he'⟩ := PyProof.Rows.sortedAll_at s.heap its out
  have hlen : (ns'.map V.int).length ≤ sizeLine := by rw [List.length_map, h2.length_eq]; exact small64 h64
  exact ⟨.ref _, upd H (s.heap.objs.size + 1) (.lst (ns'.map V.int)), I.laid (t' := s.toks) (fun _ _ => PyProof.Rows.sortedAll_old) (Nat.le_succ _) ⟨hlen, out.toList, ep, vals_of_ints h1, he'⟩, rfl, q ns' _ h2 h3 (I.hok.fresh (Nat.le_succ _))⟩
def gSortedT : DL := fun ds M Q => ∃ ns : List Int, ds = [.tup (ns.map .int)] ∧ ns.length < 64 ∧ ∀ ns' : List Int, ns'.Perm ns → ns'.Pairwise (· ≤ ·) → Q (.lst (ns'.map .int)) M
theorem k_sortedT (hK : X.K = K := by rfl) : Cb X (.builtin "sorted") (rSortedTu K) gSortedT := by
  subst hK
  refine ⟨cr_sortedTu, ?_⟩
  intro S H vs ds M Q R rs hr f0 q
  obtain ⟨ns, rfl, hl, f⟩ := f0
  obtain ⟨v, rfl, rd⟩ := rs.one
  cases rd with
  | tup ha ra =>
    have e := ints_rd ra
    subst e
    refine ⟨_, ns, rfl, sqT_hid ha, hl, fun ns' p h1 h2 hp => ?_⟩
    obtain ⟨g2, hr2, rd2⟩ := RD.newL hr hp (rd_ints ns')
    exact q _ M _ _ (f ns' h1 h2) g2 rd2 hr2
/-! ## len(set(t)) -/
theorem perm_sub : ∀ (ks ns : List Int), ks.Nodup → (∀ k, k ∈ ks → k ∈ ns) → ns.length ≤ ks.length → ns.Perm ks
  | [], ns, _, _, h => by
    have : ns = [] := List.length_eq_zero_iff.mp (by simpa using h)
    rw [this]
  | k :: ks, ns, d, h, l => by
    have hk := h k List.mem_cons_self
    obtain ⟨d1, d2⟩ := List.nodup_cons.mp d
    refine (List.perm_cons_erase hk).trans (.cons k (perm_sub ks (ns.erase k) d2 (fun x hx => ?_) ?_))
    · have ne : x ≠ k := fun z => d1 (z ▸ hx)
      exact (List.mem_erase_of_ne ne).mpr (h x (List.mem_cons_of_mem _ hx))
    · rw [List.length_erase_of_mem hk]
      simp only [List.length_cons] at l
      omega
theorem nodup_len {ks ns : List Int} (d : ks.Nodup) (h : ∀ k, k ∈ ks ↔ k ∈ ns) : ks.length = ns.length ↔ ns.Nodup := by
  constructor
  · intro e
    exact (perm_sub ks ns d (fun k hk => (h k).mp hk) (Nat.le_of_eq e.symm)).nodup_iff.mpr d
  · intro dn
    exact ((List.perm_ext_iff_of_nodup d dn).mpr h).length_eq
def tLenSetT (K : PySem.W.Frag) (ta : TE) : TE := fun σ H Q => ta σ H fun x H1 => ∃ (l : Addr) (ns : List Int), x = V.ref l ∧ SqT K H1 l (ns.map V.int) ∧ ns.length < 64 ∧ ∀ m : Nat, (m = ns.length ↔ ns.Nodup) → Q (.int m) H1
theorem pe_lenSetT {a : Expr} {ta : TE} {p p2 q pos : Pos} (hc : X.calm = true) (hg : Gl X "len") (hm : X.mg "len" = none) (hg2 : Gl X "set") (hm2 : X.mg "set" = none) (ha : PE X a ta)
    (na : starEach [a] X.env = (false, eval a X.env) :: starEach [] X.env := by rfl) : PE X (.Call (.Name "len" p) [.Call (.Name "set" p2) [a] [] q] [] pos) (tLenSetT X.K ta) := by
  refine ⟨fun pins s σ H Q I h => ?_⟩
  refine Call_ (ld_blt I hg hm PySem.boot_len ?_)
  refine PyProof.Rows.callWith_builtin1 (PyProof.Rows.args_cons ?_ rfl) rfl rfl
  refine Call_ (ld_blt I hg2 hm2 PyProof.Rows.boot_set ?_)
  refine PyProof.Rows.callWith_type1 (PyProof.Rows.args_cons (thn (ha.run pins s σ H _ I h) fun v s1 ⟨x, H1, I1, r1, q1⟩ => PyProof.Rows.args_nil ?_) na) na rfl
  obtain ⟨l, ns, rfl, hq, h1, q1⟩ := q1
  cases r1
  obtain ⟨its, rv, pt, hz⟩ := I1.tuple hq
  have hi : IntsAre its.toArray.toList ns := ints_of_vals rv
  have hd := I1.ok.hd hc
  refine call_set_tupI ns hd (show s1.heap.IsTuple l its.toArray from pt) hi (by unfold scanBound; omega) fun h' tk c R1 hcn k => ?_
  refine PyProof.Rows.args_nil ?_
  obtain ⟨o, es, ep, t, ho, hex, hdt, g, nd, hm2, hb, hf, hn, hr, hl2⟩ := R1
  have I2 : Inv X pins σ H1 { s1 with heap := h', toks := tk } := I1.kept fun b o e => k b o e
  refine call_len_set ho hex hdt hf (by rw [hn]; omega) ⟨.int es.size, H1, I2.tok _, ⟨_, rfl⟩, q1 es.size ?_⟩
  have e := nodup_len nd fun k => (hm2 k).symm.trans decide_eq_true_iff
  rw [List.length_map, Array.length_toList] at e
  exact e
def dLenSet (A : DE) : DE := fun env M Q => A env M fun d M1 => ∃ ns : List Int, d = .tup (ns.map .int) ∧ ns.length < 64 ∧ ∀ m : Nat, (m = ns.length ↔ ns.Nodup) → Q (.int m) M1
theorem d_lenSet {a : Expr} {ta : TE} {B : DE} {p p2 q pos : Pos} (hc : X.calm = true) (hg : Gl X "len") (hm : X.mg "len" = none) (hg2 : Gl X "set") (hm2 : X.mg "set" = none) (h : Ex X a ta B)
    (na : starEach [a] X.env = (false, eval a X.env) :: starEach [] X.env := by rfl) : Ex X (.Call (.Name "len" p) [.Call (.Name "set" p2) [a] [] q] [] pos) (tLenSetT X.K ta) (dLenSet B) := by
  refine ⟨pe_lenSetT hc hg hm hg2 hm2 h.p na, ?_⟩
  intro S σ H env M Q R rn hr f q
  refine h.r S σ H env M _ _ rn hr f fun d M1 v H1 f1 g1 r1 hr1 => ?_
  obtain ⟨ns, rfl, hl, f2⟩ := f1
  cases r1 with
  | tup ha ra =>
    have e := ints_rd ra
    subst e
    exact ⟨_, ns, rfl, sqT_hid ha, hl, fun m hm => q _ M1 _ H1 (f2 m hm) g1 (.int _) hr1⟩
/-! ## zip of two tuples -/
def zipD : List Dv → List Dv → List Dv
  | a :: as, b :: bs => .tup [a, b] :: zipD as bs
  | _, _ => []
theorem zipD_len : ∀ as bs : List Dv, (zipD as bs).length = min as.length bs.length
  | [], bs => by simp [zipD]
  | a :: as, [] => by simp [zipD]
  | a :: as, b :: bs => by simp only [zipD, List.length_cons, zipD_len as bs]; omega
theorem zipD_at : ∀ {as bs : List Dv} {i : Nat} {d : Dv}, (zipD as bs)[i]? = some d → ∃ a b, as[i]? = some a ∧ bs[i]? = some b ∧ d = .tup [a, b]
  | [], bs, i, d, h => by simp [zipD] at h
  | a :: as, [], i, d, h => by simp [zipD] at h
  | a :: as, b :: bs, 0, d, h => by
    simp only [zipD, List.getElem?_cons_zero, Option.some.injEq] at h
    exact ⟨a, b, rfl, rfl, h.symm⟩
  | a :: as, b :: bs, i + 1, d, h => by
    simp only [zipD, List.getElem?_cons_succ] at h ⊢
    exact zipD_at h
def wZip (G : DA) : DI := fun env M R => G env M fun ds M1 => match ds with
  | [.tup xs, .tup ys] => R (zipD xs ys) tru M1
  | _ => False
theorem w_zip {e e2 : Expr} {tt : TA} {n kk : Nat} {G : DA} {p pos tpos : Pos} {elts : List Expr} (hg : Gl X "zip") (hm : X.mg "zip" = none) (h : As X [e, e2] tt n G)
    (hs : starEach [e, e2] X.env = (false, eval e X.env) :: starEach [e2] X.env := by rfl) (hpl : (backTo pos (starEach [e2] X.env)).any (·.1) = false := by rfl) (hK : X.K = K := by rfl) :
    Wk X (.Tuple elts kk tpos) (.Call (.Name "zip" p) [e, e2] [] pos) (RZ.iZipA K tt) (wZip G) := by
  subst hK
  refine ⟨RZ.pi_zipA hg hm h.p hs hpl, ?_⟩
  intro S σ H env M Q R rn hr f q
  refine h.r S σ H env M _ _ rn hr f fun ds M1 vs H1 f1 l1 g1 r1 hr1 => ?_
  split at f1
  · rename_i xs ys
    obtain ⟨v, w, rfl, rd, rd2⟩ := r1.two
    cases rd with
    | tup ha ra =>
      cases rd2 with
      | tup hb rb =>
        refine ⟨_, _, _, _, rfl, .inr ⟨sqT_hid ha, sqT_hid hb, q _ _ M1 _ H1 f1 g1 hr1 ⟨fun i d e S2 M2 H2 s hr2 _ => ?_, fun S2 M2 H2 s hr2 _ => ?_⟩⟩⟩
        · obtain ⟨x, y, ex, ey, rfl⟩ := zipD_at e
          obtain ⟨v, ev, rdv⟩ := ra.at ex
          obtain ⟨w, ew, rdw⟩ := rb.at ey
          have at2 := sqT_hid (sqT_same s ha)
          have at3 := sqT_hid (sqT_same s hb)
          refine ⟨⟨_, _, v, w, at2, at3, ev, ew⟩, fun z H3 hy => ?_⟩
          obtain ⟨T, v', w', rfl, hT, rfl, z1, z2⟩ := hy
          have e2 := z1 _ at2
          rw [ev] at e2
          cases e2
          have e3 := z2 _ at3
          rw [ew] at e3
          cases e3
          obtain ⟨g4, hr4, rd4⟩ := RD.newT hr2 hT (.cons (RD.same s _ _ rdv) (.cons (RD.same s _ _ rdw) .nil))
          exact ⟨g4, hr4, rd4⟩
        · refine ⟨_, _, sqT_hid (sqT_same s ha), sqT_hid (sqT_same s hb), ?_⟩
          rw [zipD_len, ra.len, rb.len]
          omega
  · exact f1.elim
/-! ## xs[::-1] -/
def dRev (A : DE) : DE := fun env M Q => A env M fun d M1 => ∃ ds, (lsD M1 d = some ds ∨ ∃ ns, d = .scr ns ∧ ds = ns.map .int) ∧ Q (.lst ds.reverse) M1
theorem RDs.rev {G : Hp} : ∀ {vs : List V} {ds : List Dv}, RDs K G vs ds → RDs K G vs.reverse ds.reverse
  | _, _, .nil => .nil
  | _, _, .cons a b => by
    rw [List.reverse_cons, List.reverse_cons]
    exact (RDs.rev b).app (.cons a .nil)
theorem d_rev {e : Expr} {te : TE} {B : DE} {k : Nat} {p1 p2 p3 pos : Pos} (h : Ex X e te B) (hK : X.K = K := by rfl) : Ex X (.Subscript e (.Slice none none (some (.UnaryOp .USub (.Constant (.int 1) k p1) p2)) p3) pos) (tRevL K te) (dRev B) := by
  subst hK
  refine ⟨pe_revL h.p, ?_⟩
  intro S σ H env M Q R rn hr f q
  refine h.r S σ H env M _ _ rn hr f fun d M1 v H1 f1 g1 r1 hr1 => ?_
  obtain ⟨ds, c, f2⟩ := f1
  rcases c with c | ⟨ns, rfl, rfl⟩
  · obtain ⟨a, vs, rfl, ha, ra⟩ := ls_rd hr1 r1 c
    refine ⟨a, vs, rfl, SqL.of ha, fun p hp => ?_⟩
    obtain ⟨g2, hr2, rd2⟩ := RD.newL hr1 hp ra.rev
    exact q _ M1 _ _ f2 (g1.trans g2) rd2 hr2
  · cases r1 with
    | scr ha =>
      refine ⟨_, _, rfl, sqL_hid ha, fun p hp => ?_⟩
      obtain ⟨g2, hr2, rd2⟩ := RD.newL hr1 hp (rd_ints ns).rev
      exact q _ M1 _ _ f2 (g1.trans g2) rd2 hr2
/-! ## tuple(range(a, b)) -/
def dTupRg (A B : DE) : DE := fun env M Q => A env M fun x M1 => B env M1 fun y M2 => match x, y with
  | .int a, .int b => RgOk a b ∧ Q (.tup (intsD a (b - a).toNat)) M2
  | _, _ => False
theorem rd_maps {G : Hp} {α : Type} (f : α → V) (g : α → Dv) (h : ∀ x, RD K G (f x) (g x)) : ∀ l : List α, RDs K G (l.map f) (l.map g)
  | [] => .nil
  | x :: l => .cons (h x) (rd_maps f g h l)
theorem rg_rd {G : Hp} (a b : Int) : RDs K G (rgV a b) (intsD a (b - a).toNat) := rd_maps _ _ (fun i => .int _) _
theorem d_tupRg {a b : Expr} {ta tb : TE} {A B : DE} {p p2 pos pos2 : Pos} (hc : X.calm = true) (hg : Gl X "tuple") (hm : X.mg "tuple" = none) (hg2 : Gl X "range") (hm2 : X.mg "range" = none) (h1 : Ex X a ta A) (h2 : Ex X b tb B)
    (na : starEach [a, b] X.env = (false, eval a X.env) :: starEach [b] X.env := by rfl) (nb : starEach [b] X.env = (false, eval b X.env) :: starEach [] X.env := by rfl) (hp : (backTo pos2 (starEach [b] X.env)).any (·.1) = false := by rfl)
    (nc : starEach [.Call (.Name "range" p2) [a, b] [] pos2] X.env = (false, eval (.Call (.Name "range" p2) [a, b] [] pos2) X.env) :: starEach [] X.env := by rfl) :
    Ex X (.Call (.Name "tuple" p) [.Call (.Name "range" p2) [a, b] [] pos2] [] pos) (tTupRg (tRg2 ta tb)) (dTupRg A B) := by
  refine ⟨pe_tupRg hc hg hm (prg_2 hg2 hm2 h1.p h2.p na nb hp) nc, ?_⟩
  intro S σ H env M Q R rn hr f q
  refine h1.r S σ H env M _ _ rn hr f fun x M1 v H1 f1 g1 r1 hr1 => ?_
  refine h2.r S σ H1 env M1 _ _ (rn.same g1.same) hr1 f1 fun y M2 w H2 f2 g2 r2 hr2 => ?_
  have r1' := RD.same g2.same _ _ r1
  cases r2 <;> (cases r1' <;> first | exact f2.elim | skip)
  refine ⟨_, _, rfl, rfl, f2.1, fun p hp => ?_⟩
  obtain ⟨g4, hr4, rd4⟩ := RD.newT hr2 hp (rg_rd _ _)
  exact q _ M2 _ _ f2.2 ((g1.trans g2).trans g4) rd4 hr4
/-! ## readings of a list of which it is not known whether it is tracked: folded -/
@[irreducible] def gTupI : DL := gTupOf
@[irreducible] def gLstI : DL := gLstOf
@[irreducible] def gLenI : DL := gLen
@[irreducible] def gIxI : DO := gIx
@[irreducible] def gSlI : Dv → Option Int → Option Int → MH → DK → Prop := gSl
theorem k_tupleI (hK : X.K = K := by rfl) : Cb X (.type "tuple") (rTupA K) gTupI := by unfold gTupI; exact k_tuple hK
theorem k_listI (hK : X.K = K := by rfl) : Cb X (.type "list") (rLstA K) gLstI := by unfold gLstI; exact k_list hK
theorem k_lenI (hK : X.K = K := by rfl) : Cb X (.builtin "len") (rLenA K) gLenI := by unfold gLenI; exact k_len hK
theorem k_ixI {a b : Expr} {ta tb : TE} {A B : DE} {pos : Pos} (h1 : Ex X a ta A) (h2 : Ex X b tb B) (hs : PlainIx b := by exact fun _ _ => rfl) (hK : X.K = K := by rfl) : Ex X (.Subscript a b pos) (tOp (fun x y H Q => rIxL K x y H Q ∨ (rIxT K x y H Q ∨ rIxS x y H Q)) ta tb) (dOp gIxI A B) := by unfold gIxI; exact k_ix h1 h2 hs hK
def dSlI (A : DE) (L U : DP) : DE := fun env M Q => A env M fun x M1 => L env M1 fun lo M2 => U env M2 fun hi M3 => gSlI x lo hi M3 Q
theorem dSlI_eq (A : DE) (L U : DP) : dSlI A L U = dSl A L U := by unfold dSlI dSl gSlI; rfl
theorem k_sliceI {e : Expr} {te : TE} {A : DE} {pos : Pos} {lo hi : Option Expr} {p2 : Pos} {tl th : TO} {L U : DP} (h : Ex X e te A) (hl : Pt X lo tl L) (hu : Pt X hi th U) (hK : X.K = K := by rfl) :
    Ex X (.Subscript e (.Slice lo hi none p2) pos) (tSl (fun x lo hi H Q => rSlL K x lo hi H Q ∨ (rSlA K x lo hi H Q ∨ rSlS x lo hi H Q)) te tl th) (dSlI A L U) := by rw [dSlI_eq]; exact k_slice h hl hu hK
theorem lsD_cases {M : MH} {s : Dv} {ds : List Dv} (h : lsD M s = some ds) : s = .lst ds ∨ ∃ p, s = .ref p ∧ M p = some (.lst ds) := by
  cases s with
  | lst xs => cases h; exact .inl rfl
  | ref p =>
    simp only [lsD] at h
    cases e : M p with
    | none => rw [e] at h; cases h
    | some o => rw [e] at h; cases o <;> first | (cases h; exact .inr ⟨_, rfl, e⟩) | cases h
  | _ => cases h
theorem sl_go {M : MH} {s : Dv} {ds : List Dv} {lo hi : Option Int} {Q : DK} (h : lsD M s = some ds) (q : Q (.lst (cutD ds lo hi)) M) : gSlI s lo hi M Q := by
  unfold gSlI
  rcases lsD_cases h with rfl | ⟨p, rfl, e⟩
  · exact q
  · simp only [gSl, e]; exact q
theorem ixL_go {M : MH} {s d : Dv} {ds : List Dv} {i : Int} {Q : DK} (h : lsD M s = some ds) (e0 : atI ds i = some d) (q : Q d M) : gIxI s (.int i) M Q := by
  unfold gIxI
  rcases lsD_cases h with rfl | ⟨p, rfl, e⟩
  · simp only [gIx, e0]; exact q
  · simp only [gIx, e, e0]; exact q
theorem tupOf_go {M : MH} {s : Dv} {ds : List Dv} {Q : DK} (h : lsD M s = some ds) (q : Q (.tup ds) M) : gTupI [s] M Q := by
  unfold gTupI
  rcases lsD_cases h with rfl | ⟨p, rfl, e⟩
  · exact q
  · simp only [gTupOf, e]; exact q
theorem lstOf_go {M : MH} {s : Dv} {ds : List Dv} {Q : DK} (h : lsD M s = some ds) (q : Q (.lst ds) M) : gLstI [s] M Q := by
  unfold gLstI
  rcases lsD_cases h with rfl | ⟨p, rfl, e⟩
  · exact q
  · simp only [gLstOf, e]; exact q
theorem lenL_go {M : MH} {s : Dv} {ds : List Dv} {Q : DK} (h : lsD M s = some ds) (q : Q (.int (ds.length : Nat)) M) : gLenI [s] M Q := by
  unfold gLenI
  rcases lsD_cases h with rfl | ⟨p, rfl, e⟩
  · exact q
  · simp only [gLen, e]; exact q
theorem ls_its {M : MH} {s : Dv} {ds : List Dv} (h : lsD M s = some ds) : itsD M s = some ds := by
  rcases lsD_cases h with rfl | ⟨p, rfl, e⟩
  · rfl
  · simp only [itsD, e]
theorem ls_keep {M M' : MH} {s : Dv} {ds : List Dv} (h : lsD M s = some ds) (k : ∀ u, s = .ref u → M' u = M u) : lsD M' s = some ds := by
  rcases lsD_cases h with rfl | ⟨p, rfl, e⟩
  · rfl
  · simp only [lsD, k p rfl, e]
end
end Vk
set_option linter.unusedVariables false
set_option linter.unusedSimpArgs false
/-! DPL: plain data, forms, sizes of texts, dicts, the state of draws (from k23's proof) -/
namespace Vk
open PySem PySem.Spec PyProof.Rows L2
section
variable {K : PySem.W.Frag}
theorem gTy_of {M : MH} {d : Dv} {n : String} {Q : DK} (e : tyN M d = some n) (ns : ∀ ns, d ≠ .scr ns) (q : Q (.ty n) M) : gTy [d] M Q := by
  unfold gTy
  split
  · rename_i e1
    cases e1
    exact (ns _ rfl).elim
  · rename_i e1
    cases e1
    rw [e]
    exact q
  · rename_i e1 e2
    exact (e2 _ rfl).elim
mutual
/-- no script in it; each object is known -/
def knownD (M : MH) : Dv → Bool
  | .scr _ => false
  | .ty _ => false
  | .ref p => match M p with
    | some (.lst _) => true
    | some (.dK _) => true
    | _ => false
  | .tup ds => knownDs M ds
  | _ => true
def knownDs (M : MH) : List Dv → Bool
  | [] => true
  | d :: ds => knownD M d && knownDs M ds
end
def atomD : Dv → Bool
  | .non => true
  | .bl _ => true
  | .int i => decide (-(10 ^ 60) < i) && decide (i < 10 ^ 60)
  | .str _ => true
  | _ => false
mutual
def plainD (n : Nat) : Dv → Bool
  | .tup ds => decide (n < 30) && plainDs (n + 1) ds
  | d => atomD d
def plainDs (n : Nat) : List Dv → Bool
  | [] => true
  | d :: ds => plainD n d && plainDs n ds
end
mutual
def sizeD : Dv → Nat
  | .tup ds => 1 + sizeDs ds
  | _ => 1
def sizeDs : List Dv → Nat
  | [] => 0
  | d :: ds => sizeD d + sizeDs ds
end
theorem knownDs_all (M : MH) : ∀ ds : List Dv, knownDs M ds = ds.all (knownD M)
  | [] => rfl
  | d :: ds => by rw [knownDs, knownDs_all M ds, List.all_cons]
theorem plainDs_all (n : Nat) : ∀ ds : List Dv, plainDs n ds = ds.all (plainD n)
  | [] => rfl
  | d :: ds => by rw [plainDs, plainDs_all n ds, List.all_cons]
theorem sizeDs_sum : ∀ ds : List Dv, sizeDs ds = (ds.map sizeD).sum
  | [] => rfl
  | d :: ds => by rw [sizeDs, sizeDs_sum ds, List.map_cons, List.sum_cons]
theorem knownD_tup (M : MH) (ds : List Dv) : knownD M (.tup ds) = ds.all (knownD M) := by rw [knownD, knownDs_all]
theorem plainD_tup (n : Nat) (ds : List Dv) : plainD n (.tup ds) = (decide (n < 30) && ds.all (plainD (n + 1))) := by rw [plainD, plainDs_all]
theorem sizeD_tup (ds : List Dv) : sizeD (.tup ds) = 1 + (ds.map sizeD).sum := by rw [sizeD, sizeDs_sum]
theorem sizeD_pos (d : Dv) : 1 ≤ sizeD d := by
  cases d with
  | tup ds => rw [sizeD_tup]; omega
  | _ => simp [sizeD]
def isTup : Dv → Bool
  | .tup _ => true
  | _ => false
theorem known_ty {M : MH} {d : Dv} (h : knownD M d = true) : ∃ n, tyN M d = some n ∧ (∀ ns, d ≠ .scr ns) ∧ decide (n = "tuple") = isTup d := by
  cases d with
  | scr ns => simp [knownD] at h
  | ty n => simp [knownD] at h
  | ref p =>
    unfold knownD at h
    unfold tyN
    simp only at h ⊢
    cases e : M p with
    | none => rw [e] at h; simp at h
    | some o =>
      rw [e] at h
      cases o with
      | lst ds => exact ⟨_, rfl, (fun ns z => by cases z), rfl⟩
      | dK ds => exact ⟨_, rfl, (fun ns z => by cases z), rfl⟩
      | _ => simp at h
  | _ => exact ⟨_, rfl, (fun ns z => by cases z), rfl⟩
mutual
theorem known_up {M M' : MH} (h : MLe M M') : ∀ {d : Dv}, knownD M d = true → knownD M' d = true
  | .scr _, k => by simp [knownD] at k
  | .ty _, k => by simp [knownD] at k
  | .ref p, k => by
    simp only [knownD] at k ⊢
    cases e : M p with
    | none => rw [e] at k; simp at k
    | some o => rw [h _ _ e]; rw [e] at k; exact k
  | .tup ds, k => by
    simp only [knownD] at k ⊢
    exact knowns_up h k
  | .non, _ => rfl
  | .bl _, _ => rfl
  | .int _, _ => rfl
  | .str _, _ => rfl
  | .lst _, _ => rfl
theorem knowns_up {M M' : MH} (h : MLe M M') : ∀ {ds : List Dv}, knownDs M ds = true → knownDs M' ds = true
  | [], _ => rfl
  | d :: ds, k => by
    simp only [knownDs, Bool.and_eq_true] at k ⊢
    exact ⟨known_up h k.1, knowns_up h k.2⟩
end
theorem len_size : ∀ ds : List Dv, ds.length ≤ (ds.map sizeD).sum
  | [] => Nat.le_refl _
  | d :: ds => by
    have := sizeD_pos d
    have := len_size ds
    simp only [List.length_cons, List.map_cons, List.sum_cons]
    omega
theorem len_sizeW : ∀ es : List (Dv × Nat), es.length ≤ (es.map fun e => sizeD e.1).sum
  | [] => Nat.le_refl _
  | e :: es => by
    have := sizeD_pos e.1
    have := len_sizeW es
    simp only [List.length_cons, List.map_cons, List.sum_cons]
    omega
/-- an entry that waits: the value and the tuples around it -/
abbrev WE := Dv × Nat
def weD (e : WE) : Dv := .tup [e.1, .int (e.2 : Nat)]
def sizeW (es : List WE) : Nat := (es.map fun e => sizeD e.1).sum
mutual
def pln : Dv → Bool
  | .tup ds => plns ds
  | .str x => PyData.strOk x && decide (x.length ≤ 100000)
  | d => atomD d
def plns : List Dv → Bool
  | [] => true
  | d :: ds => pln d && plns ds
end
mutual
def depD : Dv → Nat
  | .tup ds => 1 + depDs ds
  | _ => 0
def depDs : List Dv → Nat
  | [] => 0
  | d :: ds => max (depD d) (depDs ds)
end
theorem plns_all : ∀ ds : List Dv, plns ds = ds.all pln
  | [] => rfl
  | d :: ds => by rw [plns, plns_all ds, List.all_cons]
theorem pln_tup (ds : List Dv) : pln (.tup ds) = ds.all pln := by rw [pln, plns_all]
mutual
theorem pln_lay : ∀ d : Dv, pln d = true → (toP d).canLay0 = true ∧ datD d = true ∧ (toP d).depth = depD d
  | .non, _ => ⟨rfl, rfl, rfl⟩
  | .bl _, _ => ⟨rfl, rfl, rfl⟩
  | .int _, _ => ⟨rfl, rfl, rfl⟩
  | .str x, h => ⟨by
      simp only [pln, Bool.and_eq_true] at h
      simpa [toP, PyData.canLay0] using h.1, rfl, rfl⟩
  | .tup ds, h => by
    obtain ⟨h1, h2, h3⟩ := plns_lay ds (by simpa [pln] using h)
    refine ⟨by simpa [toP, PyData.canLay0] using h1, by simpa [datD] using h2, ?_⟩
    simp only [toP, PyData.depth, depD, h3]
    omega
  | .lst _, h => by simp [pln, atomD] at h
  | .scr _, h => by simp [pln, atomD] at h
  | .ref _, h => by simp [pln, atomD] at h
  | .ty _, h => by simp [pln, atomD] at h
theorem plns_lay : ∀ ds : List Dv, plns ds = true → PyData.canLayAll0 (toPs ds) = true ∧ datDs ds = true ∧ PyData.depthAll (toPs ds) = depDs ds
  | [], _ => ⟨rfl, rfl, rfl⟩
  | d :: ds, h => by
    have h' : pln d = true ∧ plns ds = true := by simpa [plns] using h
    obtain ⟨a1, a2, a3⟩ := pln_lay d h'.1
    obtain ⟨b1, b2, b3⟩ := plns_lay ds h'.2
    simp only [toPs, PyData.canLayAll0, datDs, PyData.depthAll, depDs, a1, a2, a3, b1, b2, b3, Bool.and_self]
    exact ⟨trivial, trivial, trivial⟩
end
/-- what the forms look at -/
structure OkF (d : Dv) : Prop where
  p : pln d = true
  d : depD d ≤ 31
theorem OkF.shp {d : Dv} (h : OkF d) : shp d = true := by
  obtain ⟨h1, h2, h3⟩ := pln_lay d h.p
  unfold Vk.shp SeqAt.shaped
  rw [h1, h2, decide_eq_true (by have := h.d; omega)]
  rfl
theorem depDs_mem : ∀ {ds : List Dv} {d : Dv}, d ∈ ds → depD d ≤ depDs ds
  | [], _, h => by cases h
  | x :: r, d, h => by
    simp only [depDs]
    rcases List.mem_cons.mp h with rfl | h
    · omega
    · have := depDs_mem h
      omega
theorem OkF.mem {ds : List Dv} (h : OkF (.tup ds)) {d : Dv} (hd : d ∈ ds) : OkF d := by
  refine ⟨?_, ?_⟩
  · have z := h.p
    rw [pln_tup, List.all_eq_true] at z
    exact z d hd
  · have z := h.d
    have y := depDs_mem hd
    simp only [depD] at z
    omega
theorem OkF.lit {d : Dv} (h : OkF d) (s : Str) : eqLit d s = some (match d with | .str x => decide (x = s) | _ => false) := by
  have z := h.shp
  cases d with
  | tup ds => simp only [eqLit]; rw [if_pos z]
  | str x => rfl
  | non => rfl
  | bl b => rfl
  | int i => rfl
  | lst ds => have := h.p; simp [pln, atomD] at this
  | scr ds => have := h.p; simp [pln, atomD] at this
  | ref ds => have := h.p; simp [pln, atomD] at this
  | ty ds => have := h.p; simp [pln, atomD] at this
theorem OkF.ty_ {d : Dv} (h : OkF d) (M : MH) : ∃ n, tyN M d = some n ∧ (∀ ns, d ≠ .scr ns) ∧ decide (n = "int") = (match d with | .int _ => true | _ => false) ∧ kitv n "str" = (match d with | .str _ => true | _ => false) ∧ kitv n "tuple" = isTup d := by
  have z := h.p
  cases d with
  | lst ds => simp [pln, atomD] at z
  | scr ds => simp [pln, atomD] at z
  | ref ds => simp [pln, atomD] at z
  | ty ds => simp [pln, atomD] at z
  | _ => exact ⟨_, rfl, (fun ns z => by cases z), rfl, rfl, rfl⟩
mutual
/-- texts as they may be -/
def txtD : Dv → Bool
  | .tup ds => txtDs ds
  | .str x => PyData.strOk x && decide (x.length ≤ 100000)
  | _ => true
def txtDs : List Dv → Bool
  | [] => true
  | d :: ds => txtD d && txtDs ds
end
mutual
theorem plain_pln : ∀ (d : Dv) (n : Nat), plainD n d = true → txtD d = true → n ≤ 30 → pln d = true ∧ n + depD d ≤ 30
  | .tup ds, n, h, l, hn => by
    simp only [plainD, Bool.and_eq_true] at h
    have hn' := of_decide_eq_true h.1
    obtain ⟨a, b⟩ := plains_pln ds (n + 1) h.2 (by simpa [txtD] using l) (by omega)
    refine ⟨by simpa [pln] using a, ?_⟩
    simp only [depD]
    omega
  | .str x, n, h, l, hn => ⟨by simpa [pln, txtD] using l, by simp only [depD]; omega⟩
  | .non, n, h, l, hn => ⟨rfl, by simp only [depD]; omega⟩
  | .bl _, n, h, l, hn => ⟨rfl, by simp only [depD]; omega⟩
  | .int _, n, h, l, hn => ⟨by simpa [pln, plainD] using h, by simp only [depD]; omega⟩
  | .lst _, n, h, l, hn => by simp [plainD, atomD] at h
  | .scr _, n, h, l, hn => by simp [plainD, atomD] at h
  | .ref _, n, h, l, hn => by simp [plainD, atomD] at h
  | .ty _, n, h, l, hn => by simp [plainD, atomD] at h
theorem plains_pln : ∀ (ds : List Dv) (n : Nat), plainDs n ds = true → txtDs ds = true → n ≤ 30 → plns ds = true ∧ n + depDs ds ≤ 30
  | [], n, h, l, hn => ⟨rfl, by simp only [depDs]; omega⟩
  | d :: ds, n, h, l, hn => by
    have h' : plainD n d = true ∧ plainDs n ds = true := by simpa [plainDs] using h
    have l' : txtD d = true ∧ txtDs ds = true := by simpa [txtDs] using l
    obtain ⟨a1, a2⟩ := plain_pln d n h'.1 l'.1 hn
    obtain ⟨b1, b2⟩ := plains_pln ds n h'.2 l'.2 hn
    refine ⟨by simp only [plns, a1, b1, Bool.and_self], ?_⟩
    simp only [depDs]
    omega
end
def intD (lo hi : Int) : Dv → Bool
  | .int i => decide (lo ≤ i) && decide (i ≤ hi)
  | _ => false
def allD (lo hi : Nat) (g : Dv → Bool) : Dv → Bool
  | .tup ds => decide (lo ≤ ds.length) && decide (ds.length ≤ hi) && ds.all g
  | _ => false
def okB (f : Dv → Bool) : DF := fun ds M Q => ∃ d, ds = [d] ∧ OkF d ∧ Q (.bl (f d)) M
theorem len_okB (f : Dv → Bool) : ∀ ds M R, okB f ds M R → ds.length = ["value"].length := by
  rintro _ _ _ ⟨d, rfl, _⟩
  rfl
theorem iteBF {A B : Prop} {c : Bool} (h : c = false) (b : B) : if c = true then A else B := by rw [h, if_neg Bool.false_ne_true]; exact b
theorem iteBT {A B : Prop} {c : Bool} (h : c = true) (b : A) : if c = true then A else B := by rw [h, if_pos rfl]; exact b
/-- one of two ways -/
theorem iteB {A B : Prop} {c : Bool} (h1 : c = true → A) (h2 : c = false → B) : if c = true then A else B := by
  cases c with
  | true => exact h1 rfl
  | false => exact h2 rfl
theorem q_of {R : DK} {M : MH} {b c : Bool} (q : R (.bl b) M) (e : b = c) : R (.bl c) M := by rw [← e]; exact q
theorem lt_one (a b : Nat) : decide ((⟨#[a]⟩ : Str).cps.toList < (⟨#[b]⟩ : Str).cps.toList) = decide (a < b) := by
  apply decide_eq_decide.mpr
  show [a] < [b] ↔ a < b
  constructor
  · intro h
    cases h with
    | rel h => exact h
    | cons h => cases h
  · intro h
    exact List.Lex.rel h
theorem bools_map (ds : List Dv) (g : Dv → Bool) : ds.map (fun d => Dv.bl (g d)) = (ds.map g).map Dv.bl := by
  rw [List.map_map]
  rfl
/-- how a pattern's first word decides -/
theorem mp_lit {d : Dv} (ok : OkF d) (s : Str) (ps : List DPat) (ds : List Dv) : matchP (.lit s :: ps) (d :: ds) = (match (match d with | .str x => decide (x = s) | _ => false) with | true => matchP ps ds | false => some none) := by
  rw [matchP, ok.lit]
  cases d <;> first
    | rfl
    | (simp only; split <;> rename_i h <;> first | (cases h; done) | (injection h with h; rw [h]))
theorem mp_names : ∀ {m : Nat} {ds : List Dv}, ds.length = m → matchP (List.replicate m .name) ds = some (some ds)
  | 0, [], _ => rfl
  | 0, _ :: _, h => by cases h
  | m + 1, [], h => by cases h
  | m + 1, d :: ds, h => by
    rw [List.replicate_succ, matchP, mp_names (m := m) (by simpa using h)]
theorem case_word {s : Str} (m : Nat) {Fs : DGs} {T : DS} {Rs : DCs} {d : Dv} {E : DEnds} {env : DEnv} {M : MH} (ok : OkF d)
    (hit : ∀ ds, d = .tup (.str s :: ds) → ds.length = m → Fs ds env M fun env1 M1 => T E env1 M1) (miss : (∀ ds, ds.length = m → d ≠ .tup (.str s :: ds)) → Rs d E env M) : dCase (.lit s :: List.replicate m .name) Fs T Rs d E env M := by
  have z := ok.p
  cases d with
  | tup ds =>
    unfold dCase
    show (if ds.length = (DPat.lit s :: List.replicate m .name).length then _ else _)
    rw [List.length_cons, List.length_replicate]
    split
    · rename_i hl
      cases ds with
      | nil => cases hl
      | cons a r =>
        have hr : r.length = m := by simpa using hl
        have oa := ok.mem (d := a) List.mem_cons_self
        rw [mp_lit oa, mp_names hr]
        cases a with
        | str x =>
          by_cases e : x = s
          · subst e
            simp only [decide_true]
            exact hit r rfl hr
          · simp only [decide_eq_false e]
            exact miss fun ds _ h => e (by injection h with h; injection h with h _; injection h)
        | _ => exact miss fun ds _ h => by injection h with h; injection h with h _; cases h
    · rename_i hl
      exact miss fun ds h1 h2 => hl (by injection h2 with h2; rw [h2, List.length_cons, h1])
  | non => unfold dCase; exact miss fun ds _ h => by cases h
  | bl b => unfold dCase; exact miss fun ds _ h => by cases h
  | int b => unfold dCase; exact miss fun ds _ h => by cases h
  | str b => unfold dCase; exact miss fun ds _ h => by cases h
  | lst b => simp [pln, atomD] at z
  | scr b => simp [pln, atomD] at z
  | ref b => simp [pln, atomD] at z
  | ty b => simp [pln, atomD] at z
theorem case_names (m : Nat) {q : List DPat} {Fs : DGs} {T : DS} {Rs : DCs} {d : Dv} {E : DEnds} {env : DEnv} {M : MH} (ok : OkF d)
    (hit : ∀ ds, d = .tup ds → ds.length = m → Fs ds env M fun env1 M1 => T E env1 M1) (miss : (∀ ds, ds.length = m → d ≠ .tup ds) → Rs d E env M) (hq : q = List.replicate m .name := by rfl) : dCase q Fs T Rs d E env M := by
  subst hq
  have z := ok.p
  cases d with
  | tup ds =>
    unfold dCase
    show (if ds.length = (List.replicate m DPat.name).length then _ else _)
    rw [List.length_replicate]
    split
    · rename_i hl
      rw [mp_names hl]
      exact hit ds rfl hl
    · rename_i hl
      exact miss fun ds h1 h2 => hl (by injection h2 with h2; rw [h2, h1])
  | non => unfold dCase; exact miss fun ds _ h => by cases h
  | bl b => unfold dCase; exact miss fun ds _ h => by cases h
  | int b => unfold dCase; exact miss fun ds _ h => by cases h
  | str b => unfold dCase; exact miss fun ds _ h => by cases h
  | lst b => simp [pln, atomD] at z
  | scr b => simp [pln, atomD] at z
  | ref b => simp [pln, atomD] at z
  | ty b => simp [pln, atomD] at z
theorem len0 {ds : List Dv} (h : ds.length = 0) : ds = [] := List.eq_nil_of_length_eq_zero h
theorem len1 {ds : List Dv} (h : ds.length = 1) : ∃ a, ds = [a] := List.length_eq_one_iff.mp h
theorem len2 {ds : List Dv} (h : ds.length = 2) : ∃ a b, ds = [a, b] := by
  match ds, h with
  | [a, b], _ => exact ⟨a, b, rfl⟩
theorem len3 {ds : List Dv} (h : ds.length = 3) : ∃ a b c, ds = [a, b, c] := by
  match ds, h with
  | [a, b, c], _ => exact ⟨a, b, c, rfl⟩
theorem mup_none {M : MH} {a b : Addr} {o : MO} (h : mup M a o b = none) : b ≠ a ∧ M b = none := by
  unfold mup at h
  split at h
  · cases h
  · exact ⟨by assumption, h⟩
abbrev regF (a b c : Addr) : List (Str × Dv) := [("_names", .ref a), ("_sealed", .ref b), ("_pens", .ref c)]
/-- a registry: what stands at its address -/
structure RegAt (C_Registry : Addr) (M : MH) (p a b c : Addr) (ns ss ps : List (L2.Key × Dv)) : Prop where
  r : ∃ dx, M p = some (.ins C_Registry dx (regF a b c))
  ra : M a = some (.dK ns)
  rb : M b = some (.dK ss)
  rc : M c = some (.dK ps)
  ab : a ≠ b
  ac : a ≠ c
  bc : b ≠ c
def shownOf (d e : Dv) : Str := (toP (.tup [d, e])).shown
/-- repr may be asked of it -/
structure ShowOk (d : Dv) : Prop where
  h1 : okV d = true
  h2 : (toP d).depth ≤ 60
  h3 : (toP d).shown.length ≤ sizeLine
abbrev penF (d : Dv) (b : Addr) : List (Str × Dv) := [("owner", d), ("_sealed", .ref b)]
theorem fold_dep : ∀ (ds : List Dv) (a : Nat), (ds.map fun d => ((depD d : Nat) : Int)).foldl max (a : Int) = ((max a (depDs ds) : Nat) : Int)
  | [], a => by
    show (a : Int) = _
    simp [depDs]
  | d :: ds, a => by
    rw [List.map_cons, List.foldl_cons, show max (a : Int) ((depD d : Nat) : Int) = ((max a (depD d) : Nat) : Int) by omega, fold_dep ds, depDs]
    congr 1
    omega
theorem max_dep (ds : List Dv) : maxI (ds.map fun d => ((depD d : Nat) : Int)) (.int 0) = .int ((depDs ds : Nat) : Int) := by
  cases ds with
  | nil => rfl
  | cons d ds =>
    show Dv.int ((ds.map _).foldl max _) = _
    rw [fold_dep, depDs]
theorem size_mem : ∀ {ds : List Dv} {d : Dv}, d ∈ ds → sizeD d ≤ (ds.map sizeD).sum
  | [], _, h => by cases h
  | x :: r, d, h => by
    rw [List.map_cons, List.sum_cons]
    rcases List.mem_cons.mp h with rfl | h
    · omega
    · have := size_mem h
      omega
theorem dep_mem : ∀ {ds : List Dv} {d : Dv}, d ∈ ds → depD d ≤ depDs ds
  | [], _, h => by cases h
  | x :: r, d, h => by
    simp only [depDs]
    rcases List.mem_cons.mp h with rfl | h
    · omega
    · have := dep_mem h
      omega
mutual
theorem pln_known {M : MH} : ∀ {d : Dv}, pln d = true → knownD M d = true ∧ txtD d = true
  | .tup ds, h => by
    obtain ⟨a, b⟩ := plns_known (M := M) (ds := ds) (by simpa [pln] using h)
    exact ⟨by simpa [knownD] using a, by simpa [txtD] using b⟩
  | .str x, h => ⟨rfl, by simpa [pln, txtD] using h⟩
  | .non, _ => ⟨rfl, rfl⟩
  | .bl _, _ => ⟨rfl, rfl⟩
  | .int _, _ => ⟨rfl, rfl⟩
  | .lst _, h => by simp [pln, atomD] at h
  | .scr _, h => by simp [pln, atomD] at h
  | .ref _, h => by simp [pln, atomD] at h
  | .ty _, h => by simp [pln, atomD] at h
theorem plns_known {M : MH} : ∀ {ds : List Dv}, plns ds = true → knownDs M ds = true ∧ txtDs ds = true
  | [], _ => ⟨rfl, rfl⟩
  | d :: ds, h => by
    have h' : pln d = true ∧ plns ds = true := by simpa [plns] using h
    obtain ⟨a, b⟩ := pln_known (M := M) h'.1
    obtain ⟨c, e⟩ := plns_known (M := M) h'.2
    exact ⟨by simp only [knownDs, a, c, Bool.and_self], by simp only [txtDs, b, e, Bool.and_self]⟩
end
def atleastV (n : Int) : Dv → Bool
  | .int i => decide (i ≥ n)
  | _ => false
/-- a form of a value that is small -/
def okS_ (f : Dv → Bool) : DF := fun ds M Q => ∃ d, ds = [d] ∧ OkF d ∧ sizeD d ≤ 100000 ∧ Q (.bl (f d)) M
theorem len_okS (f : Dv → Bool) : ∀ ds M R, okS_ f ds M R → ds.length = ["value"].length := by
  rintro _ _ _ ⟨d, rfl, _⟩
  rfl
theorem len4 {ds : List Dv} (h : ds.length = 4) : ∃ a b c d, ds = [a, b, c, d] := by
  match ds, h with
  | [a, b, c, d], _ => exact ⟨a, b, c, d, rfl⟩
def isW (s : Str) : Dv → Bool
  | .str y => decide (y = s)
  | _ => false
theorem isW_yes {s : Str} {d : Dv} (h : isW s d = true) : d = .str s := by
  cases d with
  | str y => rw [of_decide_eq_true (show decide (y = s) = true from h)]
  | _ => cases h
theorem isW_self {s : Str} : isW s (.str s) = true := decide_eq_true rfl
theorem mp_w {d : Dv} (ok : OkF d) (s : Str) (ps : List DPat) (ds : List Dv) : matchP (.lit s :: ps) (d :: ds) = if isW s d = true then matchP ps ds else some none := by
  have e : eqLit d s = some (isW s d) := by
    rw [ok.lit]
    cases d <;> rfl
  rw [matchP, e]
  cases isW s d <;> rfl
def eqI : Dv → Dv → Bool
  | .int a, .int b => decide (a = b)
  | _, _ => false
def sealedD (ss : List (L2.Key × Dv)) (o body : Dv) : Bool := (valD ss (.inr (toP (.tup [o, body])).shown)).isSome
theorem eq_int {s : Dv} (ok : OkF s) {o : Int} (ho : 1000 ≤ o) {M : MH} {Q : DK} (q : Q (.bl (eqI s (.int o))) M) : gEqI s (.int o) M Q := by
  unfold gEqI
  have z := ok.p
  have sh := ok.shp
  have so : shp (.int o) = true := rfl
  unfold gEq
  cases s with
  | int a => exact q
  | non => exact q
  | str a => exact q
  | bl b =>
    refine ⟨sh, so, q_of q ?_⟩
    show false = PyData.eqv (.bool b) (.int o)
    symm
    cases b <;> simp [PyData.eqv] <;> omega
  | tup ds => exact ⟨sh, so, q_of q (by simp [toP, PyData.eqv, eqI])⟩
  | lst b => simp [pln, atomD] at z
  | scr b => simp [pln, atomD] at z
  | ref b => simp [pln, atomD] at z
  | ty b => simp [pln, atomD] at z
theorem ifS_key {I : DT} {T U : DS} {E : DEnds} {env : DEnv} {M : MH} (C : DEnv → MH → Prop) (h : ∀ nx : DEnv → MH → Prop, (∀ e m, C e m → nx e m) → dIfS I T U { E with nx := nx } env M) (key : ∀ e m, C e m → E.nx e m) : dIfS I T U E env M := h E.nx key
theorem ix_go {M : MH} {q : Addr} {xs : List Dv} {j : Int} {d : Dv} (hm : M q = some (.lst xs)) (h : atI xs j = some d) (T : Dv → Prop) (t : T d) : (match M q with | some (.lst ds) => (match atI ds j with | some d => T d | none => False) | _ => False) := by
  rw [hm]
  show (match atI xs j with | some d => T d | none => False)
  rw [h]
  exact t
/-- the state of the draws -/
structure StOk (xs : List Dv) : Prop where
  ex : ∃ (ns : List Int) (p : Nat) (b a : Int), xs = [.lst (ns.map .int), .int (p : Nat), .int b, .int a] ∧ p ≤ ns.length ∧ ns.length ≤ 63 ∧ 0 ≤ b ∧ 0 ≤ a ∧ a < 2147483647
/-- a bound of the length of a value's text -/
def sumL (L : List (List Nat)) : Nat := (L.map List.length).sum
theorem joinL_le : ∀ L : List (List Nat), (joinL L).length ≤ sumL L + 2 * L.length
  | [] => Nat.le_refl 0
  | [x] => by simp [joinL, sumL]
  | x :: y :: r => by
    have ih := joinL_le (y :: r)
    have e : sumL (x :: y :: r) = x.length + sumL (y :: r) := by simp [sumL]
    rw [e]
    simp only [joinL, List.length_append, List.length_cons] at ih ⊢
    omega
theorem joinL_ge : ∀ L : List (List Nat), sumL L ≤ (joinL L).length
  | [] => Nat.le_refl 0
  | [x] => by simp [joinL, sumL]
  | x :: y :: r => by
    have ih := joinL_ge (y :: r)
    have e : sumL (x :: y :: r) = x.length + sumL (y :: r) := by simp [sumL]
    rw [e]
    simp only [joinL, List.length_append, List.length_cons] at ih ⊢
    omega
def encV (d : Dv) : Nat := (encD (toP d)).length
def encVs (ds : List Dv) : Nat := sumL (encDs (toPs ds))
theorem toPs_len : ∀ ds : List Dv, (toPs ds).length = ds.length
  | [] => rfl
  | d :: ds => by simp [toPs, toPs_len ds]
theorem encVs_cons (d : Dv) (ds : List Dv) : encVs (d :: ds) = encV d + encVs ds := by simp [encVs, encV, toPs, encDs, sumL]
theorem closeL_len (n : Nat) : 1 ≤ (closeL n).length ∧ (closeL n).length ≤ 2 := by unfold closeL; split <;> decide
theorem encV_tup_le (ds : List Dv) : encV (.tup ds) ≤ encVs ds + 2 * ds.length + 3 := by
  have a := joinL_le (encDs (toPs ds))
  have b := closeL_len (toPs ds).length
  rw [encDs_len, toPs_len] at a
  unfold encV encVs
  simp only [toP, encD, List.length_cons, List.length_append]
  omega
theorem encV_tup_ge (ds : List Dv) : encVs ds + 2 ≤ encV (.tup ds) := by
  have a := joinL_ge (encDs (toPs ds))
  have b := closeL_len (toPs ds).length
  unfold encV encVs
  simp only [toP, encD, List.length_cons, List.length_append]
  omega
theorem body_ge (q : Nat) : ∀ l : List Nat, l.length ≤ (body q l).length
  | [] => Nat.zero_le _
  | c :: l => by
    have := body_ge q l
    rw [body, List.length_append, List.length_cons]
    split
    · show l.length + 1 ≤ 2 + _
      omega
    · show l.length + 1 ≤ 1 + _
      omega
theorem str_enc {x : Str} (h : okS x = true) : x.length + 2 ≤ encV (.str x) := by
  unfold encV
  rw [toP, encD, strL_eq h, List.length_cons, List.length_append]
  have := body_ge (reprQuote x) x.cps.toList
  have e : x.length = x.cps.toList.length := Array.length_toList.symm
  show _ ≤ _ + 1 + 1
  omega
theorem okS_strOk {x : Str} (h : okS x = true) : PyData.strOk x = true := by
  unfold PyData.strOk
  rw [Array.all_eq_true']
  intro c hc
  have := okS_mem h c (Array.mem_toList_iff.mpr hc)
  exact decide_eq_true (by omega)
theorem int_enc (i : Int) : 1 ≤ encV (.int i) := by
  unfold encV
  rw [toP, encD]
  exact List.length_pos_iff.mpr (intL_ne i)
mutual
theorem okV_facts : ∀ d : Dv, okV d = true → (∀ M, knownD M d = true) ∧ sizeD d ≤ encV d ∧ (toP d).depth = depD d ∧ (encV d ≤ 100000 → txtD d = true)
  | .non, _ => ⟨fun _ => rfl, by decide, rfl, fun _ => rfl⟩
  | .bl b, _ => ⟨fun _ => rfl, by cases b <;> decide, rfl, fun _ => rfl⟩
  | .int i, _ => ⟨fun _ => rfl, int_enc i, rfl, fun _ => rfl⟩
  | .str x, h => by
    have ok : okS x = true := by simpa [okV, datD, toP, okD] using h
    have e := str_enc ok
    refine ⟨fun _ => rfl, by show 1 ≤ _; omega, rfl, fun l => ?_⟩
    simp only [txtD, okS_strOk ok, Bool.true_and]
    exact decide_eq_true (by omega)
  | .tup ds, h => by
    have h' : datDs ds = true ∧ okDs (toPs ds) = true := by simpa [okV, datD, toP, okD] using h
    obtain ⟨a, b, c, e⟩ := okVs_facts ds h'.1 h'.2
    have g := encV_tup_ge ds
    refine ⟨fun M => by simpa [knownD] using a M, ?_, ?_, fun l => ?_⟩
    · rw [sizeD]; omega
    · simp only [toP, PyData.depth, depD, c]; omega
    · simpa [txtD] using e (by omega)
  | .lst ds, h => by simp [okV, toP, okD] at h
  | .scr ns, h => by simp [okV, toP, okD] at h
  | .ref p, h => by simp [okV, datD] at h
  | .ty n, h => by simp [okV, datD] at h
theorem okVs_facts : ∀ ds : List Dv, datDs ds = true → okDs (toPs ds) = true → (∀ M, knownDs M ds = true) ∧ sizeDs ds ≤ encVs ds ∧ PyData.depthAll (toPs ds) = depDs ds ∧ (encVs ds ≤ 100000 → txtDs ds = true)
  | [], _, _ => ⟨fun _ => rfl, Nat.zero_le _, rfl, fun _ => rfl⟩
  | d :: ds, h1, h2 => by
    have h1' : datD d = true ∧ datDs ds = true := by simpa [datDs] using h1
    have h2' : okD (toP d) = true ∧ okDs (toPs ds) = true := by simpa [toPs, okDs] using h2
    obtain ⟨a1, b1, c1, e1⟩ := okV_facts d (by simp [okV, h1'.1, h2'.1])
    obtain ⟨a2, b2, c2, e2⟩ := okVs_facts ds h1'.2 h2'.2
    have g := encVs_cons d ds
    refine ⟨fun M => by simp only [knownDs, a1 M, a2 M, Bool.and_self], ?_, ?_, fun l => ?_⟩
    · rw [sizeDs]; omega
    · simp only [toPs, PyData.depthAll, depDs, c1, c2]
    · simp only [txtDs, e1 (by omega), e2 (by omega), Bool.and_self]
end
/-- a value that repr takes, of at most n signs, at most m tuples within one another -/
structure Shw (n m : Nat) (d : Dv) : Prop where
  o : okV d = true
  e : encV d ≤ n
  p : depD d ≤ m
theorem Shw.mono {n m n' m' : Nat} {d : Dv} (h : Shw n m d) (a : n ≤ n') (b : m ≤ m') : Shw n' m' d := ⟨h.o, Nat.le_trans h.e a, Nat.le_trans h.p b⟩
theorem okV_tup : ∀ {ds : List Dv}, (∀ d ∈ ds, okV d = true) → datDs ds = true ∧ okDs (toPs ds) = true
  | [], _ => ⟨rfl, rfl⟩
  | d :: ds, h => by
    obtain ⟨a, b⟩ := okV_tup (ds := ds) fun x hx => h x (List.mem_cons_of_mem _ hx)
    have c := h d List.mem_cons_self
    unfold okV at c
    rw [Bool.and_eq_true] at c
    exact ⟨by simp [datDs, a, c.1], by simp [toPs, okDs, b, c.2]⟩
theorem encVs_le {n : Nat} : ∀ {ds : List Dv}, (∀ d ∈ ds, encV d ≤ n) → encVs ds ≤ ds.length * n
  | [], _ => Nat.zero_le _
  | d :: ds, h => by
    have a := h d List.mem_cons_self
    have b := encVs_le (n := n) (ds := ds) fun x hx => h x (List.mem_cons_of_mem _ hx)
    rw [encVs_cons, List.length_cons, Nat.succ_mul]
    omega
theorem depDs_le {m : Nat} : ∀ {ds : List Dv}, (∀ d ∈ ds, depD d ≤ m) → depDs ds ≤ m
  | [], _ => Nat.zero_le _
  | d :: ds, h => by
    have a := h d List.mem_cons_self
    have b := depDs_le (m := m) (ds := ds) fun x hx => h x (List.mem_cons_of_mem _ hx)
    simp only [depDs]
    omega
theorem Shw.tup {n m n' m' : Nat} {ds : List Dv} (h : ∀ d ∈ ds, Shw n m d) (l : ds.length * n + 2 * ds.length + 3 ≤ n') (k : m + 1 ≤ m') : Shw n' m' (.tup ds) := by
  obtain ⟨a, b⟩ := okV_tup fun d hd => (h d hd).o
  have c := encVs_le fun d hd => (h d hd).e
  have e := encV_tup_le ds
  have g := depDs_le fun d hd => (h d hd).p
  refine ⟨by simp [okV, datD, toP, okD, a, b], by omega, ?_⟩
  simp only [depD]
  omega
theorem Shw.show_ {n m : Nat} {d : Dv} (h : Shw n m d) (hn : n ≤ 10000000) (hm : m ≤ 60) : ShowOk d := by
  obtain ⟨_, _, c, _⟩ := okV_facts d h.o
  have o := h.o
  have sz : (sizeLine : Nat) = 16777216 := by decide +kernel
  refine ⟨h.o, by rw [c]; exact Nat.le_trans h.p hm, ?_⟩
  unfold okV at o
  rw [Bool.and_eq_true] at o
  have := h.e
  unfold encV at this
  rw [shown_length o.2]
  omega
theorem range_at {lo : Int} {n i : Nat} {d : Dv} (h : (intsD lo n)[i]? = some d) : d = .int (lo + (i : Nat)) ∧ i < n := by
  unfold intsD at h
  rw [List.getElem?_map] at h
  by_cases c : i < n
  · rw [List.getElem?_range c] at h
    cases h
    exact ⟨rfl, c⟩
  · rw [List.getElem?_eq_none (by simpa using c)] at h
    cases h
theorem intsD_len (lo : Int) (n : Nat) : (intsD lo n).length = n := by unfold intsD; rw [List.length_map, List.length_range]
mutual
theorem plain_of : ∀ (d : Dv) (n : Nat), pln d = true → n + depD d ≤ 30 → plainD n d = true
  | .tup ds, n, h, l => by
    simp only [depD] at l
    have := plains_of ds (n + 1) (by simpa [pln] using h) (by omega)
    simp only [plainD, this, Bool.and_true]
    exact decide_eq_true (by omega)
  | .str x, n, h, l => rfl
  | .non, n, h, l => rfl
  | .bl _, n, h, l => rfl
  | .int _, n, h, l => by simpa [plainD, pln] using h
  | .lst _, n, h, l => by simp [pln, atomD] at h
  | .scr _, n, h, l => by simp [pln, atomD] at h
  | .ref _, n, h, l => by simp [pln, atomD] at h
  | .ty _, n, h, l => by simp [pln, atomD] at h
theorem plains_of : ∀ (ds : List Dv) (n : Nat), plns ds = true → n + depDs ds ≤ 30 → plainDs n ds = true
  | [], n, h, l => rfl
  | d :: ds, n, h, l => by
    have h' : pln d = true ∧ plns ds = true := by simpa [plns] using h
    simp only [depDs] at l
    simp only [plainDs, plain_of d n h'.1 (by omega), plains_of ds n h'.2 (by omega), Bool.and_self]
end
/-- plain, and small -/
structure Gd (n m : Nat) (d : Dv) : Prop where
  s : Shw n m d
  l : pln d = true
theorem Gd.mono {n m n' m' : Nat} {d : Dv} (h : Gd n m d) (a : n ≤ n') (b : m ≤ m') : Gd n' m' d := ⟨h.s.mono a b, h.l⟩
theorem Gd.tup {n m n' m' : Nat} {ds : List Dv} (h : ∀ d ∈ ds, Gd n m d) (l : ds.length * n + 2 * ds.length + 3 ≤ n') (k : m + 1 ≤ m') : Gd n' m' (.tup ds) :=
  ⟨Shw.tup (fun d hd => (h d hd).s) l k, by rw [pln_tup, List.all_eq_true]; exact fun d hd => (h d hd).l⟩
theorem Gd.int {i : Int} (h : i.natAbs < 10 ^ 40) : Gd 41 0 (.int i) := by
  have hp : (10 : Nat) ^ 40 ≤ 2 ^ 200 := by decide
  refine ⟨⟨?_, ?_, Nat.le_refl _⟩, ?_⟩
  · show okD (.int i) = true
    exact int_ok (k := 200) (by omega) (by decide) (by decide)
  · show (intL i).length ≤ 41
    exact intL_len (by decide) h
  · simp only [pln, atomD]
    rw [decide_eq_true (show (-(10 ^ 60) : Int) < i by omega), decide_eq_true (show i < 10 ^ 60 by omega)]
    rfl
theorem Gd.non : Gd 4 0 .non := ⟨⟨rfl, by decide, Nat.le_refl _⟩, rfl⟩
theorem Gd.bl (b : Bool) : Gd 5 0 (.bl b) := by cases b <;> exact ⟨⟨rfl, by decide, Nat.le_refl _⟩, rfl⟩
theorem MLe.trans {A B C : MH} (h : MLe A B) (k : MLe B C) : MLe A C := fun a o z => k a o (h a o z)
theorem Gd.txt {s : Str} (h1 : okV (.str s) = true) (h2 : encV (.str s) ≤ 20) (h3 : pln (.str s) = true) : Gd 20 0 (.str s) := ⟨⟨h1, h2, Nat.le_refl _⟩, h3⟩
theorem mem2 {p : Dv → Prop} {a b : Dv} (h1 : p a) (h2 : p b) : ∀ d ∈ [a, b], p d := fun d hd => by
  simp only [List.mem_cons, List.not_mem_nil, or_false] at hd
  rcases hd with rfl | rfl
  · exact h1
  · exact h2
theorem mem3 {p : Dv → Prop} {a b c : Dv} (h1 : p a) (h2 : p b) (h3 : p c) : ∀ d ∈ [a, b, c], p d := fun d hd => by
  simp only [List.mem_cons, List.not_mem_nil, or_false] at hd
  rcases hd with rfl | rfl | rfl
  · exact h1
  · exact h2
  · exact h3
theorem mem4 {p : Dv → Prop} {a b c e : Dv} (h1 : p a) (h2 : p b) (h3 : p c) (h4 : p e) : ∀ d ∈ [a, b, c, e], p d := fun d hd => by
  simp only [List.mem_cons, List.not_mem_nil, or_false] at hd
  rcases hd with rfl | rfl | rfl | rfl
  · exact h1
  · exact h2
  · exact h3
  · exact h4
theorem mem1 {p : Dv → Prop} {a : Dv} (h1 : p a) : ∀ d ∈ [a], p d := fun d hd => by rw [List.mem_singleton.mp hd]; exact h1
theorem valD_cons (p : L2.Key × Dv) (r : List (L2.Key × Dv)) (k : L2.Key) : valD (p :: r) k = if p.1 = k then some p.2 else valD r k := by
  unfold valD
  rw [List.find?_cons]
  by_cases e : p.1 = k <;> simp [e]
theorem any_val (k : L2.Key) : ∀ kds : List (L2.Key × Dv), (kds.any fun kv => decide (kv.1 = k)) = (valD kds k).isSome
  | [] => rfl
  | p :: r => by
    rw [List.any_cons, any_val k r, valD_cons]
    by_cases e : p.1 = k <;> simp [e]
theorem valD_set (k k' : L2.Key) (v : Dv) : ∀ kds : List (L2.Key × Dv), valD (kds.map fun kv => if kv.1 = k then (kv.1, v) else kv) k' = if k' = k ∧ (valD kds k').isSome = true then some v else valD kds k'
  | [] => by simp [valD]
  | p :: r => by
    rw [List.map_cons, valD_cons, valD_cons, valD_set k k' v r]
    by_cases e : p.1 = k
    · rw [if_pos e]
      by_cases e2 : p.1 = k'
      · have : k' = k := e2.symm.trans e
        simp [e2, this]
      · simp [e2]
    · rw [if_neg e]
      by_cases e2 : p.1 = k'
      · have : ¬ k' = k := fun z => e (e2.trans z)
        simp [e2, this]
      · simp [e2]
theorem valD_app (k k' : L2.Key) (v : Dv) : ∀ kds : List (L2.Key × Dv), valD (kds ++ [(k, v)]) k' = if (valD kds k').isSome = true then valD kds k' else if k = k' then some v else none
  | [] => by
    show valD [(k, v)] k' = _
    rw [valD_cons]
    simp [valD]
  | p :: r => by
    rw [List.cons_append, valD_cons, valD_app k k' v r, valD_cons]
    by_cases e : p.1 = k' <;> simp [e]
theorem valD_put (kds : List (L2.Key × Dv)) (k k' : L2.Key) (v : Dv) : valD (putD kds k v) k' = if k' = k then some v else valD kds k' := by
  unfold putD
  rw [any_val]
  split
  · rename_i h
    rw [valD_set]
    by_cases e : k' = k
    · subst e; simp [h]
    · simp [e]
  · rename_i h
    rw [valD_app]
    by_cases e : k' = k
    · subst e; simp [h]
    · have : ¬ k = k' := fun z => e z.symm
      simp only [e, this, if_false]
      split
      · rfl
      · rename_i g
        cases g2 : valD kds k' with
        | none => rfl
        | some d => rw [g2] at g; exact absurd rfl g
theorem putD_len (kds : List (L2.Key × Dv)) (k : L2.Key) (v : Dv) : (putD kds k v).length ≤ kds.length + 1 := by
  unfold putD
  split
  · rw [List.length_map]; omega
  · rw [List.length_append]; exact Nat.le_refl _
/-- what is no dict stays -/
def Pres (M M' : MH) : Prop := ∀ u o, M u = some o → (∀ kds, o ≠ .dK kds) → M' u = some o
theorem Pres.refl {M : MH} : Pres M M := fun _ _ h _ => h
theorem Pres.trans {A B C : MH} (h : Pres A B) (k : Pres B C) : Pres A C := fun u o z n => k u o (h u o z n) n
theorem Pres.dict {M : MH} {a : Addr} {k1 k2 : List (L2.Key × Dv)} (h : M a = some (.dK k1)) : Pres M (mup M a (.dK k2)) := fun u o z n => by
  rw [mup_ne (fun e => by subst e; rw [h] at z; injection z with z; exact n _ z.symm)]
  exact z
theorem Pres.new {M : MH} {a : Addr} {o : MO} (h : M a = none) : Pres M (mup M a o) := fun u o z n => MLe.up h u o z
theorem cut_to {ds : List Dv} (p : Nat) : cutD ds none (some (p : Int)) = ds.take p := by
  unfold cutD
  rw [HT.sIx_nat]
  show (ds.drop 0).take (min p ds.length - 0) = _
  rw [List.drop_zero, Nat.sub_zero, List.take_eq_take_iff]
  omega
theorem cut_from {ds : List Dv} (p : Nat) : cutD ds (some (p : Int)) none = ds.drop p := by
  unfold cutD
  rw [HT.sIx_nat]
  show (ds.drop (min p ds.length)).take (ds.length - min p ds.length) = _
  rw [List.take_of_length_le (by rw [List.length_drop]; omega)]
  by_cases h : p ≤ ds.length
  · rw [Nat.min_eq_left h]
  · rw [Nat.min_eq_right (by omega), List.drop_length, List.drop_of_length_le (by omega)]
theorem addLM_go {x y : Dv} {ds es : List Dv} {M : MH} {Q : DK} (h1 : lsD M x = some ds) (h2 : lsD M y = some es) (l : ds.length + es.length ≤ sizeLine) (q : ∀ p, M p = none → Q (.ref p) (mup M p (.lst (ds ++ es)))) : gAddLM x y M Q := by
  unfold gAddLM
  rw [h1, h2]
  exact ⟨l, q⟩
theorem at_go {xs : List Dv} {i : Int} {d : Dv} (h : atI xs i = some d) (T : Dv → Prop) (t : T d) : (match atI xs i with | some d => T d | none => False) := by rw [h]; exact t
theorem addLM_to {x y : Dv} {ds es : List Dv} {M : MH} {Q : DK} {p : Dv → Prop} {n : Nat} (h1 : lsD M x = some ds) (h2 : lsD M y = some es) (l : ds.length + es.length ≤ sizeLine) (L : List Dv) (e : ds ++ es = L) (hp : ∀ d ∈ L, p d) (hn : L.length = n)
    (q : ∀ L0 : List Dv, (∀ d ∈ L0, p d) → L0.length = n → ∀ r, M r = none → Q (.ref r) (mup M r (.lst L0))) : gAddLM x y M Q := addLM_go h1 h2 l fun r hr => by rw [e]; exact q L hp hn r hr
theorem Gd.sum {n m : Nat} {ds : List Dv} (ok : ∀ d ∈ ds, ∃ k, Gd k m d) (l : encVs ds + 2 * ds.length + 3 ≤ n) : Gd n (m + 1) (.tup ds) := by
  obtain ⟨a, b⟩ := okV_tup fun d hd => (ok d hd).elim fun _ h => h.s.o
  have e := encV_tup_le ds
  have g := depDs_le fun d hd => (ok d hd).elim fun _ h => h.s.p
  refine ⟨⟨by simp [okV, datD, toP, okD, a, b], by omega, ?_⟩, by rw [pln_tup, List.all_eq_true]; exact fun d hd => (ok d hd).elim fun _ h => h.l⟩
  simp only [depD]
  omega
theorem Shw.sum {n m : Nat} {ds : List Dv} (ok : ∀ d ∈ ds, ∃ k, Shw k m d) (l : encVs ds + 2 * ds.length + 3 ≤ n) : Shw n (m + 1) (.tup ds) := by
  obtain ⟨a, b⟩ := okV_tup fun d hd => (ok d hd).elim fun _ h => h.o
  have e := encV_tup_le ds
  have g := depDs_le fun d hd => (ok d hd).elim fun _ h => h.p
  refine ⟨by simp [okV, datD, toP, okD, a, b], by omega, ?_⟩
  simp only [depD]
  omega
theorem Gk.weak {P : Program} {w : World} {K : PySem.W.Frag} {mg : Str → Option Value} {base : Heap} {k : Nat} {f : Addr} {fd : FuncData} {ps : List Str} {sp sp' : Sp} (h : ∀ vs H Q E, sp' vs H Q E → sp vs H Q E) (g : Gk P w K mg base k f fd ps sp) : Gk P w K mg base k f fd ps sp' :=
  ⟨fun vs H Q E z => g.len vs H Q E (h _ _ _ _ z), fun hg r e b v z => g.go hg r e b v (h _ _ _ _ z)⟩
theorem addL_go {x y : Dv} {ds es : List Dv} {M : MH} {Q : DK} (h1 : lsD M x = some ds) (h2 : lsD M y = some es) (l : ds.length + es.length ≤ sizeLine) (q : Q (.lst (ds ++ es)) M) : gAddL x y M Q := by
  unfold gAddL
  rw [h1, h2]
  exact ⟨l, q⟩
theorem Shw.known {n m : Nat} {d : Dv} (h : Shw n m d) (hn : n ≤ 100000) (M : MH) : knownD M d = true ∧ sizeD d ≤ 100000 ∧ txtD d = true := by
  obtain ⟨a, b, _, e⟩ := okV_facts d h.o
  have := h.e
  exact ⟨a M, by omega, e (by omega)⟩
theorem okV_parts {ds : List Dv} (h : okV (.tup ds) = true) : ∀ d ∈ ds, okV d = true := by
  have h' : datDs ds = true ∧ okDs (toPs ds) = true := by simpa [okV, datD, toP, okD] using h
  clear h
  induction ds with
  | nil => intro d hd; cases hd
  | cons x r ih =>
    have h1 : datD x = true ∧ datDs r = true := by simpa [datDs] using h'.1
    have h2 : okD (toP x) = true ∧ okDs (toPs r) = true := by simpa [toPs, okDs] using h'.2
    intro d hd
    rcases List.mem_cons.mp hd with rfl | hd
    · simp [okV, h1.1, h2.1]
    · exact ih ⟨h1.2, h2.2⟩ d hd
theorem Shw.pair {n m : Nat} {x o body : Dv} (h : Shw n m (.tup [x, o, body])) (hn : n ≤ 100000) (hm : m ≤ 30) : ShowOk (.tup [o, body]) := by
  have p := okV_parts h.o
  have g := encV_tup_ge [x, o, body]
  have l := encV_tup_le [o, body]
  have e := h.e
  have dp := h.p
  simp only [encVs_cons, List.length_cons, List.length_nil] at g l
  have e0 : encVs [] = 0 := rfl
  simp only [depD, depDs] at dp
  refine Shw.show_ (n := 200000) (m := 31) ⟨?_, by omega, ?_⟩ (by decide) (by decide)
  · obtain ⟨a, b⟩ := okV_tup (ds := [o, body]) (mem2 (p o (by simp)) (p body (by simp)))
    simp [okV, datD, toP, okD, a, b]
  · simp only [depD, depDs]
    omega
theorem pair_show {s : Int} {d : Dv} (g : Shw 90000 16 d) (s1 : s.natAbs < 10 ^ 40) : ShowOk (.tup [.int s, d]) :=
  Shw.show_ (n := 200000) (m := 17) (Shw.tup (n := 90000) (m := 16) (mem2 ((Gd.int s1).s.mono (by decide) (by decide)) g) (by simp) (by decide)) (by decide) (by decide)
end
end Vk
set_option linter.unusedVariables false
set_option linter.unusedSimpArgs false
namespace Vk
open PySem PySem.Spec PyProof.Rows L2
def top (i : Nat) : Stmt := PySem.Challenge.pw_trothbase_k21_judged_heads.main.body.getD i (.Pass ⟨0, 0, 0, 0⟩)
def inClass (s : Stmt) (i : Nat) : Stmt := match s with
  | .ClassDef _ _ _ b .. => b.getD i (.Pass ⟨0, 0, 0, 0⟩)
  | _ => .Pass ⟨0, 0, 0, 0⟩
structure Tx (K : PySem.W.Frag) (mg : Str → Option Value) (aMANY_PLACES C_Registry C_Pen : Addr) : Prop where
  f_names : FldOk K C_Registry "_names"
  f_sealed : FldOk K C_Registry "_sealed"
  f_pens : FldOk K C_Registry "_pens"
  g_owner : FldOk K C_Pen "owner"
  g_sealed : FldOk K C_Pen "_sealed"
  repr : mg "repr" = none
  int : mg "int" = none
  bool : mg "bool" = none
  str : mg "str" = none
  tuple : mg "tuple" = none
  list : mg "list" = none
  type : mg "type" = none
  isinstance : mg "isinstance" = none
  len : mg "len" = none
  all : mg "all" = none
  range : mg "range" = none
  sorted : mg "sorted" = none
  zip : mg "zip" = none
  set : mg "set" = none
  max : mg "max" = none
  mg_MOST_TUPLES : ∃ t, mg "MOST_TUPLES" = some (.int 30 t)
  mg_INTEGER_BOUND : ∃ t, mg "INTEGER_BOUND" = some (.int (10 ^ 60) t)
  mg_LAST_OWNER : ∃ t, mg "LAST_OWNER" = some (.int 999 t)
  mg_MANY_PLACES : mg "MANY_PLACES" = some (.ref aMANY_PLACES)
  rd_MANY_PLACES : ∀ G, RD K G (.ref aMANY_PLACES) (.tup [.int 4, .int 7, .int 10])
section
variable {P : Program} {w : World} {K : PySem.W.Frag} {mg : Str → Option Value} {base : Heap} {aMANY_PLACES C_Registry C_Pen : Addr}
def F_is_integer : DF := fun ds M Q => ∃ d n, ds = [d] ∧ tyN M d = some n ∧ (∀ ns, d ≠ .scr ns) ∧ Q (.bl (decide (n = "int"))) M
theorem len_is_integer : ∀ ds M R, F_is_integer ds M R → ds.length = ["value"].length := by
  rintro _ _ _ ⟨d, n, rfl, _⟩
  rfl
abbrev s_is_integer : Stmt := top 8
theorem sc_is_integer : FnScope ["value"] ["value"] (defScope s_is_integer) := ⟨rfl, rfl, rfl, by decide +kernel, rfl, by decide +kernel, by decide +kernel⟩
theorem ok_is_integer {f : Addr} {fd : FuncData} (Fn : L2.Fun K "is_integer" "is_integer" s_is_integer f fd) (T : Tx K mg aMANY_PLACES C_Registry C_Pen) : Gk P w K mg base 1 f fd ["value"] (spD K F_is_integer) := by
  refine dfun Fn sc_is_integer (len_is_integer) (fun cd A out s H E hg hr => ⟨_, _, (ss_one (s_ret (d_cmp o_isTy (d_cty (k_type (K := K)) (by rfl) T.type (by decide +kernel) (a_cons (dv 0) a_nil)) (d_tyname (n := "int") (by rfl) T.int (by decide +kernel)) (nomark _)))), ?_⟩)
  rintro ds M R ⟨d, n, rfl, e, ns, q⟩
  refine gTy_of e ns ?_
  exact q
def F_atom : DF := fun ds M Q => ∃ d, ds = [d] ∧ knownD M d = true ∧ isTup d = false ∧ Q (.bl (atomD d)) M
theorem len_atom : ∀ ds M R, F_atom ds M R → ds.length = ["value"].length := by
  rintro _ _ _ ⟨d, rfl, _⟩
  rfl
abbrev s_atom : Stmt := top 7
theorem sc_atom : FnScope ["value"] ["value"] (defScope s_atom) := ⟨rfl, rfl, rfl, by decide +kernel, rfl, by decide +kernel, by decide +kernel⟩
theorem ok_atom {f : Addr} {fd : FuncData} (Fn : L2.Fun K "_is_plain_atom" "_is_plain_atom" s_atom f fd) (T : Tx K mg aMANY_PLACES C_Registry C_Pen) (C_is_integer : DCal P w K mg base "is_integer" 1 F_is_integer) : Gk P w K mg base 2 f fd ["value"] (spD K F_atom) := by
  refine dfun Fn sc_atom (len_atom) (fun cd A out s H E hg hr => ⟨_, _, (ss_cons (s_if (t_val (k_call (K := K) hg C_is_integer hr rfl (a_cons (dv 0) a_nil))) (ss_one (s_ret (d_chain o_lt o_lt (d_neg (d_cint (by rfl) T.mg_INTEGER_BOUND)) (dv 0) (d_cint (by rfl) T.mg_INTEGER_BOUND)))) ss_nil)
  (ss_one (s_ret (d_or (d_cmp o_isN (dv 0) d_non (nomark _)) (d_or (d_cmp o_isTy (d_cty (k_type (K := K)) (by rfl) T.type (by decide +kernel) (a_cons (dv 0) a_nil)) (d_tyname (n := "bool") (by rfl) T.bool (by decide +kernel)) (nomark _)) (d_one (d_cmp o_isTy (d_cty (k_type (K := K)) (by rfl) T.type (by decide +kernel) (a_cons (dv 0) a_nil)) (d_tyname (n := "str") (by rfl) T.str (by decide +kernel)) (nomark _)))))))), ?_⟩)
  rintro ds M R ⟨d, rfl, kn, nt, q⟩
  obtain ⟨n, e, ns, _⟩ := known_ty kn
  refine ⟨d, n, rfl, e, ns, ?_⟩
  cases d with
  | int i =>
    cases e
    show (if decide (-(10 ^ (60 : Nat)) < i) = true then _ else _)
    simp only [atomD] at q
    by_cases c : (-(10 ^ 60) : Int) < i
    · rw [if_pos (decide_eq_true c)]
      rw [decide_eq_true c, Bool.true_and] at q
      exact q
    · rw [decide_eq_false c, Bool.false_and] at q
      rw [if_neg (by rw [decide_eq_false c]; exact Bool.false_ne_true)]
      exact q
  | non => cases e; exact q
  | bl b =>
    cases e
    refine gTy_of (n := "bool") rfl ns ?_
    exact q
  | str x =>
    cases e
    refine gTy_of (n := "str") rfl ns ?_
    refine gTy_of (n := "str") rfl ns ?_
    exact q
  | tup ds => cases nt
  | scr ns => simp [knownD] at kn
  | ty n => simp [knownD] at kn
  | lst ds =>
    cases e
    refine gTy_of (n := "list") rfl ns ?_
    refine gTy_of (n := "list") rfl ns ?_
    exact q
  | ref p =>
    have n1 : ¬ n = "int" := fun z => by
      subst z
      unfold tyN at e
      simp only at e
      split at e <;> simp at e
    have n2 : ¬ n = "bool" := fun z => by
      subst z
      unfold tyN at e
      simp only at e
      split at e <;> simp at e
    have n3 : ¬ n = "str" := fun z => by
      subst z
      unfold tyN at e
      simp only at e
      split at e <;> simp at e
    simp only [dRet, dRetN, dSeq, dIfS, dSet, dDrop, dAsg, dNext, dMatch, dCase, dV, dC, dOp, dCB, dCall, dACons, dANil, dTup, dLst, dLstM, dFrz, dB, dTru, dNotT, dAndT, dOrT, dAnd, dOr, dNot, dIf, dNeg, dChain, dYes, dstart, sName, sNil, sCons, sTup, gI, gMinus, gAdd, gLt, gLe, gB, gEq, eqS, gIsN, isNonD, gIsB, gIsTy, gTy, gIx, gSl, dSl, dPNone, dPSome, gLen, gTupOf, gLstOf, gOrd, gInt, gII, gIsi, gMul, List.getElem?_cons_zero, List.getElem?_cons_succ, List.set_cons_zero, List.set_cons_succ, List.map_cons, List.map_nil, List.length_cons, List.length_nil, List.replicate_succ, List.replicate_zero, List.cons_append, List.nil_append, Nat.reduceAdd, Nat.reduceSub, if_pos, if_neg, Bool.false_eq_true, reduceIte, decide_true, decide_false, Bool.not_true, Bool.not_false, e, n1, n2, n3]
    exact q
def F_is_plain : DF := fun ds M Q => ∃ d, ds = [d] ∧ knownD M d = true ∧ sizeD d ≤ 100000 ∧ Q (.bl (plainD 0 d)) M
theorem len_is_plain : ∀ ds M R, F_is_plain ds M R → ds.length = ["value"].length := by
  rintro _ _ _ ⟨d, rfl, _⟩
  rfl
abbrev s_is_plain : Stmt := top 6
theorem sc_is_plain : FnScope ["value", "waiting", "part", "around", "inner"] ["value"] (defScope s_is_plain) := ⟨rfl, rfl, rfl, by decide +kernel, rfl, by decide +kernel, by decide +kernel⟩
theorem ok_is_plain {f : Addr} {fd : FuncData} (Fn : L2.Fun K "is_plain" "is_plain" s_is_plain f fd) (T : Tx K mg aMANY_PLACES C_Registry C_Pen) (C_is_plain_atom : DCal P w K mg base "_is_plain_atom" 2 F_atom) : Gk P w K mg base 3 f fd ["value"] (spD K F_is_plain) := by
  refine dfunG Fn sc_is_plain (len_is_plain) (fun cd A out s H E hg hr => ⟨_, _, (ss_cons (s_set (i := 1) sc_is_plain.nd rfl (Or.inl rfl) (d_lstM (a_cons (d_tup (a_cons (dv 0) (a_cons d_int a_nil))) a_nil)))
  (ss_cons (s_while PassesOwn.never (k_truth (K := K) (dv 1))
  (ss_cons (s_asg (d_bm0 PySem.F.plainAttrs_list PySem.F.slot_list_pop PySem.F.type_list_pop mt_pop mt_popD (dv 1)) (kg_tup (K := K) (n := 2) rfl (gs_cons (g_name 2 sc_is_plain.nd) (gs_cons (g_name 3 sc_is_plain.nd) gs_nil))))
  (ss_one (s_if (t_cmp o_isTy (d_cty (k_type (K := K)) (by rfl) T.type (by decide +kernel) (a_cons (dv 2) a_nil)) (d_tyname (n := "tuple") (by rfl) T.tuple (by decide +kernel)) (nomark _)) (ss_cons (s_if (t_cmp (k_eq (K := K) hr.units) (dv 3) (d_cint (by rfl) T.mg_MOST_TUPLES) (nomark _)) (ss_one (s_ret d_bl)) ss_nil)
  (ss_one (s_expr (d_bm PySem.F.plainAttrs_list PySem.F.slot_list_extend PySem.F.type_list_extend mt_extend mt_ext (dv 1) (a_cons (d_lc (own := [("inner", 4)]) rfl sc_is_plain.nd (k_tup_ (K := K) (dv 2)) (blkOk_by (N := ["value", "waiting", "part", "around", "inner"]) (sc := defScope s_is_plain) (by decide +kernel)) (fun _ _ _ _ _ => (g_name 4 sc_is_plain.nd)) (fun _ _ _ _ _ => pts_nil) rt_yes (fun _ _ _ _ _ => (d_tup (a_cons (dv 4) (a_cons (d_op (k_add (K := K)) (dv 3) d_int) a_nil))))) a_nil))))) (ss_one (s_if (t_not (t_val (k_call (K := K) hg C_is_plain_atom hr rfl (a_cons (dv 2) a_nil)))) (ss_one (s_ret d_bl)) ss_nil))))))
  (ss_one (s_ret d_bl)))), ?_⟩)
  rintro ds M R ⟨d, rfl, kn, sz, q⟩
  have line : (sizeLine : Nat) = 16777216 := by decide +kernel
  intro p hp
  refine ⟨fun m env M' => ∃ (x2 x3 x4 : Option Dv) (es : List WE), env = [some d, some (.ref p), x2, x3, x4] ∧ M' = mup M p (.lst (es.map weD)) ∧ (∀ e ∈ es, knownD M e.1 = true ∧ e.2 ≤ 30) ∧ plainD 0 d = (es.all fun e => plainD e.2 e.1) ∧ sizeW es = m ∧ m ≤ 100000,
    ⟨sizeD d, none, none, none, [(d, 0)], rfl, rfl, by simpa using kn, by simp, by simp [sizeW], sz⟩, ?_⟩
  rintro m env M' ⟨x2, x3, x4, es, rfl, rfl, hk, hpl, hm, hle⟩
  have upp : ∀ {o : MO}, MLe M (mup M p o) := fun {o} => MLe.up hp
  show (match (mup M p (.lst (es.map weD))) p with | some (.lst ds) => _ | _ => False)
  rw [mup_same]
  rcases List.eq_nil_or_concat es with rfl | ⟨es', e, hcc⟩
  · rw [hpl] at q
    exact ⟨M, upp, q⟩
  · rw [List.concat_eq_append] at hcc
    subst hcc
    obtain ⟨v, n⟩ := e
    refine ifT (by simp) ?_
    have hkv := hk (v, n) (by simp)
    have hk' : ∀ e ∈ es', knownD M e.1 = true ∧ e.2 ≤ 30 := fun e he => hk e (by simp [he])
    have lmap : (es' ++ [(v, n)]).map weD = es'.map weD ++ [.tup [v, .int (n : Nat)]] := by rw [List.map_append]; rfl
    rw [lmap]
    show dMeth1 (dV 1) dANil gPop [some d, some (.ref p), x2, x3, x4] _ _
    refine meth_go0 rfl mup_same (pop_go ?_)
    rw [mup_mup]
    refine ⟨rfl, ?_⟩
    have sz1 : sizeW (es' ++ [(v, n)]) = sizeW es' + sizeD v := by simp [sizeW]
    rw [sz1] at hm
    rw [List.all_append] at hpl
    have hpl1 : ([(v, n)].all fun e => plainD e.2 e.1) = plainD n v := by simp
    rw [hpl1] at hpl
    obtain ⟨ty, ety, nsc, etup⟩ := known_ty (known_up upp hkv.1 : knownD (mup M p (.lst (es'.map weD))) v = true)
    refine gTy_of ety nsc ?_
    show (if decide (ty = "tuple") = true then _ else _)
    rw [etup]
    cases ht : isTup v with
    | true =>
      cases v with
      | tup vs =>
        rw [if_pos rfl]
        rw [plainD_tup] at hpl
        show (if decide ((n : Int) = 30) = true then _ else _)
        by_cases c : n = 30
        · rw [if_pos (decide_eq_true (by omega))]
          rw [hpl, decide_eq_false (show ¬ n < 30 by omega), Bool.false_and, Bool.and_false] at q
          exact ⟨M, upp, q⟩
        · rw [if_neg (by rw [decide_eq_false (show ¬ (n : Int) = 30 by omega)]; exact Bool.false_ne_true)]
          rw [decide_eq_true (show n < 30 by omega), Bool.true_and] at hpl
          show dMeth1 (dV 1) _ gExt [some d, some (.ref p), some (.tup vs), some (.int (n : Nat)), x4] _ _
          refine meth_go rfl mup_same ?_
          have kvs : ∀ x ∈ vs, knownD M x = true := by
            have z := hkv.1
            rw [knownD_tup, List.all_eq_true] at z
            exact z
          have szv : sizeD (.tup vs) = 1 + (vs.map sizeD).sum := sizeD_tup vs
          have lvs : vs.length ≤ (vs.map sizeD).sum := len_size vs
          refine dLc_map vs (fun x => .tup [x, .int ((n : Int) + 1)]) tru (fun R h => h) (by omega) trivial (fun x hx R hR => hR) ?_
          show (match (mup M p (.lst (es'.map weD))) p with | some (.lst ys) => gExt p ys [_] _ _ | _ => False)
          rw [mup_same]
          refine ⟨?_, ?_⟩
          · rw [List.length_map, List.length_map]
            have : es'.length ≤ sizeW es' := len_sizeW es'
            omega
          · rw [mup_mup]
            have hn : 1 ≤ sizeD (.tup vs) := sizeD_pos _
            refine ⟨sizeW es' + (vs.map sizeD).sum, by omega, _, _, _, es' ++ vs.map fun x => (x, n + 1), rfl, ?_, ?_, ?_, ?_, by omega⟩
            · rw [List.map_append, List.map_map]
              congr 3
            · intro e he
              rcases List.mem_append.mp he with h | h
              · exact hk' e h
              · obtain ⟨x, hx, rfl⟩ := List.mem_map.mp h
                exact ⟨kvs x hx, by omega⟩
            · rw [hpl, List.all_append, List.all_map]
              rfl
            · unfold sizeW
              rw [List.map_append, List.sum_append, List.map_map]
              rfl
      | _ => cases ht
    | false =>
      rw [if_neg Bool.false_ne_true]
      have pa : plainD n v = atomD v := by
        cases v with
        | tup _ => cases ht
        | _ => rfl
      refine ⟨v, rfl, known_up upp hkv.1, ht, ?_⟩
      show (if (!atomD v) = true then _ else _)
      rw [pa] at hpl
      cases ha : atomD v with
      | false =>
        rw [hpl, ha, Bool.and_false] at q
        exact ⟨M, upp, q⟩
      | true =>
        rw [ha, Bool.and_true] at hpl
        have hn : 1 ≤ sizeD v := sizeD_pos _
        exact ⟨sizeW es', by omega, _, _, _, es', rfl, rfl, hk', hpl, rfl, by omega⟩
end
end Vk
set_option linter.unusedVariables false
set_option linter.unusedSimpArgs false
namespace Vk
open PySem PySem.Spec PyProof.Rows L2
section
variable {P : Program} {w : World} {K : PySem.W.Frag} {mg : Str → Option Value} {base : Heap} {aMANY_PLACES C_Registry C_Pen : Addr}
def F_text : DF := fun ds M Q => ∃ d, ds = [d] ∧ okV d = true ∧ (toP d).depth ≤ 60 ∧ (toP d).shown.length ≤ sizeLine ∧ Q (.str (toP d).shown) M
theorem len_text : ∀ ds M R, F_text ds M R → ds.length = ["value"].length := by
  rintro _ _ _ ⟨d, rfl, _⟩
  rfl
abbrev s_text : Stmt := top 10
theorem sc_text : FnScope ["value"] ["value"] (defScope s_text) := ⟨rfl, rfl, rfl, by decide +kernel, rfl, by decide +kernel, by decide +kernel⟩
theorem ok_text {f : Addr} {fd : FuncData} (Fn : L2.Fun K "_text" "_text" s_text f fd) (T : Tx K mg aMANY_PLACES C_Registry C_Pen) : Gk P w K mg base 1 f fd ["value"] (spD K F_text) := by
  refine dfun Fn sc_text (len_text) (fun cd A out s H E hg hr => ⟨_, _, (ss_one (s_ret (d_cb (k_repr (K := K) hg hr) (by rfl) T.repr (by decide +kernel) (a_cons (dv 0) a_nil)))), ?_⟩)
  rintro ds M R ⟨d, rfl, h1, h2, h3, q⟩
  exact ⟨⟨h1, h2, h3⟩, q⟩
def F_Registry_init (C_Registry C_Pen : Addr) : DF := fun ds M Q => ∃ p dx, ds = [.ref p] ∧ M p = some (.ins C_Registry dx []) ∧ ∀ a b c M', M' p = some (.ins C_Registry dx (regF a b c)) → M' a = some (.dK []) → M' b = some (.dK []) → M' c = some (.dK []) →
  a ≠ b → a ≠ c → b ≠ c → M a = none → M b = none → M c = none → (∀ x o, M x = some o → x ≠ p → M' x = some o) → Q .non M'
theorem len_Registry_init : ∀ ds M R, F_Registry_init C_Registry C_Pen ds M R → ds.length = ["self"].length := by
  rintro _ _ _ ⟨d, dx, rfl, _⟩
  rfl
abbrev s_Registry_init : Stmt := inClass (top 12) 0
theorem sc_Registry_init : FnScope ["self"] ["self"] (defScope s_Registry_init) := ⟨rfl, rfl, rfl, by decide +kernel, rfl, by decide +kernel, by decide +kernel⟩
theorem ok_Registry_init {f : Addr} {fd : FuncData} (Fn : L2.Fun K "__init__" "Registry.__init__" s_Registry_init f fd) (T : Tx K mg aMANY_PLACES C_Registry C_Pen) : Gk P w K mg base 1 f fd ["self"] (spD K (F_Registry_init C_Registry C_Pen)) := by
  refine dfun Fn sc_Registry_init (len_Registry_init) (fun cd A out s H E hg hr => ⟨_, _, (ss_cons (s_fld (K := K) (dv 0) d_dic0)
  (ss_cons (s_fld (K := K) (dv 0) d_dic0)
  (ss_one (s_fld (K := K) (dv 0) d_dic0)))), ?_⟩)
  rintro ds M R ⟨p, dx, rfl, h1, q⟩
  intro a ha
  have ap : p ≠ a := fun z => by subst z; rw [h1] at ha; cases ha
  show (match (mup M a (.dK [])) p with | some (.ins C dx fs) => _ | _ => False)
  rw [mup_ne ap, h1]
  refine ⟨⟨T.f_names, by show 0 < 1000; decide⟩, ?_⟩
  intro b hb
  obtain ⟨bp, hb⟩ := mup_none hb
  obtain ⟨ba, hb⟩ := mup_none hb
  show (match (mup (mup (mup M a (.dK [])) p (.ins C_Registry dx (putFD "_names" (.ref a) []))) b (.dK [])) p with | some (.ins C dx fs) => _ | _ => False)
  rw [mup_ne (Ne.symm bp), mup_same]
  refine ⟨⟨T.f_sealed, by show 1 < 1000; decide⟩, ?_⟩
  intro c hc
  obtain ⟨cp, hc⟩ := mup_none hc
  obtain ⟨cb, hc⟩ := mup_none hc
  obtain ⟨_, hc⟩ := mup_none hc
  obtain ⟨ca, hc⟩ := mup_none hc
  show (match (mup _ c (.dK [])) p with | some (.ins C dx fs) => _ | _ => False)
  rw [mup_ne (Ne.symm cp), mup_same]
  refine ⟨⟨T.f_pens, by show 2 < 1000; decide⟩, ?_⟩
  refine q a b c _ (by rw [mup_same]; rfl) ?_ ?_ ?_ (Ne.symm ba) (Ne.symm ca) (Ne.symm cb) ha hb hc (fun x o hx xp => ?_)
  · rw [mup_ne (Ne.symm ap), mup_ne (Ne.symm ca), mup_ne (Ne.symm ap), mup_ne (Ne.symm ba), mup_ne (Ne.symm ap), mup_same]
  · rw [mup_ne bp, mup_ne (Ne.symm cb), mup_ne bp, mup_same]
  · rw [mup_ne cp, mup_same]
  · have xa : x ≠ a := fun z => by subst z; rw [ha] at hx; cases hx
    have xb : x ≠ b := fun z => by subst z; rw [hb] at hx; cases hx
    have xc : x ≠ c := fun z => by subst z; rw [hc] at hx; cases hx
    rw [mup_ne xp, mup_ne xc, mup_ne xp, mup_ne xb, mup_ne xp, mup_ne xa]
    exact hx
def F_Registry_is_sealed (C_Registry C_Pen : Addr) : DF := fun ds M Q => ∃ p a b c ns ss ps d e, ds = [.ref p, d, e] ∧ RegAt C_Registry M p a b c ns ss ps ∧ ShowOk (.tup [d, e]) ∧ Q (.bl (valD ss (.inr (toP (.tup [d, e])).shown)).isSome) M
theorem len_Registry_is_sealed : ∀ ds M R, F_Registry_is_sealed C_Registry C_Pen ds M R → ds.length = ["self", "owner", "value"].length := by
  rintro _ _ _ ⟨p, a, b, c, ns, ss, ps, d, e, rfl, _⟩
  rfl
abbrev s_Registry_is_sealed : Stmt := inClass (top 12) 3
theorem sc_Registry_is_sealed : FnScope ["self", "owner", "value"] ["self", "owner", "value"] (defScope s_Registry_is_sealed) := ⟨rfl, rfl, rfl, by decide +kernel, rfl, by decide +kernel, by decide +kernel⟩
theorem ok_Registry_is_sealed {f : Addr} {fd : FuncData} (Fn : L2.Fun K "is_sealed" "Registry.is_sealed" s_Registry_is_sealed f fd) (T : Tx K mg aMANY_PLACES C_Registry C_Pen) (C_text : DCal P w K mg base "_text" 1 F_text) : Gk P w K mg base 2 f fd ["self", "owner", "value"] (spD K (F_Registry_is_sealed C_Registry C_Pen)) := by
  refine dfun Fn sc_Registry_is_sealed (len_Registry_is_sealed) (fun cd A out s H E hg hr => ⟨_, _, (ss_one (s_ret (d_cmp (o_inD hr.units) (k_call (K := K) hg C_text hr rfl (a_cons (d_tup (a_cons (dv 1) (a_cons (dv 2) a_nil))) a_nil)) (d_fld (K := K) (dv 0)) (by rfl)))), ?_⟩)
  rintro ds M R ⟨p, a, b, c, ns, ss, ps, d, e, rfl, r, sh, q⟩
  obtain ⟨dx, h1⟩ := r.r
  refine ⟨_, rfl, sh.h1, sh.h2, sh.h3, ?_⟩
  show (match M p with | some (.ins C dx fs) => _ | _ => False)
  rw [h1]
  refine ⟨T.f_sealed, ?_⟩
  unfold gInD dictAt
  simp only [r.rb, keyOf]
  exact q
def F_Pen_init (C_Registry C_Pen : Addr) : DF := fun ds M Q => ∃ p dx d b, ds = [.ref p, d, .ref b] ∧ M p = some (.ins C_Pen dx []) ∧ Q .non (mup M p (.ins C_Pen dx [("owner", d), ("_sealed", .ref b)]))
theorem len_Pen_init : ∀ ds M R, F_Pen_init C_Registry C_Pen ds M R → ds.length = ["self", "owner", "sealed"].length := by
  rintro _ _ _ ⟨p, dx, d, b, rfl, _⟩
  rfl
abbrev s_Pen_init : Stmt := inClass (top 11) 0
theorem sc_Pen_init : FnScope ["self", "owner", "sealed"] ["self", "owner", "sealed"] (defScope s_Pen_init) := ⟨rfl, rfl, rfl, by decide +kernel, rfl, by decide +kernel, by decide +kernel⟩
theorem ok_Pen_init {f : Addr} {fd : FuncData} (Fn : L2.Fun K "__init__" "Pen.__init__" s_Pen_init f fd) (T : Tx K mg aMANY_PLACES C_Registry C_Pen) : Gk P w K mg base 1 f fd ["self", "owner", "sealed"] (spD K (F_Pen_init C_Registry C_Pen)) := by
  refine dfun Fn sc_Pen_init (len_Pen_init) (fun cd A out s H E hg hr => ⟨_, _, (ss_cons (s_fld (K := K) (dv 0) (dv 1))
  (ss_one (s_fld (K := K) (dv 0) (dv 2)))), ?_⟩)
  rintro ds M R ⟨p, dx, d, b, rfl, h1, q⟩
  show (match M p with | some (.ins C dx fs) => _ | _ => False)
  rw [h1]
  refine ⟨⟨T.g_owner, by show 0 < 1000; decide⟩, ?_⟩
  show (match (mup M p _) p with | some (.ins C dx fs) => _ | _ => False)
  rw [mup_same]
  refine ⟨⟨T.g_sealed, by show 1 < 1000; decide⟩, ?_⟩
  rw [mup_mup]
  exact q
def F_Pen_seal (C_Registry C_Pen : Addr) : DF := fun ds M Q => ∃ p dx d b ss e, ds = [.ref p, e] ∧ M p = some (.ins C_Pen dx [("owner", d), ("_sealed", .ref b)]) ∧ M b = some (.dK ss) ∧ ss.length < sizeLine ∧ ShowOk (.tup [d, e]) ∧ Q (.tup [.str "sealed", d, e]) (mup M b (.dK (putD ss (.inr (toP (.tup [d, e])).shown) (.bl true))))
theorem len_Pen_seal : ∀ ds M R, F_Pen_seal C_Registry C_Pen ds M R → ds.length = ["self", "body"].length := by
  rintro _ _ _ ⟨p, dx, d, b, ss, e, rfl, _⟩
  rfl
abbrev s_Pen_seal : Stmt := inClass (top 11) 1
theorem sc_Pen_seal : FnScope ["self", "body"] ["self", "body"] (defScope s_Pen_seal) := ⟨rfl, rfl, rfl, by decide +kernel, rfl, by decide +kernel, by decide +kernel⟩
theorem ok_Pen_seal {f : Addr} {fd : FuncData} (Fn : L2.Fun K "seal" "Pen.seal" s_Pen_seal f fd) (T : Tx K mg aMANY_PLACES C_Registry C_Pen) (C_text : DCal P w K mg base "_text" 1 F_text) : Gk P w K mg base 2 f fd ["self", "body"] (spD K (F_Pen_seal C_Registry C_Pen)) := by
  refine dfun Fn sc_Pen_seal (len_Pen_seal) (fun cd A out s H E hg hr => ⟨_, _, (ss_cons (s_dput hr.units (d_fld (K := K) (dv 0)) (k_call (K := K) hg C_text hr rfl (a_cons (d_tup (a_cons (d_fld (K := K) (dv 0)) (a_cons (dv 1) a_nil))) a_nil)) d_bl)
  (ss_one (s_ret (d_tup (a_cons d_str (a_cons (d_fld (K := K) (dv 0)) (a_cons (dv 1) a_nil))))))), ?_⟩)
  rintro ds M R ⟨p, dx, d, b, ss, e, rfl, h1, h2, hl, sh, q⟩
  show (match M p with | some (.ins C dx fs) => _ | _ => False)
  rw [h1]
  refine ⟨T.g_sealed, ?_⟩
  show (match M p with | some (.ins C dx fs) => _ | _ => False)
  rw [h1]
  refine ⟨T.g_owner, ?_⟩
  refine ⟨_, rfl, sh.h1, sh.h2, sh.h3, ?_⟩
  have da : dictAt M (.ref b) (.str (toP (.tup [d, e])).shown) = some (b, ss, .inr (toP (.tup [d, e])).shown) := by unfold dictAt; simp only [h2, keyOf]
  show (match dictAt M (.ref b) (.str (toP (.tup [d, e])).shown) with | some (p_1, kds, k) => _ | none => False)
  rw [da]
  refine ⟨hl, ?_⟩
  have pb : p ≠ b := fun z => by subst z; rw [h1] at h2; cases h2
  show (match (mup M b _) p with | some (.ins C dx fs) => _ | _ => False)
  rw [mup_ne pb, h1]
  exact ⟨T.g_owner, q⟩
def F_Registry_pen (C_Registry C_Pen : Addr) : DF := fun ds M Q => ∃ p a b c ns ss ps d k, ds = [.ref p, d] ∧ keyOf d = some k ∧ RegAt C_Registry M p a b c ns ss ps ∧ valD ps k = none ∧ ps.length < sizeLine ∧
  ∀ x dx, M x = none → M dx = none → dx ≠ x → Q (.ref x) (mup (mup (mup M c (.dK (putD ps k (.bl true)))) dx (.own x)) x (.ins C_Pen dx (penF d b)))
theorem len_Registry_pen : ∀ ds M R, F_Registry_pen C_Registry C_Pen ds M R → ds.length = ["self", "owner"].length := by
  rintro _ _ _ ⟨p, a, b, c, ns, ss, ps, d, k, rfl, _⟩
  rfl
abbrev s_Registry_pen : Stmt := inClass (top 12) 2
theorem sc_Registry_pen : FnScope ["self", "owner"] ["self", "owner"] (defScope s_Registry_pen) := ⟨rfl, rfl, rfl, by decide +kernel, rfl, by decide +kernel, by decide +kernel⟩
theorem ok_Registry_pen {f : Addr} {fd : FuncData} (Fn : L2.Fun K "pen" "Registry.pen" s_Registry_pen f fd) (T : Tx K mg aMANY_PLACES C_Registry C_Pen) (K_Pen : DMk P w K mg base "Pen" C_Pen 1 (F_Pen_init C_Registry C_Pen)) : Gk P w K mg base 3 f fd ["self", "owner"] (spD K (F_Registry_pen C_Registry C_Pen)) := by
  refine dfun Fn sc_Registry_pen (len_Registry_pen) (fun cd A out s H E hg hr => ⟨_, _, (ss_cons (s_if (t_cmp (o_inD hr.units) (dv 1) (d_fld (K := K) (dv 0)) (by rfl)) (ss_one s_never) ss_nil)
  (ss_cons (s_dput hr.units (d_fld (K := K) (dv 0)) (dv 1) d_bl)
  (ss_one (s_ret (d_mk (K := K) hg K_Pen hr rfl (a_cons (dv 1) (a_cons (d_fld (K := K) (dv 0)) a_nil))))))), ?_⟩)
  rintro ds M R ⟨p, a, b, c, ns, ss, ps, d, k, rfl, ek, r, hn, hl, q⟩
  obtain ⟨dx, h1⟩ := r.r
  show (match M p with | some (.ins C dx fs) => _ | _ => False)
  rw [h1]
  refine ⟨T.f_pens, ?_⟩
  have da : dictAt M (.ref c) d = some (c, ps, k) := by unfold dictAt; simp only [r.rc, ek]
  unfold gInD
  show (match dictAt M (.ref c) d with | some (_, kds, key) => _ | none => False)
  rw [da]
  show (if (valD ps k).isSome = true then _ else _)
  rw [hn]
  show (match M p with | some (.ins C dx fs) => _ | _ => False)
  rw [h1]
  refine ⟨T.f_pens, ?_⟩
  show (match dictAt M (.ref c) d with | some (_, kds, key) => _ | none => False)
  rw [da]
  refine ⟨hl, ?_⟩
  have pc : p ≠ c := fun z => by subst z; have := r.rc; rw [h1] at this; cases this
  show (match (mup M c _) p with | some (.ins C dx fs) => _ | _ => False)
  rw [mup_ne pc, h1]
  refine ⟨T.f_sealed, ?_⟩
  intro x dy hx hdy hne
  obtain ⟨xc, hx⟩ := mup_none hx
  obtain ⟨yc, hdy⟩ := mup_none hdy
  refine ⟨x, dy, d, b, rfl, mup_same, rfl, ?_⟩
  rw [mup_mup]
  exact q x dy hx hdy hne
end
end Vk
set_option linter.unusedVariables false
set_option linter.unusedSimpArgs false
namespace Vk
open PySem PySem.Spec PyProof.Rows L2
section
variable {P : Program} {w : World} {K : PySem.W.Frag} {mg : Str → Option Value} {base : Heap} {aMANY_PLACES C_Registry C_Pen : Addr}
def F_next : DF := fun ds M Q => ∃ q L xs, ds = [.ref q, .int L] ∧ M q = some (.lst xs) ∧ StOk xs ∧ 0 < L ∧ L < 1000000 ∧ ∀ v xs', 0 ≤ v → v < L → StOk xs' → Q (.int v) (mup M q (.lst xs'))
theorem len_next : ∀ ds M R, F_next ds M R → ds.length = ["state", "limit"].length := by
  rintro _ _ _ ⟨q, L, xs, rfl, _⟩
  rfl
abbrev s_next : Stmt := top 28
theorem sc_next : FnScope ["state", "limit", "cell", "value"] ["state", "limit"] (defScope s_next) := ⟨rfl, rfl, rfl, by decide +kernel, rfl, by decide +kernel, by decide +kernel⟩
theorem ok_next {f : Addr} {fd : FuncData} (Fn : L2.Fun K "_law_next" "_law_next" s_next f fd) (T : Tx K mg aMANY_PLACES C_Registry C_Pen) : Gk P w K mg base 1 f fd ["state", "limit"] (spD K F_next) := by
  refine dfun Fn sc_next (len_next) (fun cd A out s H E hg hr => ⟨_, _, (ss_cons (s_if (Tw.ts (w_and (t_cmp (k_eq (K := K) hr.units) (k_ix (K := K) (dv 0) d_int) d_int (nomark _)) (w_and1 (t_cmp o_lt (k_ix (K := K) (dv 0) d_int) (d_cb (k_len (K := K)) (by rfl) T.len (by decide +kernel) (a_cons (k_ix (K := K) (dv 0) d_int) a_nil)) (nomark _))))) (ss_cons (s_set (i := 2) sc_next.nd rfl (Or.inl rfl) (k_ix (K := K) (k_ix (K := K) (dv 0) d_int) (k_ix (K := K) (dv 0) d_int)))
  (ss_cons (s_augL (K := K) ip_add (dv 0) d_int d_int)
  (ss_one (s_if (t_cmp o_ge (dv 2) (d_op o_pow d_int d_int) (nomark _)) (ss_one (s_put (dv 2) (dv 0) d_int (fun p1 p2 p3 => ps_asg p1 (pg_sub p2 p3 set_list)))) (ss_one (s_put (d_op o_mod (d_cty c_int (by rfl) T.int (by decide +kernel) (a_cons (d_op (k_add (K := K)) (d_op (k_add (K := K)) (d_op (k_mul (K := K)) (k_ix (K := K) (dv 0) d_int) d_int) (d_op o_mod (d_cty c_int (by rfl) T.int (by decide +kernel) (a_cons (dv 2) a_nil)) d_int)) d_int) a_nil)) d_int) (dv 0) d_int (fun p1 p2 p3 => ps_asg p1 (pg_sub p2 p3 set_list)))))))) ss_nil)
  (ss_cons (s_if (t_cmp o_gt (k_ix (K := K) (dv 0) d_int) d_int (nomark _)) (ss_cons (s_set (i := 3) sc_next.nd rfl (Or.inl rfl) (d_op o_mod (d_cty c_int (by rfl) T.int (by decide +kernel) (a_cons (k_ix (K := K) (dv 0) d_int) a_nil)) (dv 1)))
  (ss_cons (s_put (d_op o_fdiv (k_ix (K := K) (dv 0) d_int) (dv 1)) (dv 0) d_int (fun p1 p2 p3 => ps_asg p1 (pg_sub p2 p3 set_list)))
  (ss_one (s_ret (dv 3))))) ss_nil)
  (ss_cons (s_put (d_op o_mod (d_cty c_int (by rfl) T.int (by decide +kernel) (a_cons (d_op (k_add (K := K)) (d_op (k_mul (K := K)) (k_ix (K := K) (dv 0) d_int) d_int) d_int) a_nil)) d_int) (dv 0) d_int (fun p1 p2 p3 => ps_asg p1 (pg_sub p2 p3 set_list)))
  (ss_one (s_ret (d_op o_mod (d_cty c_int (by rfl) T.int (by decide +kernel) (a_cons (d_op o_fdiv (k_ix (K := K) (dv 0) d_int) d_int) a_nil)) (dv 1))))))), ?_⟩)
  rintro ds M R ⟨q, L, xs, rfl, hq, st, L0, L1, k⟩
  obtain ⟨ns, p, b, a, rfl, hp, hl, hb, ha, ha2⟩ := st.ex
  have sz : (sizeLine : Nat) = 16777216 := by decide +kernel
  dsimp only [dNext, dSeq]
  refine ifS_key (fun e m => ∃ x2 xs', e = [some (.ref q), some (.int L), x2, none] ∧ StOk xs' ∧ m = mup M q (.lst xs')) (fun nx key => ?_) ?_
  · have here : M = mup M q (.lst [.lst (ns.map .int), .int (p : Nat), .int b, .int a]) := by
      funext u
      by_cases c : u = q
      · subst c; rw [mup_same, hq]
      · rw [mup_ne c]
    have stay : nx [some (.ref q), some (.int L), none, none] M := key _ _ ⟨_, _, rfl, st, here⟩
    refine ix_go hq rfl _ ?_
    show (if decide (b = 0) = true then _ else _)
    refine iteB (fun h => ?_) (fun h => stay)
    refine ix_go hq rfl _ ?_
    refine ix_go hq rfl _ ?_
    show (if decide (((p : Nat) : Int) < ((ns.map Dv.int).length : Nat)) = true then _ else _)
    rw [List.length_map]
    refine iteB (fun h2 => ?_) (fun h2 => stay)
    have hp2 : p < ns.length := by have := of_decide_eq_true h2; omega
    refine ix_go hq rfl _ ?_
    refine ix_go hq rfl _ ?_
    have ac : atI (ns.map Dv.int) ((p : Nat) : Int) = some (.int ns[p]) := atI_nat (by rw [List.getElem?_map, List.getElem?_eq_getElem hp2]; rfl)
    show (match atI (ns.map Dv.int) ((p : Nat) : Int) with | some d => _ | none => False)
    rw [ac]
    generalize ns[p] = c
    show (match M q with | some (.lst xs) => _ | _ => False)
    rw [hq]
    refine ⟨by decide, ?_⟩
    show (match Dv.int 1, M q with | .int w, some (.lst ys) => _ | _, _ => False)
    rw [hq]
    refine ⟨by show 1 < 4; decide, ?_⟩
    have st1 : StOk [.lst (ns.map .int), .int ((p : Nat) + 1), .int b, .int a] := ⟨ns, p + 1, b, a, rfl, by omega, hl, hb, ha, ha2⟩
    have m1 : (mup M q (.lst [.lst (ns.map .int), .int ((p : Nat) + 1), .int b, .int a])) q = some (.lst [.lst (ns.map .int), .int ((p : Nat) + 1), .int b, .int a]) := mup_same
    refine ⟨⟨by decide, by decide, by decide⟩, ?_⟩
    show (if decide (c ≥ 10 ^ (18 : Int).toNat) = true then _ else _)
    refine iteB (fun h3 => ?_) (fun h3 => ?_)
    · have hc : 0 ≤ c := by have := of_decide_eq_true h3; have e : (10 : Int) ^ (18 : Int).toNat = 1000000000000000000 := rfl; omega
      show (match (mup M q (.lst [.lst (ns.map .int), .int ((p : Nat) + 1), .int b, .int a])) q with | some (.lst xs) => _ | _ => False)
      rw [m1]
      show nx _ (mup (mup M q _) q _)
      rw [mup_mup]
      exact key _ _ ⟨_, _, rfl, ⟨ns, p + 1, c, a, rfl, by omega, hl, hc, ha, ha2⟩, rfl⟩
    · refine ix_go m1 rfl _ ?_
      refine ⟨.inr ⟨by decide, by decide⟩, by show (0 : Int) < 2147483647; decide, by show (0 : Int) < 2147483647; decide, ?_⟩
      show (match (mup M q (.lst [.lst (ns.map .int), .int ((p : Nat) + 1), .int b, .int a])) q with | some (.lst xs) => _ | _ => False)
      rw [m1]
      show nx _ (mup (mup M q _) q _)
      rw [mup_mup]
      exact key _ _ ⟨_, _, rfl, ⟨ns, p + 1, b, _, rfl, by omega, hl, hb, Int.emod_nonneg _ (by decide), Int.emod_lt_of_pos _ (by decide)⟩, rfl⟩
  · rintro e m ⟨x2, xs', rfl, st', rfl⟩
    obtain ⟨ns, p, b, a, rfl, hp, hl, hb, ha, ha2⟩ := st'.ex
    have m1 : (mup M q (.lst [.lst (ns.map .int), .int (p : Nat), .int b, .int a])) q = some (.lst [.lst (ns.map .int), .int (p : Nat), .int b, .int a]) := mup_same
    refine ix_go m1 rfl _ ?_
    show (if decide (b > 0) = true then _ else _)
    refine iteB (fun h => ?_) (fun h => ?_)
    · refine ix_go m1 rfl _ ?_
      refine ⟨L0, ?_⟩
      refine ix_go m1 rfl _ ?_
      refine ⟨⟨L0, by omega⟩, ?_⟩
      show (match (mup M q (.lst [.lst (ns.map .int), .int (p : Nat), .int b, .int a])) q with | some (.lst xs) => _ | _ => False)
      rw [m1]
      show R (.int (b % L)) (mup (mup M q _) q _)
      rw [mup_mup]
      exact k _ _ (Int.emod_nonneg _ (by omega)) (Int.emod_lt_of_pos _ L0) ⟨ns, p, _, a, rfl, hp, hl, Int.ediv_nonneg hb (by omega), ha, ha2⟩
    · refine ix_go m1 rfl _ ?_
      refine ⟨.inr ⟨by decide, by decide⟩, by show (0 : Int) < 2147483647; decide, ?_⟩
      show (match (mup M q (.lst [.lst (ns.map .int), .int (p : Nat), .int b, .int a])) q with | some (.lst xs) => _ | _ => False)
      rw [m1]
      show (match (mup (mup M q _) q (.lst [.lst (ns.map .int), .int (p : Nat), .int b, .int ((a * 69621 + 12345) % 2147483647)])) q with | some (.lst ds) => _ | _ => False)
      rw [mup_mup]
      refine ix_go mup_same rfl _ ?_
      refine ⟨⟨by decide, by decide⟩, L0, ?_⟩
      show R (.int ((a * 69621 + 12345) % 2147483647 / 7 % L)) (mup (mup M q _) q _)
      rw [mup_mup]
      exact k _ _ (Int.emod_nonneg _ (by omega)) (Int.emod_lt_of_pos _ L0) ⟨ns, p, b, _, rfl, hp, hl, hb, Int.emod_nonneg _ (by decide), Int.emod_lt_of_pos _ (by decide)⟩
end
end Vk
set_option linter.unusedVariables false
set_option linter.unusedSimpArgs false
namespace Vk
open PySem PySem.Spec PyProof.Rows L2

def intOf : Dv → Int
  | .int i => i
  | _ => 0
def manyL (n : Nat) : Bool := decide (n = 4) || (decide (n = 7) || decide (n = 10))
def ownersD : Dv → Bool
  | .tup ds => manyL ds.length && (ds.all (intD 1 999) && decide ((ds.map intOf).Nodup))
  | _ => false
def hdrD : Dv → Bool
  | .tup [.str t, h, p, b, r, o] => decide (t = "header") && ((atleastV 0 h && (atleastV 0 p && (atleastV 0 b && atleastV 0 r))) && ownersD o)
  | _ => false
theorem len5 {ds : List Dv} (h : ds.length = 5) : ∃ a b c d e, ds = [a, b, c, d, e] := by
  match ds, h with
  | [a, b, c, d, e], _ => exact ⟨a, b, c, d, e, rfl⟩
theorem ints_back : ∀ {ds : List Dv}, ds.all (fun d => match d with | .int _ => true | _ => false) = true → ds = (ds.map intOf).map .int
  | [], _ => rfl
  | d :: ds, h => by
    rw [List.all_cons, Bool.and_eq_true] at h
    rw [List.map_cons, List.map_cons, ← ints_back h.2]
    cases d with
    | int i => rfl
    | _ => exact absurd h.1 Bool.false_ne_true
theorem any_int (i : Int) : ∀ ns : List Int, (ns.any ((fun z => eqF z (.int i)) ∘ Dv.int)) = decide (i ∈ ns)
  | [] => rfl
  | a :: r => by
    rw [List.any_cons, any_int i r]
    show (a == i || _) = _
    by_cases c : a = i
    · subst c; simp
    · have : (a == i) = false := by simpa using c
      have c' : ¬ i = a := fun z => c z.symm
      simp [this, c']
theorem int_in {i : Int} {ns : List Int} {M : MH} {R : DK} {y : Dv} {k : Bool → Bool} (hy : itsD M y = some (ns.map .int)) (q : R (.bl (k (decide (i ∈ ns)))) M) : gIn k (.int i) y M R := by
  unfold gIn
  rw [hy]
  show (if (flatD (.int i) && (ns.map Dv.int).all flatD) = true then _ else _)
  have e1 : (ns.map Dv.int).all flatD = true := by
    rw [List.all_map, List.all_eq_true]
    intro x _
    rfl
  have e2 : ((ns.map Dv.int).any fun z => eqF z (.int i)) = decide (i ∈ ns) := by
    rw [List.any_map]
    exact any_int i ns
  rw [e1, e2]
  exact q
/-- a registry's names -/
structure NmOk (ns : List (L2.Key × Dv)) : Prop where
  v : ∀ k d, valD ns k = some d → ∃ m : Nat, d = .int m ∧ 1 ≤ m ∧ m ≤ ns.length
  l : ns.length ≤ 10000
structure Named (M : MH) (a : Addr) (ns : List (L2.Key × Dv)) (d : Dv) (m : Nat) (M' : MH) (ns' : List (L2.Key × Dv)) : Prop where
  h : (valD ns (.inr (toP d).shown) = some (.int m) ∧ M' = M ∧ ns' = ns) ∨ (valD ns (.inr (toP d).shown) = none ∧ m = ns.length + 1 ∧ M' = mup M a (.dK ns') ∧ ns' = putD ns (.inr (toP d).shown) (.int m))
section
variable {P : Program} {w : World} {K : PySem.W.Frag} {mg : Str → Option Value} {base : Heap} {aMANY_PLACES C_Registry C_Pen : Addr}

def F_Registry_name (C_Registry C_Pen : Addr) : DF := fun ds M Q => ∃ p a b c ns ss ps d, ds = [.ref p, d] ∧ RegAt C_Registry M p a b c ns ss ps ∧ NmOk ns ∧ ShowOk d ∧ ∀ m M' ns', Named M a ns d m M' ns' → Q (.int (m : Nat)) M'
theorem len_Registry_name : ∀ ds M R, F_Registry_name C_Registry C_Pen ds M R → ds.length = ["self", "value"].length := by
  rintro _ _ _ ⟨p, a, b, c, ns, ss, ps, d, rfl, _⟩
  rfl
abbrev s_Registry_name : Stmt := inClass (top 12) 1
theorem sc_Registry_name : FnScope ["self", "value", "text"] ["self", "value"] (defScope s_Registry_name) := ⟨rfl, rfl, rfl, by decide +kernel, rfl, by decide +kernel, by decide +kernel⟩
theorem ok_Registry_name {f : Addr} {fd : FuncData} (Fn : L2.Fun K "name" "Registry.name" s_Registry_name f fd) (T : Tx K mg aMANY_PLACES C_Registry C_Pen) (C_text : DCal P w K mg base "_text" 1 F_text) : Gk P w K mg base 2 f fd ["self", "value"] (spD K (F_Registry_name C_Registry C_Pen)) := by
  refine dfun Fn sc_Registry_name (len_Registry_name) (fun cd A out s H E hg hr => ⟨_, _, (ss_cons (s_set (i := 2) sc_Registry_name.nd rfl (Or.inl rfl) (k_call (K := K) hg C_text hr rfl (a_cons (dv 1) a_nil)))
  (ss_cons (s_if (t_cmp (o_notInD hr.units) (dv 2) (d_fld (K := K) (dv 0)) (by rfl)) (ss_one (s_dput hr.units (d_fld (K := K) (dv 0)) (dv 2) (d_op (k_add (K := K)) (d_cb k_lenD (by rfl) T.len (by decide +kernel) (a_cons (d_fld (K := K) (dv 0)) a_nil)) d_int))) ss_nil)
  (ss_one (s_ret (d_dget hr.units (d_fld (K := K) (dv 0)) (dv 2) (fun _ _ => rfl)))))), ?_⟩)
  rintro ds M R ⟨p, a, b, c, ns, ss, ps, d, rfl, r, nm, sh, q⟩
  obtain ⟨dx, h1⟩ := r.r
  have sz : (sizeLine : Nat) = 16777216 := by decide +kernel
  have nl := nm.l
  refine ⟨_, rfl, sh.h1, sh.h2, sh.h3, ?_⟩
  have da : dictAt M (.ref a) (.str (toP d).shown) = some (a, ns, .inr (toP d).shown) := by unfold dictAt; simp only [r.ra, keyOf]
  have pa : p ≠ a := fun z => by subst z; have := r.ra; rw [h1] at this; cases this
  dsimp only [dNext, dSeq]
  refine ifS_key (fun e m => ∃ m' M' ns', e = [some (.ref p), some d, some (.str (toP d).shown)] ∧ m = M' ∧ Named M a ns d m' M' ns' ∧ valD ns' (.inr (toP d).shown) = some (.int (m' : Nat)) ∧ dictAt M' (.ref a) (.str (toP d).shown) = some (a, ns', .inr (toP d).shown) ∧ M' p = some (.ins C_Registry dx (regF a b c))) (fun nx key => ?_) ?_
  · show (match M p with | some (.ins C dx fs) => _ | _ => False)
    rw [h1]
    refine ⟨T.f_names, ?_⟩
    unfold gInD
    show (match dictAt M (.ref a) (.str (toP d).shown) with | some (_, kds, key) => _ | none => False)
    rw [da]
    show (if (!(valD ns (.inr (toP d).shown)).isSome) = true then _ else _)
    cases hv : valD ns (.inr (toP d).shown) with
    | some v =>
      obtain ⟨m, rfl, _⟩ := nm.v _ _ hv
      exact key _ _ ⟨m, M, ns, rfl, rfl, ⟨.inl ⟨hv, rfl, rfl⟩⟩, hv, da, h1⟩
    | none =>
      show (match M p with | some (.ins C dx fs) => _ | _ => False)
      rw [h1]
      refine ⟨T.f_names, ?_⟩
      show (match M a with | some (.dK kds) => _ | _ => False)
      rw [r.ra]
      show (match M p with | some (.ins C dx fs) => _ | _ => False)
      rw [h1]
      refine ⟨T.f_names, ?_⟩
      show (match dictAt M (.ref a) (.str (toP d).shown) with | some (_, kds, key) => _ | none => False)
      rw [da]
      refine ⟨by omega, ?_⟩
      refine key _ _ ⟨ns.length + 1, _, putD ns (.inr (toP d).shown) (.int ((ns.length + 1 : Nat) : Int)), rfl, rfl, ⟨.inr ⟨hv, rfl, rfl, rfl⟩⟩, ?_, ?_, ?_⟩
      · rw [valD_put, if_pos rfl]
      · unfold dictAt
        simp only [mup_same, keyOf]
        rfl
      · show (mup M a _) p = _
        rw [mup_ne pa]
        exact h1
  · rintro e m ⟨m', M', ns', rfl, rfl, hn, hv, hd, hp⟩
    show (match m p with | some (.ins C dx fs) => _ | _ => False)
    rw [hp]
    refine ⟨T.f_names, ?_⟩
    show (match dictAt m (.ref a) (.str (toP d).shown) with | some (_, kds, k) => _ | none => False)
    rw [hd]
    show (match valD ns' (.inr (toP d).shown) with | some d => _ | none => False)
    rw [hv]
    exact q _ _ _ hn
abbrev F_is_owner : DF := okB (intD 1 999)
abbrev len_is_owner := len_okB (intD 1 999)
abbrev s_is_owner : Stmt := top 16
theorem sc_is_owner : FnScope ["value"] ["value"] (defScope s_is_owner) := ⟨rfl, rfl, rfl, by decide +kernel, rfl, by decide +kernel, by decide +kernel⟩
theorem ok_is_owner {f : Addr} {fd : FuncData} (Fn : L2.Fun K "is_owner" "is_owner" s_is_owner f fd) (T : Tx K mg aMANY_PLACES C_Registry C_Pen) (C_is_integer : DCal P w K mg base "is_integer" 1 F_is_integer) : Gk P w K mg base 2 f fd ["value"] (spD K F_is_owner) := by
  refine dfun Fn sc_is_owner (len_is_owner) (fun cd A out s H E hg hr => ⟨_, _, (ss_one (s_ret (d_and (k_call (K := K) hg C_is_integer hr rfl (a_cons (dv 0) a_nil)) (d_one (d_chain o_le o_le d_int (dv 0) (d_cint (by rfl) T.mg_LAST_OWNER)))))), ?_⟩)
  rintro ds M R ⟨d, rfl, ok, q⟩
  obtain ⟨n, e1, e2, e3, e4, e5⟩ := ok.ty_ M
  refine ⟨d, n, rfl, e1, e2, ?_⟩
  show (if decide (n = "int") = true then _ else _)
  rw [e3]
  cases d with
  | int i =>
    show (if decide ((1 : Int) ≤ i) = true then _ else _)
    simp only [intD] at q
    by_cases c : (1 : Int) ≤ i
    · rw [if_pos (decide_eq_true c)]
      rw [decide_eq_true c, Bool.true_and] at q
      exact q
    · rw [decide_eq_false c, Bool.false_and] at q
      rw [if_neg (by rw [decide_eq_false c]; exact Bool.false_ne_true)]
      exact q
  | _ => exact q
def F_is_at_least : DF := fun ds M Q => ∃ d n, ds = [d, .int n] ∧ OkF d ∧ Q (.bl (atleastV n d)) M
theorem len_is_at_least : ∀ ds M R, F_is_at_least ds M R → ds.length = ["value", "least"].length := by
  rintro _ _ _ ⟨d, n, rfl, _⟩
  rfl
abbrev s_is_at_least : Stmt := top 9
theorem sc_is_at_least : FnScope ["value", "least"] ["value", "least"] (defScope s_is_at_least) := ⟨rfl, rfl, rfl, by decide +kernel, rfl, by decide +kernel, by decide +kernel⟩
theorem ok_is_at_least {f : Addr} {fd : FuncData} (Fn : L2.Fun K "is_at_least" "is_at_least" s_is_at_least f fd) (T : Tx K mg aMANY_PLACES C_Registry C_Pen) (C_is_integer : DCal P w K mg base "is_integer" 1 F_is_integer) : Gk P w K mg base 2 f fd ["value", "least"] (spD K F_is_at_least) := by
  refine dfun Fn sc_is_at_least (len_is_at_least) (fun cd A out s H E hg hr => ⟨_, _, (ss_one (s_ret (d_and (k_call (K := K) hg C_is_integer hr rfl (a_cons (dv 0) a_nil)) (d_one (d_cmp o_ge (dv 0) (dv 1) (nomark _)))))), ?_⟩)
  rintro ds M R ⟨d, m, rfl, ok, q⟩
  obtain ⟨n, e1, e2, e3, e4, e5⟩ := ok.ty_ M
  refine ⟨d, n, rfl, e1, e2, ?_⟩
  show (if decide (n = "int") = true then _ else _)
  rw [e3]
  cases d <;> exact q
abbrev F_are_owners : DF := okB ownersD
abbrev len_are_owners := len_okB ownersD
abbrev s_are_owners : Stmt := top 17
theorem sc_are_owners : FnScope ["value", "owner"] ["value"] (defScope s_are_owners) := ⟨rfl, rfl, rfl, by decide +kernel, rfl, by decide +kernel, by decide +kernel⟩
theorem ok_are_owners {f : Addr} {fd : FuncData} (Fn : L2.Fun K "are_owners" "are_owners" s_are_owners f fd) (T : Tx K mg aMANY_PLACES C_Registry C_Pen) (C_is_owner : DCal P w K mg base "is_owner" 2 F_is_owner) : Gk P w K mg base 3 f fd ["value"] (spD K F_are_owners) := by
  refine dfun Fn sc_are_owners (len_are_owners) (fun cd A out s H E hg hr => ⟨_, _, (ss_cons (s_if (Tw.ts (w_or (t_not (t_val (d_cb (k_isi (K := K)) (by rfl) T.isinstance (by decide +kernel) (a_cons (dv 0) (a_cons (d_tyname (n := "tuple") (by rfl) T.tuple (by decide +kernel)) a_nil))))) (w_or1 (t_cmp (k_notIn (K := K) (units5 hr)) (d_cb (k_len (K := K)) (by rfl) T.len (by decide +kernel) (a_cons (dv 0) a_nil)) (d_ctup (by rfl) T.mg_MANY_PLACES T.rd_MANY_PLACES) (by rfl))))) (ss_one (s_ret d_bl)) ss_nil)
  (ss_one (s_ret (d_and (d_cb (k_all (K := K) rfl) (by rfl) T.all (by decide +kernel) (a_cons (d_lc (own := [("owner", 1)]) rfl sc_are_owners.nd (k_tup_ (K := K) (dv 0)) (blkOk_by (N := ["value", "owner"]) (sc := defScope s_are_owners) (by decide +kernel)) (fun _ _ _ _ _ => (g_name 1 sc_are_owners.nd)) (fun _ _ _ _ _ => pts_nil) rt_yes (fun _ _ _ _ _ => (k_call (K := K) hg C_is_owner hr rfl (a_cons (dv 1) a_nil)))) a_nil)) (d_one (d_cmp (k_eq (K := K) hr.units) (d_lenSet rfl (by rfl) T.len (by rfl) T.set (dv 0)) (d_cb (k_len (K := K)) (by rfl) T.len (by decide +kernel) (a_cons (dv 0) a_nil)) (nomark _))))))), ?_⟩)
  rintro ds M R ⟨d, rfl, ok, q⟩
  obtain ⟨n, e1, e2, e3, e4, e5⟩ := ok.ty_ M
  have sz : (sizeLine : Nat) = 16777216 := by decide +kernel
  refine ⟨by decide, ?_⟩
  rw [e1]
  show (if (!kitv n "tuple") = true then _ else _)
  rw [e5]
  cases d with
  | tup xs =>
    have e : ownersD (.tup xs) = (manyL xs.length && (xs.all (intD 1 999) && decide ((xs.map intOf).Nodup))) := rfl
    refine int_in (ns := [4, 7, 10]) rfl ?_
    have em : decide (((xs.length : Nat) : Int) ∈ [(4 : Int), 7, 10]) = manyL xs.length := by
      unfold manyL
      rw [← Bool.decide_or, ← Bool.decide_or]
      refine decide_eq_decide.mpr ?_
      simp only [List.mem_cons, List.not_mem_nil, or_false]
      omega
    rw [em]
    show (if (!manyL xs.length) = true then _ else _)
    by_cases c1 : manyL xs.length = true
    · have c2 : xs.length ≤ 10 := by
        unfold manyL at c1
        simp at c1
        omega
      refine iteBF (by rw [c1]; rfl) ?_
      show dLc _ _ dYes _ _ _ _ _
      refine dLc_map xs (fun d => Dv.bl (intD 1 999 d)) tru (fun R h => h) (by omega) trivial (fun x hx R hR => ?_) ?_
      · exact ⟨x, rfl, ok.mem hx, hR⟩
      · rw [bools_map]
        refine ⟨_, rfl, ?_⟩
        have ea : (xs.map (intD 1 999)).all id = xs.all (intD 1 999) := by rw [List.all_map]; rfl
        show (if ((xs.map (intD 1 999)).all id) = true then _ else _)
        rw [ea]
        show (if xs.all (intD 1 999) = true then _ else _)
        refine iteB (fun h => ?_) (fun h => q_of q (by rw [e, h, Bool.false_and, Bool.and_false]))
        have hb : xs = (xs.map intOf).map .int := ints_back (by
          rw [List.all_eq_true] at h ⊢
          intro x hx
          have := h x hx
          cases x with
          | int i => rfl
          | _ => exact absurd this Bool.false_ne_true)
        refine ⟨xs.map intOf, by rw [← hb], by rw [List.length_map]; omega, fun m hm => ?_⟩
        show R (.bl (decide ((m : Int) = (xs.length : Nat)))) M
        refine q_of q ?_
        rw [e, c1, h, Bool.true_and, Bool.true_and]
        rw [List.length_map] at hm
        exact decide_eq_decide.mpr (by rw [← hm]; omega)
    · have c1' : manyL xs.length = false := by simpa using c1
      refine iteBT (by rw [c1']; rfl) ?_
      exact q_of q (by rw [e, c1', Bool.false_and])
  | _ => exact q
def F_is_header : DF := fun ds M Q => ∃ d, ds = [d] ∧ knownD M d = true ∧ sizeD d ≤ 100000 ∧ txtD d = true ∧ Q (.bl (plainD 0 d && hdrD d)) M
theorem len_is_header : ∀ ds M R, F_is_header ds M R → ds.length = ["value"].length := by
  rintro _ _ _ ⟨d, rfl, _⟩
  rfl
abbrev s_is_header : Stmt := top 19
theorem sc_is_header : FnScope ["value", "height", "previous", "block", "root", "owners", "numbers", "number"] ["value"] (defScope s_is_header) := ⟨rfl, rfl, rfl, by decide +kernel, rfl, by decide +kernel, by decide +kernel⟩
theorem ok_is_header {f : Addr} {fd : FuncData} (Fn : L2.Fun K "is_header" "is_header" s_is_header f fd) (T : Tx K mg aMANY_PLACES C_Registry C_Pen) (C_is_plain : DCal P w K mg base "is_plain" 3 F_is_plain) (C_are_owners : DCal P w K mg base "are_owners" 3 F_are_owners) (C_is_at_least : DCal P w K mg base "is_at_least" 2 F_is_at_least) : Gk P w K mg base 4 f fd ["value"] (spD K F_is_header) := by
  refine dfun Fn sc_is_header (len_is_header) (fun cd A out s H E hg hr => ⟨_, _, (ss_cons (s_if (t_not (t_val (k_call (K := K) hg C_is_plain hr rfl (a_cons (dv 0) a_nil)))) (ss_one (s_ret d_bl)) ss_nil)
  (ss_one (s_match (dv 0) (cs_seq rfl (ps_lit hr.units (ps_name (ps_name (ps_name (ps_name (ps_name ps0)))))) (b_cons 1 sc_is_header.nd (b_cons 2 sc_is_header.nd (b_cons 3 sc_is_header.nd (b_cons 4 sc_is_header.nd (b_cons 5 sc_is_header.nd b_nil))))) (ss_cons (s_set (i := 6) sc_is_header.nd rfl (Or.inl rfl) (d_tup (a_cons (dv 1) (a_cons (dv 2) (a_cons (dv 3) (a_cons (dv 4) a_nil))))))
  (ss_one (s_ret (d_and (d_cb (k_all (K := K) rfl) (by rfl) T.all (by decide +kernel) (a_cons (d_lc (own := [("number", 7)]) rfl sc_is_header.nd (k_tup_ (K := K) (dv 6)) (blkOk_by (N := ["value", "height", "previous", "block", "root", "owners", "numbers", "number"]) (sc := defScope s_is_header) (by decide +kernel)) (fun _ _ _ _ _ => (g_name 7 sc_is_header.nd)) (fun _ _ _ _ _ => pts_nil) rt_yes (fun _ _ _ _ _ => (k_call (K := K) hg C_is_at_least hr rfl (a_cons (dv 7) (a_cons d_int a_nil))))) a_nil)) (d_one (k_call (K := K) hg C_are_owners hr rfl (a_cons (dv 5) a_nil)))))))
  (cs_any (ss_one (s_ret d_bl))))))), ?_⟩)
  rintro ds M R ⟨d, rfl, kn, sd, tx, q⟩
  refine ⟨d, rfl, kn, sd, ?_⟩
  show (if (!plainD 0 d) = true then _ else _)
  cases ep : plainD 0 d with
  | false => exact q_of q (by rw [ep, Bool.false_and])
  | true =>
    obtain ⟨p1, p2⟩ := plain_pln d 0 ep tx (by decide)
    have ok : OkF d := ⟨p1, by omega⟩
    rw [ep] at q
    have q : R (.bl (hdrD d)) M := q
    have sz : (sizeLine : Nat) = 16777216 := by decide +kernel
    refine case_word (s := "header") 5 ok (fun ds e hl => ?_) (fun m => ?_)
    · obtain ⟨h, p, b, r, o, rfl⟩ := len5 hl
      subst e
      have oh : OkF h := ok.mem (by simp)
      have op : OkF p := ok.mem (by simp)
      have ob : OkF b := ok.mem (by simp)
      have or_ : OkF r := ok.mem (by simp)
      have oo : OkF o := ok.mem (by simp)
      show dLc _ _ dYes _ _ _ _ _
      refine dLc_map [h, p, b, r] (fun d => Dv.bl (atleastV 0 d)) tru (fun R h => h) (by show 4 ≤ sizeLine; omega) trivial (fun x hx R hR => ?_) ?_
      · refine ⟨x, 0, rfl, ?_, hR⟩
        simp only [List.mem_cons, List.not_mem_nil, or_false] at hx
        rcases hx with rfl | rfl | rfl | rfl
        · exact oh
        · exact op
        · exact ob
        · exact or_
      · rw [bools_map]
        refine ⟨_, rfl, ?_⟩
        have ea : ([h, p, b, r].map (atleastV 0)).all id = (atleastV 0 h && (atleastV 0 p && (atleastV 0 b && atleastV 0 r))) := by simp
        have ev : hdrD (.tup [.str "header", h, p, b, r, o]) = ((atleastV 0 h && (atleastV 0 p && (atleastV 0 b && atleastV 0 r))) && ownersD o) := by simp [hdrD]
        rw [ev] at q
        show (if ([h, p, b, r].map (atleastV 0)).all id = true then _ else _)
        rw [ea]
        show (if (atleastV 0 h && (atleastV 0 p && (atleastV 0 b && atleastV 0 r))) = true then _ else _)
        refine iteB (fun h1 => ?_) (fun h1 => q_of q (by rw [h1, Bool.false_and]))
        exact ⟨o, rfl, oo, q_of q (by rw [h1, Bool.true_and])⟩
    · show R (.bl false) M
      refine q_of q ?_
      unfold hdrD
      split
      · rename_i t h p b r o hh
        by_cases c : t = "header"
        · exact absurd (by rw [c]) (m [h, p, b, r, o] rfl)
        · rw [decide_eq_false c, Bool.false_and]
      · rfl
end
end Vk
set_option linter.unusedVariables false
set_option linter.unusedSimpArgs false
namespace Vk
open PySem PySem.Spec PyProof.Rows L2

def qn (n : Nat) : Nat := 2 * ((n - 1) / 3) + 1
def inI (os : List Int) : Dv → Bool
  | .int i => decide (i ∈ os)
  | _ => false
def ascL : List Int → List Bool
  | a :: b :: r => decide (a < b) :: ascL (b :: r)
  | _ => []
abbrev ascI (ns : List Int) : Bool := (ascL ns).all id
def signersD (os : List Int) : Dv → Bool
  | .tup ds => decide (qn os.length ≤ ds.length) && (ds.all (inI os) && ascI (ds.map intOf))
  | _ => false
def cforD (os : List Int) : Dv → Bool
  | .tup [.str t, n, s] => decide (t = "certificate") && (atleastV 0 n && signersD os s)
  | _ => false
def pairLt : Dv → Dv
  | .tup [.int a, .int b] => .bl (decide (a < b))
  | _ => .non
theorem zip_asc : ∀ ns : List Int, (zipD (ns.map .int) ((ns.map Dv.int).drop 1)).map pairLt = (ascL ns).map .bl
  | [] => rfl
  | [a] => rfl
  | a :: b :: r => by
    have ih := zip_asc (b :: r)
    simp only [List.map_cons, List.drop_succ_cons, List.drop_zero, zipD, ascL] at ih ⊢
    rw [ih]
    rfl
theorem zip_mem : ∀ {as bs : List Dv} {d : Dv}, d ∈ zipD as bs → ∃ a b, a ∈ as ∧ b ∈ bs ∧ d = .tup [a, b]
  | [], bs, d, h => by simp [zipD] at h
  | a :: as, [], d, h => by simp [zipD] at h
  | a :: as, b :: bs, d, h => by
    rw [zipD] at h
    rcases List.mem_cons.mp h with rfl | h
    · exact ⟨a, b, List.mem_cons_self, List.mem_cons_self, rfl⟩
    · obtain ⟨x, y, h1, h2, h3⟩ := zip_mem h
      exact ⟨x, y, List.mem_cons_of_mem _ h1, List.mem_cons_of_mem _ h2, h3⟩
theorem inI_int {os : List Int} {ds : List Dv} (h : ds.all (inI os) = true) : ds = (ds.map intOf).map .int ∧ ∀ i ∈ ds.map intOf, i ∈ os := by
  have e : ds = (ds.map intOf).map .int := ints_back (by
    rw [List.all_eq_true] at h ⊢
    intro x hx
    have := h x hx
    cases x with
    | int i => rfl
    | _ => exact absurd this Bool.false_ne_true)
  refine ⟨e, fun i hi => ?_⟩
  obtain ⟨x, hx, rfl⟩ := List.mem_map.mp hi
  rw [List.all_eq_true] at h
  have := h x hx
  cases x with
  | int i => exact of_decide_eq_true this
  | _ => exact absurd this Bool.false_ne_true
theorem all_ints {xs : List Dv} (eb : xs = (xs.map intOf).map .int) (g : Dv → Bool) : (xs.map intOf).all (fun o => g (.int o)) = xs.all g := by
  conv => rhs; rw [eb]
  rw [List.all_map (l := xs.map intOf)]
  rfl
theorem Shw.int60 {i : Int} (h : i.natAbs < 10 ^ 60) : Shw 61 0 (.int i) := by
  have hp : (10 : Nat) ^ 60 ≤ 2 ^ 200 := by decide
  refine ⟨?_, ?_, Nat.le_refl _⟩
  · show okD (.int i) = true
    exact int_ok (k := 200) (by omega) (by decide) (by decide)
  · show (intL i).length ≤ 61
    exact intL_len (by decide) h
abbrev bodyD (h n m : Int) : Dv := .tup [.str "precommit", .int h, .int n, .int m]
theorem body_show {o h n m : Int} (ho : o.natAbs < 10 ^ 60) (hh : h.natAbs < 10 ^ 60) (hn : n.natAbs < 10 ^ 60) (hm : m.natAbs < 10 ^ 60) : ShowOk (.tup [.int o, bodyD h n m]) := by
  have gw : Shw 61 0 (.str "precommit") := (Gd.txt (s := "precommit") (by decide +kernel) (by decide +kernel) (by decide +kernel)).s.mono (by decide) (by decide)
  have b1 : Shw 300 1 (bodyD h n m) := Shw.tup (n := 61) (m := 0) (mem4 gw (Shw.int60 hh) (Shw.int60 hn) (Shw.int60 hm)) (by simp) (by decide)
  exact Shw.show_ (n := 1000) (m := 2) (Shw.tup (n := 300) (m := 1) (mem2 ((Shw.int60 ho).mono (by decide) (by decide)) b1) (by simp) (by decide)) (by decide) (by decide)
theorem Named.reg {C_Registry : Addr} {M M' : MH} {p a b c : Addr} {ns ns' ss ps : List (L2.Key × Dv)} {d : Dv} {m : Nat} (r : RegAt C_Registry M p a b c ns ss ps) (h : Named M a ns d m M' ns') : RegAt C_Registry M' p a b c ns' ss ps := by
  rcases h.h with ⟨_, rfl, rfl⟩ | ⟨_, _, rfl, rfl⟩
  · exact r
  · obtain ⟨dx, h1⟩ := r.r
    have pa : p ≠ a := fun z => by subst z; have := r.ra; rw [h1] at this; cases this
    exact ⟨⟨dx, by rw [mup_ne pa]; exact h1⟩, mup_same, by rw [mup_ne (Ne.symm r.ab)]; exact r.rb, by rw [mup_ne (Ne.symm r.ac)]; exact r.rc, r.ab, r.ac, r.bc⟩
theorem Named.le {M M' : MH} {a : Addr} {ns ns' : List (L2.Key × Dv)} {d : Dv} {m : Nat} (nm : NmOk ns) (h : Named M a ns d m M' ns') : m ≤ 10001 := by
  have := nm.l
  rcases h.h with ⟨h, _⟩ | ⟨_, rfl, _⟩
  · obtain ⟨m', e, _, h2⟩ := nm.v _ _ h
    injection e with e
    omega
  · omega
section
variable {P : Program} {w : World} {K : PySem.W.Frag} {mg : Str → Option Value} {base : Heap} {aMANY_PLACES C_Registry C_Pen : Addr}

def F_quorum : DF := fun ds M Q => ∃ xs, ds = [.tup xs] ∧ 1 ≤ xs.length ∧ Q (.int (qn xs.length : Nat)) M
theorem len_quorum : ∀ ds M R, F_quorum ds M R → ds.length = ["owners"].length := by
  rintro _ _ _ ⟨xs, rfl, _⟩
  rfl
abbrev s_quorum : Stmt := top 20
theorem sc_quorum : FnScope ["owners"] ["owners"] (defScope s_quorum) := ⟨rfl, rfl, rfl, by decide +kernel, rfl, by decide +kernel, by decide +kernel⟩
theorem ok_quorum {f : Addr} {fd : FuncData} (Fn : L2.Fun K "quorum" "quorum" s_quorum f fd) (T : Tx K mg aMANY_PLACES C_Registry C_Pen) : Gk P w K mg base 1 f fd ["owners"] (spD K F_quorum) := by
  refine dfun Fn sc_quorum (len_quorum) (fun cd A out s H E hg hr => ⟨_, _, (ss_one (s_ret (d_op (k_add (K := K)) (d_op (k_mul (K := K)) d_int (d_op o_fdiv (d_op o_minus (d_cb (k_len (K := K)) (by rfl) T.len (by decide +kernel) (a_cons (dv 0) a_nil)) d_int) d_int)) d_int))), ?_⟩)
  rintro ds M R ⟨xs, rfl, hl, q⟩
  refine ⟨⟨by decide, by decide⟩, .inl ⟨by decide, by decide⟩, ?_⟩
  have e : (2 * ((((xs.length : Nat) : Int) - 1) / 3) + 1 : Int) = ((qn xs.length : Nat) : Int) := by
    unfold qn
    omega
  rw [← e] at q
  exact q
def F_are_signers : DF := fun ds M Q => ∃ v os, ds = [v, .tup (os.map .int)] ∧ OkF v ∧ sizeD v ≤ 100000 ∧ 1 ≤ os.length ∧ Q (.bl (signersD os v)) M
theorem len_are_signers : ∀ ds M R, F_are_signers ds M R → ds.length = ["value", "owners"].length := by
  rintro _ _ _ ⟨v, os, rfl, _⟩
  rfl
abbrev s_are_signers : Stmt := top 22
theorem sc_are_signers : FnScope ["value", "owners", "owner", "one", "other"] ["value", "owners"] (defScope s_are_signers) := ⟨rfl, rfl, rfl, by decide +kernel, rfl, by decide +kernel, by decide +kernel⟩
theorem ok_are_signers {f : Addr} {fd : FuncData} (Fn : L2.Fun K "_are_signers" "_are_signers" s_are_signers f fd) (T : Tx K mg aMANY_PLACES C_Registry C_Pen) (C_quorum : DCal P w K mg base "quorum" 1 F_quorum) (C_is_integer : DCal P w K mg base "is_integer" 1 F_is_integer) : Gk P w K mg base 2 f fd ["value", "owners"] (spD K F_are_signers) := by
  refine dfun Fn sc_are_signers (len_are_signers) (fun cd A out s H E hg hr => ⟨_, _, (ss_cons (s_if (Tw.ts (w_or (t_not (t_val (d_cb (k_isi (K := K)) (by rfl) T.isinstance (by decide +kernel) (a_cons (dv 0) (a_cons (d_tyname (n := "tuple") (by rfl) T.tuple (by decide +kernel)) a_nil))))) (w_or1 (t_cmp o_lt (d_cb (k_len (K := K)) (by rfl) T.len (by decide +kernel) (a_cons (dv 0) a_nil)) (k_call (K := K) hg C_quorum hr rfl (a_cons (dv 1) a_nil)) (nomark _))))) (ss_one (s_ret d_bl)) ss_nil)
  (ss_cons (s_if (t_not (t_val (d_cb (k_all (K := K) rfl) (by rfl) T.all (by decide +kernel) (a_cons (d_lc (own := [("owner", 2)]) rfl sc_are_signers.nd (k_tup_ (K := K) (dv 0)) (blkOk_by (N := ["value", "owners", "owner", "one", "other"]) (sc := defScope s_are_signers) (by decide +kernel)) (fun _ _ _ _ _ => (g_name 2 sc_are_signers.nd)) (fun _ _ _ _ _ => pts_nil) rt_yes (fun _ _ _ _ _ => (d_and (k_call (K := K) hg C_is_integer hr rfl (a_cons (dv 2) a_nil)) (d_one (d_cmp (k_in (K := K) (units5 hr)) (dv 2) (dv 1) (by rfl)))))) a_nil)))) (ss_one (s_ret d_bl)) ss_nil)
  (ss_one (s_ret (d_cb (k_all (K := K) rfl) (by rfl) T.all (by decide +kernel) (a_cons (d_lc (own := [("one", 3), ("other", 4)]) rfl sc_are_signers.nd (w_zip (K := K) (by rfl) T.zip (a_cons (dv 0) (a_cons (k_slice (K := K) (dv 0) (p_some d_int) p_none) a_nil))) (blkOk_by (N := ["value", "owners", "owner", "one", "other"]) (sc := defScope s_are_signers) (by decide +kernel)) (fun _ _ _ _ _ => (kg_tup (K := K) (n := 2) rfl (gs_cons (g_name 3 sc_are_signers.nd) (gs_cons (g_name 4 sc_are_signers.nd) gs_nil)))) (fun _ _ _ _ _ => pts_nil) rt_yes (fun _ _ _ _ _ => (d_cmp o_lt (dv 3) (dv 4) (nomark _)))) a_nil)))))), ?_⟩)
  rintro ds M R ⟨d, os, rfl, ok, sd, ol, q⟩
  obtain ⟨n, e1, e2, e3, e4, e5⟩ := ok.ty_ M
  have sz : (sizeLine : Nat) = 16777216 := by decide +kernel
  refine ⟨by decide, ?_⟩
  rw [e1]
  show (if (!kitv n "tuple") = true then _ else _)
  rw [e5]
  cases d with
  | tup xs =>
    have e : signersD os (.tup xs) = (decide (qn os.length ≤ xs.length) && (xs.all (inI os) && ascI (xs.map intOf))) := rfl
    have ls := len_size xs
    rw [sizeD_tup] at sd
    refine ⟨os.map .int, rfl, by rw [List.length_map]; exact ol, ?_⟩
    rw [List.length_map]
    show (if decide (((xs.length : Nat) : Int) < (qn os.length : Nat)) = true then _ else _)
    by_cases c1 : qn os.length ≤ xs.length
    · refine iteBF (decide_eq_false (by omega)) ?_
      show dLc _ _ dYes _ _ _ _ _
      refine dLc_map xs (fun d => Dv.bl (inI os d)) tru (fun R h => h) (by omega) trivial (fun x hx R hR => ?_) ?_
      · have ox : OkF x := ok.mem hx
        obtain ⟨n, f1, f2, f3, f4, f5⟩ := ox.ty_ M
        refine ⟨x, n, rfl, f1, f2, ?_⟩
        show (if decide (n = "int") = true then _ else _)
        rw [f3]
        cases x with
        | int i => exact int_in (ns := os) rfl hR
        | _ => exact hR
      · rw [bools_map]
        refine ⟨_, rfl, ?_⟩
        have ea : (xs.map (inI os)).all id = xs.all (inI os) := by rw [List.all_map]; rfl
        show (if (!(xs.map (inI os)).all id) = true then _ else _)
        rw [ea]
        refine iteB (fun h => ?_) (fun h => ?_)
        · have h' : xs.all (inI os) = false := by simpa using h
          exact q_of q (by rw [e, h', Bool.false_and, Bool.and_false])
        · have h' : xs.all (inI os) = true := by simpa using h
          obtain ⟨eb, _⟩ := inI_int h'
          have ec : cutD xs (some 1) none = xs.drop 1 := cut_from 1
          show dLc _ _ dYes _ _ _ _ _
          refine dLc_map (zipD xs (cutD xs (some 1) none)) pairLt tru (fun R h => h) ?_ trivial (fun x hx R hR => ?_) ?_
          · rw [zipD_len]
            omega
          · obtain ⟨a, b, ha, hb, rfl⟩ := zip_mem hx
            have hb : b ∈ xs := by rw [ec] at hb; exact List.mem_of_mem_drop hb
            rw [eb] at ha hb
            obtain ⟨i, _, rfl⟩ := List.mem_map.mp ha
            obtain ⟨j, _, rfl⟩ := List.mem_map.mp hb
            exact ⟨rfl, hR⟩
          · rw [ec]
            have ez : (zipD xs (xs.drop 1)).map pairLt = (ascL (xs.map intOf)).map .bl := by
              have z := zip_asc (xs.map intOf)
              rw [← eb] at z
              exact z
            rw [ez]
            refine ⟨_, rfl, q_of q ?_⟩
            rw [e, decide_eq_true c1, h', Bool.true_and, Bool.true_and]
    · refine iteBT (decide_eq_true (by omega)) ?_
      exact q_of q (by rw [e, decide_eq_false c1, Bool.false_and])
  | _ => exact q
@[irreducible] def F_is_certificate (C_Registry C_Pen : Addr) : DF := fun ds M Q => ∃ p a b c ns ss ps d x h rest os, ds = [.ref p, d, .tup (x :: .int h :: rest), .tup (os.map .int)] ∧ RegAt C_Registry M p a b c ns ss ps ∧ NmOk ns ∧ ShowOk (.tup (x :: .int h :: rest)) ∧
  h.natAbs < 10 ^ 60 ∧ (∀ o : Int, o ∈ os → o.natAbs < 10 ^ 60) ∧ 1 ≤ os.length ∧ knownD M d = true ∧ sizeD d ≤ 100000 ∧ txtD d = true ∧ ((plainD 0 d && cforD os d) = false → Q (.bl false) M) ∧
  (∀ n (sg : List Int) m M' ns', d = .tup [.str "certificate", .int n, .tup (sg.map .int)] → (plainD 0 d && cforD os d) = true → Named M a ns (.tup (x :: .int h :: rest)) m M' ns' → Q (.bl (sg.all fun o => sealedD ss (.int o) (bodyD h n (m : Nat)))) M')
theorem len_is_certificate : ∀ ds M R, F_is_certificate C_Registry C_Pen ds M R → ds.length = ["registry", "value", "header", "owners"].length := by
  intro ds M R h
  unfold F_is_certificate at h
  obtain ⟨p, a, b, c, ns, ss, ps, d, x, h, rest, os, rfl, _⟩ := h
  rfl
abbrev s_is_certificate : Stmt := top 21
theorem sc_is_certificate : FnScope ["registry", "value", "header", "owners", "number", "signers", "body", "owner"] ["registry", "value", "header", "owners"] (defScope s_is_certificate) := ⟨rfl, rfl, rfl, by decide +kernel, rfl, by decide +kernel, by decide +kernel⟩
theorem ok_is_certificate {f : Addr} {fd : FuncData} (Fn : L2.Fun K "is_certificate" "is_certificate" s_is_certificate f fd) (T : Tx K mg aMANY_PLACES C_Registry C_Pen) (C_is_plain : DCal P w K mg base "is_plain" 3 F_is_plain) (C_is_at_least : DCal P w K mg base "is_at_least" 2 F_is_at_least) (C_are_signers : DCal P w K mg base "_are_signers" 2 F_are_signers) (M_Registry_name : DMeth P w K mg base C_Registry "name" 2 (F_Registry_name C_Registry C_Pen)) (M_Registry_is_sealed : DMeth P w K mg base C_Registry "is_sealed" 2 (F_Registry_is_sealed C_Registry C_Pen)) : Gk P w K mg base 4 f fd ["registry", "value", "header", "owners"] (spD K (F_is_certificate C_Registry C_Pen)) := by
  refine dfun Fn sc_is_certificate (len_is_certificate) (fun cd A out s H E hg hr => ⟨_, _, (ss_cons (s_if (t_not (t_val (k_call (K := K) hg C_is_plain hr rfl (a_cons (dv 1) a_nil)))) (ss_one (s_ret d_bl)) ss_nil)
  (ss_one (s_match (dv 1) (cs_seq rfl (ps_lit hr.units (ps_name (ps_name ps0))) (b_cons 4 sc_is_certificate.nd (b_cons 5 sc_is_certificate.nd b_nil)) (ss_cons (s_if (Tw.ts (w_or (t_not (t_val (k_call (K := K) hg C_is_at_least hr rfl (a_cons (dv 4) (a_cons d_int a_nil))))) (w_or1 (t_not (t_val (k_call (K := K) hg C_are_signers hr rfl (a_cons (dv 5) (a_cons (dv 3) a_nil)))))))) (ss_one (s_ret d_bl)) ss_nil)
  (ss_cons (s_set (i := 6) sc_is_certificate.nd rfl (Or.inr rfl) (d_tup (a_cons d_str (a_cons (k_ix (K := K) (dv 2) d_int) (a_cons (dv 4) (a_cons (d_meth (K := K) hg M_Registry_name hr (dv 0) (a_cons (dv 2) a_nil)) a_nil))))))
  (ss_one (s_ret (d_cb (k_all (K := K) rfl) (by rfl) T.all (by decide +kernel) (a_cons (d_lc (own := [("owner", 7)]) rfl sc_is_certificate.nd (k_tup_ (K := K) (dv 5)) (blkOk_by (N := ["registry", "value", "header", "owners", "number", "signers", "body", "owner"]) (sc := defScope s_is_certificate) (by decide +kernel)) (fun _ _ _ _ _ => (g_name 7 sc_is_certificate.nd)) (fun _ _ _ _ _ => pts_nil) rt_yes (fun _ _ _ _ _ => (d_meth (K := K) hg M_Registry_is_sealed hr (dv 0) (a_cons (dv 7) (a_cons (dv 6) a_nil))))) a_nil))))))
  (cs_any (ss_one (s_ret d_bl))))))), ?_⟩)
  intro ds M R hF
  unfold F_is_certificate at hF
  obtain ⟨p, a, b, c, ns, ss, ps, d, x, h, rest, os, rfl, rg, nm, sh, hh, ho, ol, kn, sd, tx, qf, qt⟩ := hF
  obtain ⟨dx, hp⟩ := rg.r
  refine ⟨d, rfl, kn, sd, ?_⟩
  show (if (!plainD 0 d) = true then _ else _)
  cases ep : plainD 0 d with
  | false => exact qf (by rw [ep, Bool.false_and])
  | true =>
    obtain ⟨p1, p2⟩ := plain_pln d 0 ep tx (by decide)
    have ok : OkF d := ⟨p1, by omega⟩
    rw [ep] at qf
    have qf : cforD os d = false → R (.bl false) M := qf
    have sz : (sizeLine : Nat) = 16777216 := by decide +kernel
    refine case_word (s := "certificate") 2 ok (fun ds e hl => ?_) (fun m => ?_)
    · obtain ⟨n, s, rfl⟩ := len2 hl
      subst e
      have on : OkF n := ok.mem (by simp)
      have os_ : OkF s := ok.mem (by simp)
      have ev : cforD os (.tup [.str "certificate", n, s]) = (atleastV 0 n && signersD os s) := by simp [cforD]
      rw [ev] at qf
      have ss_ : sizeD s ≤ 100000 := by
        simp only [sizeD_tup, List.map_cons, List.map_nil, List.sum_cons, List.sum_nil] at sd
        omega
      refine ⟨n, 0, rfl, on, ?_⟩
      show (if (!atleastV 0 n) = true then _ else _)
      refine iteB (fun h1 => ?_) (fun h1 => ?_)
      · have h1' : atleastV 0 n = false := by simpa using h1
        exact qf (by rw [h1', Bool.false_and])
      · have h1' : atleastV 0 n = true := by simpa using h1
        refine ⟨s, os, rfl, os_, ss_, ol, ?_⟩
        show (if (!signersD os s) = true then _ else _)
        refine iteB (fun h2 => ?_) (fun h2 => ?_)
        · have h2' : signersD os s = false := by simpa using h2
          exact qf (by rw [h2', Bool.and_false])
        · have h2' : signersD os s = true := by simpa using h2
          obtain ⟨i, rfl⟩ : ∃ i, n = .int i := by
            cases n with
            | int i => exact ⟨i, rfl⟩
            | _ => exact absurd h1' Bool.false_ne_true
          obtain ⟨xs, rfl⟩ : ∃ xs, s = .tup xs := by
            cases s with
            | tup xs => exact ⟨xs, rfl⟩
            | _ => exact absurd h2' Bool.false_ne_true
          have h3 := h2'
          simp only [signersD, Bool.and_eq_true] at h3
          obtain ⟨eb, hb⟩ := inI_int h3.2.1
          have ni : i.natAbs < 10 ^ 60 := by
            have z := on.p
            simp only [pln, atomD, Bool.and_eq_true] at z
            have z1 := of_decide_eq_true z.1
            have z2 := of_decide_eq_true z.2
            omega
          have xl : xs.length ≤ 100000 := by
            rw [sizeD_tup] at ss_
            have := len_size xs
            omega
          have ei : atI (x :: .int h :: rest) 1 = some (.int h) := atI_nat (j := 1) rfl
          show (match atI (x :: .int h :: rest) 1 with | some d => _ | none => False)
          rw [ei]
          show (match M p with | some (.ins C' _ fs) => _ | _ => False)
          rw [hp]
          refine ⟨⟨rfl, rfl⟩, p, a, b, c, ns, ss, ps, _, rfl, rg, nm, sh, fun m M' ns' hn => ?_⟩
          have rg' := hn.reg rg
          obtain ⟨dx', hp'⟩ := rg'.r
          have ml := hn.le nm
          show dLc _ _ dYes _ _ _ _ _
          refine dLc_map xs (fun o => Dv.bl (sealedD ss o (bodyD h i (m : Nat)))) tru (fun R h => h) (by omega) trivial (fun x hx R hR => ?_) ?_
          · have hx' := hx
            rw [eb] at hx'
            obtain ⟨o, hm, rfl⟩ := List.mem_map.mp hx'
            show (match M' p with | some (.ins C' _ fs) => _ | _ => False)
            rw [hp']
            exact ⟨⟨rfl, rfl⟩, p, a, b, c, ns', ss, ps, .int o, _, rfl, rg', body_show (ho o (hb o hm)) hh ni (by omega), hR⟩
          · rw [bools_map]
            refine ⟨_, rfl, ?_⟩
            have q := qt i (xs.map intOf) m M' ns' (by rw [← eb]) (by rw [ep, ev, h1', h2']; rfl) hn
            refine q_of q ?_
            rw [all_ints eb (fun o => sealedD ss o (bodyD h i (m : Nat)))]
            show _ = (xs.map fun o => sealedD ss o (bodyD h i (m : Nat))).all id
            rw [List.all_map]
            rfl
    · show R (.bl false) M
      refine qf ?_
      unfold cforD
      split
      · rename_i t n s hh
        by_cases c : t = "certificate"
        · exact absurd (by rw [c]) (m [n, s] rfl)
        · rw [decide_eq_false c, Bool.false_and]
      · rfl
end
end Vk
set_option linter.unusedVariables false
set_option linter.unusedSimpArgs false
namespace Vk
open PySem PySem.Spec PyProof.Rows L2

abbrev B60 (i : Int) : Prop := i.natAbs < 10 ^ 60
theorem mup_self {M : MH} {q : Addr} {o : MO} (h : M q = some o) : mup M q o = M := by
  funext u
  by_cases c : u = q
  · subst c; rw [mup_same, h]
  · rw [mup_ne c]
structure OwOk (os : List Int) : Prop where
  l : manyL os.length = true
  b : ∀ o ∈ os, 1 ≤ o ∧ o ≤ 999
  d : os.Nodup
theorem OwOk.len {os : List Int} (h : OwOk os) : os.length = 4 ∨ os.length = 7 ∨ os.length = 10 := by
  have := h.l
  unfold manyL at this
  simpa using this
theorem OwOk.perm {os os' : List Int} (h : OwOk os) (p : os'.Perm os) : OwOk os' := ⟨by rw [p.length_eq]; exact h.l, fun o ho => h.b o (p.mem_iff.mp ho), p.nodup_iff.mpr h.d⟩
theorem cut_tail {α : Type} (os : List α) (k : Nat) : (os.drop k ++ (os.take k).reverse).Perm os :=
  ((List.Perm.append_left _ (List.reverse_perm _)).trans List.perm_append_comm).trans (List.Perm.of_eq (List.take_append_drop k os))
/-- owners as they are drawn -/
structure OwS (os : List Int) : Prop where
  k : OwOk os
  t : ∀ o ∈ os, o ≤ 981
theorem OwS.perm {os os' : List Int} (h : OwS os) (p : os'.Perm os) : OwS os' := ⟨h.k.perm p, fun o ho => h.t o (p.mem_iff.mp ho)⟩
abbrev hdrL (h p b r : Int) (os : List Int) : List Dv := [.str "header", .int h, .int p, .int b, .int r, .tup (os.map .int)]
abbrev hdrV (h p b r : Int) (os : List Int) : Dv := .tup (hdrL h p b r os)
structure HdOk (h p b r : Int) (os : List Int) : Prop where
  h : 1 ≤ h ∧ h ≤ 1000
  p : 0 ≤ p ∧ p < 1000
  b : 0 ≤ b ∧ b < 1000
  r : 0 ≤ r ∧ r ≤ 1000
  o : OwOk os
theorem known_ints (M : MH) : ∀ ns : List Int, knownDs M (ns.map .int) = true
  | [] => rfl
  | n :: r => by rw [List.map_cons, knownDs, known_ints M r]; rfl
theorem txt_ints : ∀ ns : List Int, txtDs (ns.map .int) = true
  | [] => rfl
  | n :: r => by rw [List.map_cons, txtDs, txt_ints r]; rfl
theorem size_ints : ∀ ns : List Int, sizeDs (ns.map .int) = ns.length
  | [] => rfl
  | n :: r => by rw [List.map_cons, sizeDs, size_ints r, List.length_cons]; simp only [sizeD]; omega
theorem int_of_map (ns : List Int) : (ns.map Dv.int).map intOf = ns := by
  rw [List.map_map]
  exact (List.map_congr_left fun _ _ => rfl).trans (List.map_id ns)
/-- a value that is asked about, of few parts -/
structure Sm_ (n : Nat) (d : Dv) : Prop where
  k : ∀ M, knownD M d = true
  z : sizeD d ≤ n
  t : txtD d = true
theorem Sm_.mono {n m : Nat} {d : Dv} (h : Sm_ n d) (l : n ≤ m) : Sm_ m d := ⟨h.k, Nat.le_trans h.z l, h.t⟩
theorem Sm_.tup {n m : Nat} : ∀ {ds : List Dv}, (∀ d ∈ ds, Sm_ n d) → ds.length * n + 1 ≤ m → Sm_ m (.tup ds)
  | ds, h, l => by
    have a : ∀ M, knownDs M ds = true := fun M => by rw [knownDs_all, List.all_eq_true]; exact fun d hd => (h d hd).k M
    have b : sizeDs ds ≤ ds.length * n := by
      clear l a
      induction ds with
      | nil => exact Nat.zero_le _
      | cons x r ih =>
        have := (h x List.mem_cons_self).z
        have := ih fun d hd => h d (List.mem_cons_of_mem _ hd)
        simp only [sizeDs, List.length_cons, Nat.succ_mul]
        omega
    have c : txtDs ds = true := by
      clear l a b
      induction ds with
      | nil => rfl
      | cons x r ih => rw [txtDs, (h x List.mem_cons_self).t, ih fun d hd => h d (List.mem_cons_of_mem _ hd)]; rfl
    exact ⟨fun M => by rw [knownD]; exact a M, by rw [sizeD]; omega, by rw [txtD]; exact c⟩
theorem Sm_.int (i : Int) : Sm_ 20 (.int i) := ⟨fun _ => rfl, by show 1 ≤ 20; decide, rfl⟩
theorem Sm_.bl (b : Bool) : Sm_ 20 (.bl b) := ⟨fun _ => rfl, by show 1 ≤ 20; decide, rfl⟩
theorem Sm_.non : Sm_ 20 .non := ⟨fun _ => rfl, by show 1 ≤ 20; decide, rfl⟩
theorem Sm_.str {s : Str} (h : txtD (.str s) = true) : Sm_ 20 (.str s) := ⟨fun _ => rfl, by show 1 ≤ 20; decide, h⟩
theorem Sm_.lst (ds : List Dv) : Sm_ 20 (.lst ds) := ⟨fun _ => rfl, by show 1 ≤ 20; decide, rfl⟩
theorem Sm_.ints {ns : List Int} (h : ns.length ≤ 19) : Sm_ 20 (.tup (ns.map .int)) := ⟨fun M => by rw [knownD]; exact known_ints M ns, by rw [sizeD, size_ints]; omega, by rw [txtD]; exact txt_ints ns⟩
theorem Sm_.set {n : Nat} {ds : List Dv} (h : ∀ d ∈ ds, Sm_ n d) {i : Nat} {x : Dv} (hx : Sm_ n x) : ∀ d ∈ ds.set i x, Sm_ n d := fun d hd => by
  rcases List.mem_or_eq_of_mem_set hd with h1 | rfl
  · exact h d h1
  · exact hx
theorem hdr_sm {h p b r : Int} {os : List Int} (ho : OwOk os) : ∀ d ∈ hdrL h p b r os, Sm_ 20 d := fun d hd => by
  simp only [hdrL, List.mem_cons, List.not_mem_nil, or_false] at hd
  rcases hd with rfl | rfl | rfl | rfl | rfl | rfl
  · exact Sm_.str (by decide +kernel)
  · exact Sm_.int _
  · exact Sm_.int _
  · exact Sm_.int _
  · exact Sm_.int _
  · exact Sm_.ints (by have := ho.len; omega)
/-- what is no header -/
structure NoH (d : Dv) : Prop where
  s : Sm_ 1000 d
  n : hdrD d = false
/-- what stands in a header at no place -/
structure BadP (x : Dv) : Prop where
  s : Sm_ 20 x
  h : ∀ t, x = .str t → t ≠ "header"
  n : atleastV 0 x = false
  o : ownersD x = false
theorem bad_parts : ∀ x ∈ [Dv.non, .str "x", .int (-1), .bl true, .tup [], .lst [.int 1]], BadP x := fun x hx => by
  simp only [List.mem_cons, List.not_mem_nil, or_false] at hx
  rcases hx with rfl | rfl | rfl | rfl | rfl | rfl
  · exact ⟨Sm_.non, (fun _ z => by cases z), rfl, rfl⟩
  · exact ⟨Sm_.str (by decide +kernel), (fun t z => by injection z with z; subst z; decide +kernel), rfl, rfl⟩
  · exact ⟨Sm_.int _, (fun _ z => by cases z), rfl, rfl⟩
  · exact ⟨Sm_.bl _, (fun _ z => by cases z), rfl, rfl⟩
  · exact ⟨Sm_.ints (ns := []) (by decide), (fun _ z => by cases z), rfl, rfl⟩
  · exact ⟨Sm_.lst _, (fun _ z => by cases z), rfl, rfl⟩
theorem bad_set {h p b r : Int} {os : List Int} (ho : OwOk os) {i : Nat} (hi : i < 6) {x : Dv} (bx : BadP x) : NoH (.tup ((hdrL h p b r os).set i x)) := by
  refine ⟨(Sm_.tup (n := 20) (m := 1000) (Sm_.set (hdr_sm ho) bx.s) (by rw [List.length_set]; show 6 * 20 + 1 ≤ 1000; decide)), ?_⟩
  match i, hi with
  | 0, _ =>
    show hdrD (.tup [x, _, _, _, _, _]) = false
    unfold hdrD
    split
    · rename_i e
      injection e with e
      injection e with e1 e2
      rw [decide_eq_false (bx.h _ e1), Bool.false_and]
    · rfl
  | 1, _ => show hdrD (.tup [_, x, _, _, _, _]) = false; simp [hdrD, bx.n]
  | 2, _ => show hdrD (.tup [_, _, x, _, _, _]) = false; simp [hdrD, bx.n]
  | 3, _ => show hdrD (.tup [_, _, _, x, _, _]) = false; simp [hdrD, bx.n]
  | 4, _ => show hdrD (.tup [_, _, _, _, x, _]) = false; simp [hdrD, bx.n]
  | 5, _ => show hdrD (.tup [_, _, _, _, _, x]) = false; simp [hdrD, bx.o]
theorem bad_own {h p b r : Int} {os : List Int} (ho : OwOk os) {x : Dv} (sx : Sm_ 300 x) (ox : ownersD x = false) : NoH (.tup ((hdrL h p b r os).set 5 x)) := by
  refine ⟨⟨(Sm_.tup (n := 300) (m := 10000) (Sm_.set (i := 5) (fun d hd => (hdr_sm ho d hd).mono (by decide)) sx) (by rw [List.length_set]; show 6 * 300 + 1 ≤ 10000; decide)).k, ?_, ?_⟩, ?_⟩
  · show sizeD (.tup [_, _, _, _, _, x]) ≤ 1000
    have := sx.z
    simp only [sizeD, sizeDs]
    omega
  · show txtD (.tup [_, _, _, _, _, x]) = true
    simp only [txtD, txtDs, sx.t, Bool.and_true, Bool.true_and]
    decide +kernel
  · show hdrD (.tup [_, _, _, _, _, x]) = false
    simp [hdrD, ox]
theorem many_no {ds : List Dv} (h : manyL ds.length = false) : ownersD (.tup ds) = false := by
  show (manyL ds.length && _) = false
  rw [h, Bool.false_and]
/-- owners with one that is none -/
theorem own_set {os : List Int} (ho : OwOk os) {j : Nat} (hj : j < os.length) {x : Dv} (hx : intD 1 999 x = false ∨ ∃ k, k < os.length ∧ k ≠ j ∧ os[k]?.map Dv.int = some x) : ownersD (.tup ((os.map Dv.int).set j x)) = false := by
  show (manyL _ && (((os.map Dv.int).set j x).all (intD 1 999) && decide _)) = false
  rcases hx with hx | ⟨k, hk, kj, ek⟩
  · have : ((os.map Dv.int).set j x).all (intD 1 999) = false := by
      rw [List.all_eq_false]
      exact ⟨x, List.mem_set (by rw [List.length_map]; exact hj) _, by rw [hx]; decide⟩
    rw [this, Bool.false_and, Bool.and_false]
  · rw [List.getElem?_eq_getElem hk] at ek
    injection ek with ek
    subst ek
    have e : (((os.map Dv.int).set j (.int os[k])).map intOf) = os.set j os[k] := by
      rw [List.map_set, int_of_map]
      rfl
    rw [e]
    have nd : ¬ (os.set j os[k]).Nodup := fun z => by
      have l1 : k < (os.set j os[k]).length := by rw [List.length_set]; exact hk
      have l2 : j < (os.set j os[k]).length := by rw [List.length_set]; exact hj
      have a := List.pairwise_iff_getElem.mp z
      have g1 : (os.set j os[k])[k] = os[k] := List.getElem_set_ne (Ne.symm kj) _
      have g2 : (os.set j os[k])[j] = os[k] := List.getElem_set_self _
      rcases Nat.lt_or_ge k j with c | c
      · exact a k j l1 l2 c (g1.trans g2.symm)
      · exact a j k l2 l1 (by omega) (g2.trans g1.symm)
    rw [decide_eq_false nd, Bool.and_false, Bool.and_false]
section
variable {P : Program} {w : World} {K : PySem.W.Frag} {mg : Str → Option Value} {base : Heap} {aMANY_PLACES C_Registry C_Pen : Addr}

def F_owners : DF := fun ds M Q => ∃ q xs, ds = [.ref q] ∧ M q = some (.lst xs) ∧ StOk xs ∧ ∀ os xs', OwS os → StOk xs' → Q (.tup (os.map .int)) (mup M q (.lst xs'))
theorem len_owners : ∀ ds M R, F_owners ds M R → ds.length = ["state"].length := by
  rintro _ _ _ ⟨q, xs, rfl, _⟩
  rfl
abbrev s_owners : Stmt := top 29
theorem sc_owners : FnScope ["state", "count", "start", "step", "owners", "place", "turn"] ["state"] (defScope s_owners) := ⟨rfl, rfl, rfl, by decide +kernel, rfl, by decide +kernel, by decide +kernel⟩
theorem ok_owners {f : Addr} {fd : FuncData} (Fn : L2.Fun K "_law_owners" "_law_owners" s_owners f fd) (T : Tx K mg aMANY_PLACES C_Registry C_Pen) (C_next : DCal P w K mg base "_law_next" 1 F_next) : Gk P w K mg base 2 f fd ["state"] (spD K F_owners) := by
  refine dfun Fn sc_owners (len_owners) (fun cd A out s H E hg hr => ⟨_, _, (ss_cons (s_set (i := 1) sc_owners.nd rfl (Or.inl rfl) (k_ix (K := K) (d_lst (a_cons d_int (a_cons d_int (a_cons d_int (a_cons d_int a_nil))))) (k_call (K := K) hg C_next hr rfl (a_cons (dv 0) (a_cons d_int a_nil)))))
  (ss_cons (s_set (i := 2) sc_owners.nd rfl (Or.inr rfl) (d_op (k_add (K := K)) d_int (k_call (K := K) hg C_next hr rfl (a_cons (dv 0) (a_cons d_int a_nil)))))
  (ss_cons (s_set (i := 3) sc_owners.nd rfl (Or.inr rfl) (d_op (k_add (K := K)) d_int (k_call (K := K) hg C_next hr rfl (a_cons (dv 0) (a_cons d_int a_nil)))))
  (ss_cons (s_setLc (i := 4) (own := [("place", 5)]) rfl sc_owners.nd rfl rfl (sw_true rfl rfl rfl (by decide +kernel)) (w_range1 rfl T.range (a_cons (dv 1) a_nil)) (blkOk_by (N := ["state", "count", "start", "step", "owners", "place", "turn"]) (sc := defScope s_owners) (by decide +kernel)) (fun _ _ _ _ _ => (g_name 5 sc_owners.nd)) (fun _ _ _ _ _ => pts_nil) rt_yes (fun _ _ _ _ _ => (d_op (k_add (K := K)) (dv 2) (d_op (k_mul (K := K)) (dv 3) (dv 5)))))
  (ss_cons (s_for PassesOwn.never rfl (w_range1 rfl T.range (a_cons d_int a_nil)) (g_name 6 sc_owners.nd)
  (ss_cons (s_set (i := 5) sc_owners.nd rfl (Or.inl rfl) (k_call (K := K) hg C_next hr rfl (a_cons (dv 0) (a_cons (dv 1) a_nil))))
  (ss_one (s_set (i := 4) sc_owners.nd rfl (Or.inl rfl) (d_op o_addL (k_slice (K := K) (dv 4) (p_some (dv 5)) p_none) (d_rev (K := K) (k_slice (K := K) (dv 4) p_none (p_some (dv 5)))))))))
  (ss_one (s_ret (d_cty (k_tuple (K := K)) (by rfl) T.tuple (by decide +kernel) (a_cons (dv 4) a_nil))))))))), ?_⟩)
  rintro ds M R ⟨q, xs, rfl, hq, st, k⟩
  have sz : (sizeLine : Nat) = 16777216 := by decide +kernel
  refine ⟨q, 4, xs, rfl, hq, st, by decide, by decide, fun v0 xs0 v00 v01 st0 => ?_⟩
  obtain ⟨c, ec, hc⟩ : ∃ c : Nat, atI [Dv.int 4, .int 4, .int 7, .int 10] v0 = some (.int (c : Int)) ∧ manyL c = true := by
    rcases (show v0 = 0 ∨ v0 = 1 ∨ v0 = 2 ∨ v0 = 3 by omega) with rfl | rfl | rfl | rfl
    · exact ⟨4, rfl, rfl⟩
    · exact ⟨4, rfl, rfl⟩
    · exact ⟨7, rfl, rfl⟩
    · exact ⟨10, rfl, rfl⟩
  have hc' : c = 4 ∨ c = 7 ∨ c = 10 := by
    unfold manyL at hc
    simpa using hc
  refine at_go ec _ ?_
  refine ⟨q, 900, xs0, rfl, mup_same, st0, by decide, by decide, fun v1 xs1 v10 v11 st1 => ?_⟩
  rw [mup_mup]
  refine ⟨q, 9, xs1, rfl, mup_same, st1, by decide, by decide, fun v2 xs2 v20 v21 st2 => ?_⟩
  rw [mup_mup]
  refine dLc_map (intsD 0 (c : Int).toNat) (fun d => match d with | .int i => .int ((1 + v1) + (1 + v2) * i) | _ => .non) tru (fun R h => ⟨by omega, by omega, h⟩) (by rw [intsD_len]; omega) trivial (fun x hx R hR => ?_) ?_
  · obtain ⟨i, hi, rfl⟩ := List.mem_map.mp hx
    exact ⟨.inl ⟨by omega, by omega⟩, hR⟩
  · have e0 : (intsD 0 (c : Int).toNat).map (fun d => match d with | .int i => Dv.int ((1 + v1) + (1 + v2) * i) | _ => .non) = ((List.range c).map fun i : Nat => (1 + v1) + (1 + v2) * (i : Int)).map .int := by
      unfold intsD
      rw [List.map_map, List.map_map, Int.toNat_natCast]
      refine List.map_congr_left fun i _ => ?_
      show Dv.int ((1 + v1) + (1 + v2) * (0 + (i : Int))) = _
      rw [Int.zero_add]
      rfl
    rw [e0]
    have o0 : OwS ((List.range c).map fun i : Nat => (1 + v1) + (1 + v2) * (i : Int)) := by
      refine ⟨⟨by rw [List.length_map, List.length_range]; exact hc, fun o ho => ?_, ?_⟩, fun o ho => ?_⟩
      · obtain ⟨i, hi, rfl⟩ := List.mem_map.mp ho
        have hi := List.mem_range.mp hi
        have a1 : 0 ≤ (1 + v2) * (i : Int) := Int.mul_nonneg (by omega) (by omega)
        have a2 : (1 + v2) * (i : Int) ≤ 9 * 9 := Int.mul_le_mul (by omega) (by omega) (by omega) (by decide)
        omega
      · refine List.pairwise_map.mpr (List.nodup_range.imp fun {a b} hab e => hab ?_)
        have e : (1 + v2) * (a : Int) = (1 + v2) * (b : Int) := by omega
        have := Int.eq_of_mul_eq_mul_left (by omega) e
        omega
      · obtain ⟨i, hi, rfl⟩ := List.mem_map.mp ho
        have hi := List.mem_range.mp hi
        have a2 : (1 + v2) * (i : Int) ≤ 9 * 9 := Int.mul_le_mul (by omega) (by omega) (by omega) (by decide)
        omega
    have ol0 : ((List.range c).map fun i : Nat => (1 + v1) + (1 + v2) * (i : Int)).length = c := by rw [List.length_map, List.length_range]
    generalize (List.range c).map (fun i : Nat => (1 + v1) + (1 + v2) * (i : Int)) = os0 at o0 ol0
    show dFor _ _ _ _ _ _
    unfold dFor
    refine ⟨by decide, by decide, fun i env M' => ∃ (os : List Int) (xs' : List Dv) (x5 x6 : Option Dv), env = [some (.ref q), some (.int (c : Int)), some (.int (1 + v1)), some (.int (1 + v2)), some (.lst (os.map .int)), x5, x6] ∧ os.length = c ∧ OwS os ∧ StOk xs' ∧ M' = mup M q (.lst xs'), ?_, fun _ _ _ _ => trivial, ?_, ?_⟩
    · exact ⟨os0, xs2, _, _, rfl, ol0, o0, st2, rfl⟩
    · rintro i d env M' hd ⟨os, xs', x5, x6, rfl, hl, ho, st', rfl⟩
      refine ⟨q, c, xs', rfl, mup_same, st', by omega, by omega, fun v3 xs3 v30 v31 st3 => ?_⟩
      rw [mup_mup]
      obtain ⟨j, rfl⟩ : ∃ j : Nat, v3 = (j : Int) := ⟨v3.toNat, by omega⟩
      refine ⟨_, .inl rfl, ?_⟩
      have c1 : cutD (os.map Dv.int) none (some (j : Int)) = (os.take j).map .int := by rw [List.map_take]; exact cut_to j
      have c2 : cutD (os.map Dv.int) (some (j : Int)) none = (os.drop j).map .int := by rw [List.map_drop]; exact cut_from j
      rw [c1, c2, ← List.map_reverse]
      have pm := cut_tail os j
      refine addL_go rfl rfl ?_ ?_
      · rw [← List.length_append, ← List.map_append, List.length_map, pm.length_eq]
        omega
      · rw [← List.map_append]
        exact ⟨_, _, _, _, rfl, by rw [pm.length_eq]; exact hl, ho.perm pm, st3, rfl⟩
    · rintro env M' ⟨os, xs', x5, x6, rfl, hl, ho, st', rfl⟩
      exact k os xs' ho st'
end
end Vk
set_option linter.unusedVariables false
set_option linter.unusedSimpArgs false
namespace Vk
open PySem PySem.Spec PyProof.Rows L2

theorem case_na {Fs : DGs} {T : DS} {Rs : DCs} {d : Dv} {E : DEnds} {env : DEnv} {M : MH} (ok : OkF d)
    (hit : ∀ a b, d = .tup [a, b] → Fs [a] env M fun env1 M1 => T E env1 M1) (miss : (∀ a b, d ≠ .tup [a, b]) → Rs d E env M) : dCase [.name, .any] Fs T Rs d E env M := by
  have z := ok.p
  cases d with
  | tup ds =>
    unfold dCase
    show (if ds.length = 2 then _ else _)
    split
    · rename_i hl
      obtain ⟨a, b, rfl⟩ := len2 hl
      exact hit a b rfl
    · rename_i hl
      exact miss fun a b h2 => hl (by injection h2 with h2; rw [h2]; rfl)
  | non => unfold dCase; exact miss fun _ _ h => by cases h
  | bl b => unfold dCase; exact miss fun _ _ h => by cases h
  | int b => unfold dCase; exact miss fun _ _ h => by cases h
  | str b => unfold dCase; exact miss fun _ _ h => by cases h
  | lst b => simp [pln, atomD] at z
  | scr b => simp [pln, atomD] at z
  | ref b => simp [pln, atomD] at z
  | ty b => simp [pln, atomD] at z
def hOf : Dv → Int
  | .tup (_ :: .int h :: _) => h
  | _ => 0
def pOf : Dv → Int
  | .tup (_ :: _ :: .int p :: _) => p
  | _ => 0
def elderD (h : Int) : Dv → Bool
  | .tup [own, _] => hdrD own && decide (hOf own ≤ h)
  | _ => false
/-- a part of a plain row -/
structure Pl (n : Nat) (d : Dv) : Prop where
  o : OkF d
  dp : depD d ≤ n
  z : sizeD d ≤ 100000
theorem Pl.mem {n : Nat} {ds : List Dv} (h : Pl (n + 1) (.tup ds)) {d : Dv} (hd : d ∈ ds) : Pl n d := by
  refine ⟨h.o.mem hd, ?_, ?_⟩
  · have z := h.dp
    have y := depDs_mem hd
    simp only [depD] at z
    omega
  · have z := h.z
    rw [sizeD_tup] at z
    have := size_mem hd
    omega
theorem Pl.plain {n : Nat} {d : Dv} (h : Pl n d) (l : n ≤ 30) : plainD 0 d = true := plain_of _ 0 h.o.p (by have := h.dp; omega)
theorem Pl.known {n : Nat} {d : Dv} (h : Pl n d) (M : MH) : knownD M d = true ∧ txtD d = true := pln_known h.o.p
/-- the parts of what is a header -/
theorem hdr_parts {own : Dv} (ok : OkF own) (h : hdrD own = true) : ∃ a p b r os, own = hdrV a p b r os ∧ B60 a ∧ B60 p ∧ ShowOk own ∧ (∀ o ∈ os, 1 ≤ o ∧ o ≤ 999) ∧ 1 ≤ os.length := by
  unfold hdrD at h
  split at h
  · rename_i t a p b r o
    simp only [Bool.and_eq_true] at h
    obtain ⟨ht, ⟨ha, hp, hb, hr⟩, ho⟩ := h
    have ht := of_decide_eq_true ht
    subst ht
    have iv : ∀ d : Dv, atleastV 0 d = true → ∃ i, d = .int i := fun d hd => by
      cases d with
      | int i => exact ⟨i, rfl⟩
      | _ => exact absurd hd Bool.false_ne_true
    obtain ⟨a, rfl⟩ := iv a ha
    obtain ⟨p, rfl⟩ := iv p hp
    obtain ⟨b, rfl⟩ := iv b hb
    obtain ⟨r, rfl⟩ := iv r hr
    have ib : ∀ i : Int, OkF (.int i) → B60 i := fun i hi => by
      have z := hi.p
      simp only [pln, atomD, Bool.and_eq_true] at z
      have z1 := of_decide_eq_true z.1
      have z2 := of_decide_eq_true z.2
      show _ < _
      omega
    have ba := ib a (ok.mem (by simp))
    have bp := ib p (ok.mem (by simp))
    have bb := ib b (ok.mem (by simp))
    have br := ib r (ok.mem (by simp))
    cases o with
    | tup ds =>
      have ho : (manyL ds.length && (ds.all (intD 1 999) && decide ((ds.map intOf).Nodup))) = true := ho
      simp only [Bool.and_eq_true] at ho
      have eb : ds = (ds.map intOf).map .int := ints_back (by
        have h2 := ho.2.1
        rw [List.all_eq_true] at h2 ⊢
        intro x hx
        have := h2 x hx
        cases x with
        | int i => rfl
        | _ => exact absurd this Bool.false_ne_true)
      have ml : ds.length = 4 ∨ ds.length = 7 ∨ ds.length = 10 := by
        have := ho.1
        unfold manyL at this
        simpa using this
      have rg : ∀ o ∈ ds.map intOf, 1 ≤ o ∧ o ≤ 999 := fun o h1 => by
        obtain ⟨x, hx, rfl⟩ := List.mem_map.mp h1
        have := List.all_eq_true.mp ho.2.1 x hx
        cases x with
        | int i =>
          simp only [intD, Bool.and_eq_true] at this
          exact ⟨of_decide_eq_true this.1, of_decide_eq_true this.2⟩
        | _ => exact absurd this Bool.false_ne_true
      refine ⟨a, p, b, r, ds.map intOf, by show _ = Dv.tup [_, _, _, _, _, .tup ((ds.map intOf).map .int)]; rw [← eb], ba, bp, ?_, rg, by rw [List.length_map]; omega⟩
      have g1 : Shw 61 0 (.str "header") := (Gd.txt (s := "header") (by decide +kernel) (by decide +kernel) (by decide +kernel)).s.mono (by decide) (by decide)
      have go : Shw 1000 1 (.tup ds) := Shw.tup (n := 61) (m := 0) (fun d hd' => by
        rw [eb] at hd'
        obtain ⟨o, ho, rfl⟩ := List.mem_map.mp hd'
        have := rg o ho
        exact Shw.int60 (by omega)) (by omega) (by decide)
      refine Shw.show_ (n := 10000) (m := 2) (Shw.tup (n := 1000) (m := 1) (fun d hd' => ?_) (by show 6 * 1000 + 2 * 6 + 3 ≤ 10000; decide) (by decide)) (by decide) (by decide)
      simp only [List.mem_cons, List.not_mem_nil, or_false] at hd'
      rcases hd' with rfl | rfl | rfl | rfl | rfl | rfl
      · exact g1.mono (by decide) (by decide)
      · exact (Shw.int60 ba).mono (by decide) (by decide)
      · exact (Shw.int60 bp).mono (by decide) (by decide)
      · exact (Shw.int60 bb).mono (by decide) (by decide)
      · exact (Shw.int60 br).mono (by decide) (by decide)
      · exact go
    | _ => exact absurd ho Bool.false_ne_true
  · cases h
theorem drop_while (p : Dv → Bool) : ∀ (row : List Dv) (s : Nat), s ≤ row.length → (∀ d ∈ row.take s, p d = true) → (∀ d, row[s]? = some d → p d = false) → row.drop s = row.dropWhile p
  | [], s, hs, _, _ => by simp
  | x :: r, 0, _, _, h => by
    have := h x rfl
    rw [List.drop_zero, List.dropWhile_cons, this]
    rfl
  | x :: r, s + 1, hs, h1, h2 => by
    have hx := h1 x (by simp)
    rw [List.drop_succ_cons, List.dropWhile_cons, hx]
    simp only [if_true]
    exact drop_while p r s (by simpa using hs) (fun d hd => h1 d (by rw [List.take_succ_cons]; exact List.mem_cons_of_mem _ hd)) fun d hd => h2 d (by simpa using hd)
abbrev keyH (d : Dv) : L2.Key := .inr (toP d).shown
def sealsD (ns ss : List (L2.Key × Dv)) (own : Dv) : Dv → Bool
  | .tup [_, .int n, .tup sg] => match valD ns (keyH own) with
    | some (.int m) => sg.all fun o => sealedD ss o (bodyD (hOf own) n m)
    | _ => false
  | _ => false
def folD (ns ss : List (L2.Key × Dv)) (h nm : Int) (os : List Int) : Dv → Bool
  | .tup [own, cert] => hdrD own && (decide (hOf own = h + 1) && (decide (pOf own = nm) && (cforD os cert && sealsD ns ss own cert)))
  | _ => false
/-- a header that is trusted -/
structure HG (ns : List (L2.Key × Dv)) (H : Dv) (h nm : Int) (os : List Int) : Prop where
  e : ∃ p b r, H = hdrV h p b r os
  s : ShowOk H
  b : B60 h
  o : ∀ o ∈ os, 1 ≤ o ∧ o ≤ 999
  l : 1 ≤ os.length
  n : valD ns (keyH H) = some (.int nm)
/-- what may come to be named is named -/
def Pre (ns : List (L2.Key × Dv)) (h nm : Int) (os : List Int) (head : Dv) : Prop := ∀ own cert, head = .tup [own, cert] → hdrD own = true → hOf own = h + 1 → pOf own = nm → cforD os cert = true → ∃ m : Nat, valD ns (keyH own) = some (.int (m : Nat))
inductive Jd (ns ss : List (L2.Key × Dv)) : Dv → List Dv → List Dv → Prop
  | nil {H : Dv} {h nm : Int} {os : List Int} : HG ns H h nm os → Jd ns ss H [] []
  | stop {H head : Dv} {h nm : Int} {os : List Int} {r : List Dv} : HG ns H h nm os → Pre ns h nm os head → folD ns ss h nm os head = false → Jd ns ss H (head :: r) []
  | step {H own cert : Dv} {h nm : Int} {os : List Int} {r out : List Dv} : HG ns H h nm os → Pre ns h nm os (.tup [own, cert]) → folD ns ss h nm os (.tup [own, cert]) = true → Jd ns ss own r out → Jd ns ss H (.tup [own, cert] :: r) (.tup [own, cert] :: out)
section
variable {P : Program} {w : World} {K : PySem.W.Frag} {mg : Str → Option Value} {base : Heap} {aMANY_PLACES C_Registry C_Pen : Addr}

def F_is_elder : DF := fun ds M Q => ∃ (h : Int) (x : Dv) (rest : List Dv) (head : Dv), ds = [.tup (x :: .int h :: rest), head] ∧ Pl 29 head ∧ Q (.bl (elderD h head)) M
theorem len_is_elder : ∀ ds M R, F_is_elder ds M R → ds.length = ["header", "head"].length := by
  rintro _ _ _ ⟨h, x, rest, head, rfl, _⟩
  rfl
abbrev s_is_elder : Stmt := top 25
theorem sc_is_elder : FnScope ["header", "head", "own"] ["header", "head"] (defScope s_is_elder) := ⟨rfl, rfl, rfl, by decide +kernel, rfl, by decide +kernel, by decide +kernel⟩
theorem ok_is_elder {f : Addr} {fd : FuncData} (Fn : L2.Fun K "_is_elder" "_is_elder" s_is_elder f fd) (T : Tx K mg aMANY_PLACES C_Registry C_Pen) (C_is_header : DCal P w K mg base "is_header" 4 F_is_header) : Gk P w K mg base 5 f fd ["header", "head"] (spD K F_is_elder) := by
  refine dfun Fn sc_is_elder (len_is_elder) (fun cd A out s H E hg hr => ⟨_, _, (ss_one (s_match (dv 1) (cs_seq rfl (ps_name (ps_any ps0)) (b_cons 2 sc_is_elder.nd b_nil) (ss_one (s_ret (d_and (k_call (K := K) hg C_is_header hr rfl (a_cons (dv 2) a_nil)) (d_one (d_cmp o_le (k_ix (K := K) (dv 2) d_int) (k_ix (K := K) (dv 0) d_int) (nomark _))))))
  (cs_any (ss_one (s_ret d_bl)))))), ?_⟩)
  rintro ds M R ⟨h, x, rest, head, rfl, pl, q⟩
  refine case_na pl.o (fun own c e => ?_) (fun m => ?_)
  · subst e
    have po : Pl 28 own := pl.mem (n := 28) (by simp)
    obtain ⟨k1, k2⟩ := po.known M
    refine ⟨own, rfl, k1, po.z, k2, ?_⟩
    rw [po.plain (by decide)]
    show (if (true && hdrD own) = true then _ else _)
    rw [Bool.true_and]
    refine iteB (fun z => ?_) (fun z => q_of q (by simp only [elderD, z, Bool.false_and]))
    obtain ⟨a, p, b, r, os, rfl, _⟩ := hdr_parts po.o z
    have e1 : atI (hdrL a p b r os) ((1 : Nat) : Int) = some (.int a) := atI_nat (j := 1) rfl
    have e2 : atI (x :: .int h :: rest) ((1 : Nat) : Int) = some (.int h) := atI_nat (j := 1) rfl
    show (match atI (hdrL a p b r os) ((1 : Nat) : Int) with | some d => _ | none => False)
    rw [e1]
    show (match atI (x :: .int h :: rest) ((1 : Nat) : Int) with | some d => _ | none => False)
    rw [e2]
    refine q_of q ?_
    simp only [elderD, z, Bool.true_and]
    rfl
  · refine q_of q ?_
    unfold elderD
    split
    · exact absurd rfl (m _ _)
    · rfl
def F_behind_elder : DF := fun ds M Q => ∃ (h : Int) (x : Dv) (rest row : List Dv), ds = [.tup (x :: .int h :: rest), .tup row] ∧ (∀ d ∈ row, Pl 29 d) ∧ row.length ≤ 100000 ∧ Q (.tup (row.dropWhile (elderD h))) M
theorem len_behind_elder : ∀ ds M R, F_behind_elder ds M R → ds.length = ["header", "heads"].length := by
  rintro _ _ _ ⟨h, x, rest, row, rfl, _⟩
  rfl
abbrev s_behind_elder : Stmt := top 24
theorem sc_behind_elder : FnScope ["header", "heads", "start"] ["header", "heads"] (defScope s_behind_elder) := ⟨rfl, rfl, rfl, by decide +kernel, rfl, by decide +kernel, by decide +kernel⟩
theorem ok_behind_elder {f : Addr} {fd : FuncData} (Fn : L2.Fun K "_behind_elder" "_behind_elder" s_behind_elder f fd) (T : Tx K mg aMANY_PLACES C_Registry C_Pen) (C_is_elder : DCal P w K mg base "_is_elder" 5 F_is_elder) : Gk P w K mg base 6 f fd ["header", "heads"] (spD K F_behind_elder) := by
  refine dfun Fn sc_behind_elder (len_behind_elder) (fun cd A out s H E hg hr => ⟨_, _, (ss_cons (s_set (i := 2) sc_behind_elder.nd rfl (Or.inl rfl) d_int)
  (ss_cons (s_while PassesOwn.never (Tw.ts (w_and (t_cmp o_lt (dv 2) (d_cb (k_len (K := K)) (by rfl) T.len (by decide +kernel) (a_cons (dv 1) a_nil)) (nomark _)) (w_and1 (t_val (k_call (K := K) hg C_is_elder hr rfl (a_cons (dv 0) (a_cons (k_ix (K := K) (dv 1) (dv 2)) a_nil)))))))
  (ss_one (s_aug (i := 2) ip_add sc_behind_elder.nd d_int)))
  (ss_one (s_ret (k_slice (K := K) (dv 1) (p_some (dv 2)) p_none))))), ?_⟩)
  rintro ds M R ⟨h, x, rest, row, rfl, pl, rl, q⟩
  refine ⟨fun m env M' => ∃ s : Nat, env = [some (.tup (x :: .int h :: rest)), some (.tup row), some (.int (s : Int))] ∧ M' = M ∧ s ≤ row.length ∧ (∀ d ∈ row.take s, elderD h d = true) ∧ m = row.length - s, ⟨row.length, 0, rfl, rfl, Nat.zero_le _, (fun d hd => by cases hd), rfl⟩, ?_⟩
  rintro m env M' ⟨s, rfl, rfl, hs, he, rfl⟩
  have fin : (∀ d, row[s]? = some d → elderD h d = false) → R (.tup (cutD row (some (s : Int)) none)) M' := fun z => by
    rw [show cutD row (some (s : Int)) none = row.drop s from cut_from s, drop_while (elderD h) row s hs he z]
    exact q
  show (if decide (((s : Nat) : Int) < ((row.length : Nat) : Int)) = true then _ else _)
  by_cases c : s < row.length
  · refine iteBT (decide_eq_true (by omega)) ?_
    have ea : atI row ((s : Nat) : Int) = some row[s] := atI_nat (List.getElem?_eq_getElem c)
    show (match atI row ((s : Nat) : Int) with | some d => _ | none => False)
    rw [ea]
    have hm : row[s] ∈ row := List.getElem_mem c
    refine ⟨h, x, rest, row[s], rfl, pl _ hm, ?_⟩
    show (if elderD h row[s] = true then _ else _)
    refine iteB (fun z => ?_) (fun z => ?_)
    · refine ⟨row.length - (s + 1), by omega, s + 1, rfl, rfl, by omega, fun d hd => ?_, rfl⟩
      rw [List.take_add_one, List.getElem?_eq_getElem c] at hd
      rcases List.mem_append.mp hd with h1 | h1
      · exact he d h1
      · have h1 : d ∈ [row[s]] := h1
        rw [List.mem_singleton.mp h1]
        exact z
    · exact fin fun d hd => by
        rw [List.getElem?_eq_getElem c] at hd
        injection hd with hd
        rw [← hd]
        exact z
  · refine iteBF (decide_eq_false (by omega)) ?_
    exact fin fun d hd => by
      rw [List.getElem?_eq_none (by omega)] at hd
      cases hd
end
end Vk
set_option linter.unusedVariables false
set_option linter.unusedSimpArgs false
namespace Vk
open PySem PySem.Spec PyProof.Rows L2

theorem known_kit {M : MH} {d : Dv} (h : knownD M d = true) : ∃ n, tyN M d = some n ∧ kitv n "tuple" = isTup d := by
  cases d with
  | scr ns => simp [knownD] at h
  | ty n => simp [knownD] at h
  | ref p =>
    unfold knownD at h
    unfold tyN
    simp only at h ⊢
    cases e : M p with
    | none => rw [e] at h; simp at h
    | some o =>
      rw [e] at h
      cases o with
      | lst ds => exact ⟨_, rfl, rfl⟩
      | dK ds => exact ⟨_, rfl, rfl⟩
      | _ => simp at h
  | _ => exact ⟨_, rfl, rfl⟩
theorem Named.known {M M' : MH} {a : Addr} {d : Dv} {m : Nat} {nm : Int} {ns ns' : List (L2.Key × Dv)} (h : Named M a ns d m M' ns') (e : valD ns (keyH d) = some (.int nm)) : (m : Int) = nm ∧ M' = M := by
  rcases h.h with ⟨e2, h2, _⟩ | ⟨e2, _⟩
  · rw [e] at e2
    injection e2 with e2
    injection e2 with e2
    exact ⟨e2.symm, h2⟩
  · rw [e] at e2
    cases e2
theorem Jd.hg {ns ss : List (L2.Key × Dv)} {H : Dv} {row out : List Dv} (j : Jd ns ss H row out) : ∃ h nm os, HG ns H h nm os := by
  cases j with
  | nil g => exact ⟨_, _, _, g⟩
  | stop g => exact ⟨_, _, _, g⟩
  | step g => exact ⟨_, _, _, g⟩
section
variable {P : Program} {w : World} {K : PySem.W.Frag} {mg : Str → Option Value} {base : Heap} {aMANY_PLACES C_Registry C_Pen : Addr}

def F_follows (C_Registry C_Pen : Addr) : DF := fun ds M Q => ∃ p a b c ns ss ps H h nm os head, ds = [.ref p, H, head] ∧ RegAt C_Registry M p a b c ns ss ps ∧ NmOk ns ∧ HG ns H h nm os ∧ Pl 29 head ∧ Pre ns h nm os head ∧ Q (.bl (folD ns ss h nm os head)) M
theorem len_follows : ∀ ds M R, F_follows C_Registry C_Pen ds M R → ds.length = ["registry", "header", "head"].length := by
  rintro _ _ _ ⟨p, a, b, c, ns, ss, ps, H, h, nm, os, head, rfl, _⟩
  rfl
abbrev s_follows : Stmt := top 26
theorem sc_follows : FnScope ["registry", "header", "head", "own", "certificate"] ["registry", "header", "head"] (defScope s_follows) := ⟨rfl, rfl, rfl, by decide +kernel, rfl, by decide +kernel, by decide +kernel⟩
theorem ok_follows {f : Addr} {fd : FuncData} (Fn : L2.Fun K "_follows" "_follows" s_follows f fd) (T : Tx K mg aMANY_PLACES C_Registry C_Pen) (C_is_certificate : DCal P w K mg base "is_certificate" 4 (F_is_certificate C_Registry C_Pen)) (C_is_header : DCal P w K mg base "is_header" 4 F_is_header) (M_Registry_name : DMeth P w K mg base C_Registry "name" 2 (F_Registry_name C_Registry C_Pen)) : Gk P w K mg base 5 f fd ["registry", "header", "head"] (spD K (F_follows C_Registry C_Pen)) := by
  refine dfun Fn sc_follows (len_follows) (fun cd A out s H E hg hr => ⟨_, _, (ss_one (s_match (dv 2) (cs_seq rfl (ps_name (ps_name ps0)) (b_cons 3 sc_follows.nd (b_cons 4 sc_follows.nd b_nil)) (ss_cons (s_if (Tw.ts (w_or (t_not (t_val (k_call (K := K) hg C_is_header hr rfl (a_cons (dv 3) a_nil)))) (w_or (t_cmp (k_ne (K := K) hr.units) (k_ix (K := K) (dv 3) d_int) (d_op (k_add (K := K)) (k_ix (K := K) (dv 1) d_int) d_int) (nomark _)) (w_or1 (t_cmp (k_ne (K := K) hr.units) (k_ix (K := K) (dv 3) d_int) (d_meth (K := K) hg M_Registry_name hr (dv 0) (a_cons (dv 1) a_nil)) (nomark _)))))) (ss_one (s_ret d_bl)) ss_nil)
  (ss_one (s_ret (k_call (K := K) hg C_is_certificate hr rfl (a_cons (dv 0) (a_cons (dv 4) (a_cons (dv 3) (a_cons (k_ix (K := K) (dv 1) d_int) a_nil))))))))
  (cs_any (ss_one (s_ret d_bl)))))), ?_⟩)
  rintro ds M R ⟨p, a, b, c, ns, ss, ps, H, h, nm, os, head, rfl, rg, no, hg', pl, pre, q⟩
  obtain ⟨pp, bb, r, rfl⟩ := hg'.e
  refine case_names (q := [.name, .name]) 2 pl.o (fun ds e hl => ?_) (fun m => ?_)
  · obtain ⟨own, cert, rfl⟩ := len2 hl
    subst e
    have po : Pl 28 own := pl.mem (n := 28) (by simp)
    have pc : Pl 28 cert := pl.mem (n := 28) (by simp)
    obtain ⟨k1, k2⟩ := po.known M
    obtain ⟨c1, c2⟩ := pc.known M
    refine ⟨own, rfl, k1, po.z, k2, ?_⟩
    rw [po.plain (by decide)]
    show (if (!(true && hdrD own)) = true then _ else _)
    rw [Bool.true_and]
    refine iteB (fun z => ?_) (fun z => ?_)
    · have z' : hdrD own = false := by simpa using z
      exact q_of q (by simp only [folD, z', Bool.false_and])
    · have z' : hdrD own = true := by simpa using z
      obtain ⟨a', p', b', r', os', rfl, ba, bp, sh, o1, o2⟩ := hdr_parts po.o z'
      have e1 : atI (hdrL a' p' b' r' os') ((1 : Nat) : Int) = some (.int a') := atI_nat (j := 1) rfl
      have e2 : atI (hdrL a' p' b' r' os') ((2 : Nat) : Int) = some (.int p') := atI_nat (j := 2) rfl
      have f1 : atI (hdrL h pp bb r os) ((1 : Nat) : Int) = some (.int h) := atI_nat (j := 1) rfl
      have f5 : atI (hdrL h pp bb r os) ((5 : Nat) : Int) = some (.tup (os.map .int)) := atI_nat (j := 5) rfl
      have ev : folD ns ss h nm os (.tup [hdrV a' p' b' r' os', cert]) = (decide (a' = h + 1) && (decide (p' = nm) && (cforD os cert && sealsD ns ss (hdrV a' p' b' r' os') cert))) := by
        simp only [folD, z', Bool.true_and]
        rfl
      rw [ev] at q
      show (match atI (hdrL a' p' b' r' os') ((1 : Nat) : Int) with | some d => _ | none => False)
      rw [e1]
      show (match atI (hdrL h pp bb r os) ((1 : Nat) : Int) with | some d => _ | none => False)
      rw [f1]
      show (if (!decide (a' = h + 1)) = true then _ else _)
      refine iteB (fun y => ?_) (fun y => ?_)
      · have y' : decide (a' = h + 1) = false := by simpa using y
        exact q_of q (by rw [y', Bool.false_and])
      · have y' : decide (a' = h + 1) = true := by simpa using y
        show (match atI (hdrL a' p' b' r' os') ((2 : Nat) : Int) with | some d => _ | none => False)
        rw [e2]
        obtain ⟨dx, hp⟩ := rg.r
        show (match M p with | some (.ins C' _ fs) => _ | _ => False)
        rw [hp]
        refine ⟨⟨rfl, rfl⟩, p, a, b, c, ns, ss, ps, hdrV h pp bb r os, rfl, rg, no, hg'.s, fun m M' ns' hn => ?_⟩
        obtain ⟨em, rfl⟩ := hn.known hg'.n
        rw [em]
        show (if (!decide (p' = nm)) = true then _ else _)
        refine iteB (fun x => ?_) (fun x => ?_)
        · have x' : decide (p' = nm) = false := by simpa using x
          exact q_of q (by rw [x', Bool.false_and, Bool.and_false])
        · have x' : decide (p' = nm) = true := by simpa using x
          rw [y', x', Bool.true_and, Bool.true_and] at q
          show (match atI (hdrL h pp bb r os) ((5 : Nat) : Int) with | some d => _ | none => False)
          rw [f5]
          unfold F_is_certificate
          refine ⟨p, a, b, c, ns, ss, ps, cert, _, a', _, os, rfl, rg, no, sh, ba, fun o ho => by have := hg'.o o ho; omega, hg'.l, c1, pc.z, c2, fun w => ?_, fun n sg m2 M2 ns2 e w hn2 => ?_⟩
          · rw [pc.plain (by decide), Bool.true_and] at w
            exact q_of q (by rw [w, Bool.false_and])
          · rw [pc.plain (by decide), Bool.true_and] at w
            obtain ⟨m3, hm3⟩ := pre _ _ rfl z' (of_decide_eq_true y') (of_decide_eq_true x') w
            obtain ⟨em2, rfl⟩ := hn2.known hm3
            have em2 : m2 = m3 := by omega
            subst em2
            refine q_of q ?_
            subst e
            rw [w, Bool.true_and]
            simp only [sealsD, hm3, List.all_map]
            rfl
  · refine q_of q ?_
    unfold folD
    split
    · exact absurd rfl (m [_, _] rfl)
    · rfl
@[irreducible] def F_judged_heads (C_Registry C_Pen : Addr) : DF := fun ds M Q => ∃ p a b c ns ss ps H h nm os v out, ds = [.ref p, H, v] ∧ RegAt C_Registry M p a b c ns ss ps ∧ NmOk ns ∧ HG ns H h nm os ∧ knownD M v = true ∧ sizeD v ≤ 100000 ∧ txtD v = true ∧ ((isTup v && plainD 0 v) = false → out = []) ∧
  (∀ row, v = .tup row → plainD 0 v = true → Jd ns ss H (row.dropWhile (elderD h)) out) ∧ ∀ l, M l = none → Q (.ref l) (mup M l (.lst out))
theorem len_judged_heads : ∀ ds M R, F_judged_heads C_Registry C_Pen ds M R → ds.length = ["registry", "header", "heads"].length := by
  intro ds M R hF
  unfold F_judged_heads at hF
  obtain ⟨p, a, b, c, ns, ss, ps, H, h, nm, os, v, out, rfl, _⟩ := hF
  rfl
theorem judged_go {M : MH} {p a b c : Addr} {ns ss ps : List (L2.Key × Dv)} {H v : Dv} {h nm : Int} {os : List Int} {out : List Dv} {Q : DK} (rg : RegAt C_Registry M p a b c ns ss ps) (no : NmOk ns) (g : HG ns H h nm os) (kn : knownD M v = true) (sz : sizeD v ≤ 100000) (tx : txtD v = true) (h1 : (isTup v && plainD 0 v) = false → out = [])
    (h2 : ∀ row, v = .tup row → plainD 0 v = true → Jd ns ss H (row.dropWhile (elderD h)) out) (q : ∀ l, M l = none → Q (.ref l) (mup M l (.lst out))) : F_judged_heads C_Registry C_Pen [.ref p, H, v] M Q := by
  unfold F_judged_heads
  exact ⟨p, a, b, c, ns, ss, ps, H, h, nm, os, v, out, rfl, rg, no, g, kn, sz, tx, h1, h2, q⟩
abbrev s_judged_heads : Stmt := top 23
theorem sc_judged_heads : FnScope ["registry", "header", "heads", "taken", "head"] ["registry", "header", "heads"] (defScope s_judged_heads) := ⟨rfl, rfl, rfl, by decide +kernel, rfl, by decide +kernel, by decide +kernel⟩
theorem ok_judged_heads {f : Addr} {fd : FuncData} (Fn : L2.Fun K "judged_heads" "judged_heads" s_judged_heads f fd) (T : Tx K mg aMANY_PLACES C_Registry C_Pen) (C_behind_elder : DCal P w K mg base "_behind_elder" 6 F_behind_elder) (C_is_plain : DCal P w K mg base "is_plain" 3 F_is_plain) (C_follows : DCal P w K mg base "_follows" 5 (F_follows C_Registry C_Pen)) : Gk P w K mg base 7 f fd ["registry", "header", "heads"] (spD K (F_judged_heads C_Registry C_Pen)) := by
  refine dfun Fn sc_judged_heads (len_judged_heads) (fun cd A out s H E hg hr => ⟨_, _, (ss_cons (s_if (Tw.ts (w_or (t_not (t_val (d_cb (k_isi (K := K)) (by rfl) T.isinstance (by decide +kernel) (a_cons (dv 2) (a_cons (d_tyname (n := "tuple") (by rfl) T.tuple (by decide +kernel)) a_nil))))) (w_or1 (t_not (t_val (k_call (K := K) hg C_is_plain hr rfl (a_cons (dv 2) a_nil))))))) (ss_one (s_ret (d_lstM a_nil))) ss_nil)
  (ss_cons (s_set (i := 3) sc_judged_heads.nd rfl (Or.inl rfl) (d_lstM a_nil))
  (ss_cons (s_for PassesOwn.never rfl (k_tup_ (K := K) (k_call (K := K) hg C_behind_elder hr rfl (a_cons (dv 1) (a_cons (dv 2) a_nil)))) (g_name 4 sc_judged_heads.nd)
  (ss_cons (s_if (t_not (t_val (k_call (K := K) hg C_follows hr rfl (a_cons (dv 0) (a_cons (dv 1) (a_cons (dv 4) a_nil)))))) (ss_one s_brk) ss_nil)
  (ss_cons (s_expr (d_bm PySem.F.plainAttrs_list PySem.F.slot_list_append PySem.F.type_list_append mt_append mt_app (dv 3) (a_cons (dv 4) a_nil)))
  (ss_one (s_set (i := 1) sc_judged_heads.nd rfl (Or.inl rfl) (k_ix (K := K) (dv 4) d_int))))))
  (ss_one (s_ret (dv 3)))))), ?_⟩)
  intro ds M R hF
  unfold F_judged_heads at hF
  obtain ⟨p, a, b, c, ns, ss, ps, H, h, nm, os, v, out, rfl, rg, no, g, kn, sd, tx, h1, h2, k⟩ := hF
  have sz : (sizeLine : Nat) = 16777216 := by decide +kernel
  obtain ⟨n, e1, e5⟩ := known_kit kn
  refine ⟨by decide, ?_⟩
  rw [e1]
  show (if (!kitv n "tuple") = true then _ else _)
  rw [e5]
  refine iteB (fun z => ?_) (fun z => ?_)
  · have z' : isTup v = false := by simpa using z
    have := h1 (by rw [z', Bool.false_and])
    subst this
    exact k
  · have z' : isTup v = true := by simpa using z
    refine ⟨v, rfl, kn, sd, ?_⟩
    show (if (!plainD 0 v) = true then _ else _)
    refine iteB (fun y => ?_) (fun y => ?_)
    · have y' : plainD 0 v = false := by simpa using y
      have := h1 (by rw [y', Bool.and_false])
      subst this
      exact k
    · have y' : plainD 0 v = true := by simpa using y
      obtain ⟨row, rfl⟩ : ∃ row, v = .tup row := by
        cases v with
        | tup row => exact ⟨row, rfl⟩
        | _ => exact absurd z' Bool.false_ne_true
      obtain ⟨p1, p2⟩ := plain_pln _ 0 y' tx (by decide)
      have pv : Pl 30 (.tup row) := ⟨⟨p1, by omega⟩, by omega, sd⟩
      have pr : ∀ d ∈ row, Pl 29 d := fun d hd => pv.mem (n := 29) hd
      have jd := h2 row rfl y'
      have rl : row.length ≤ 100000 := by
        rw [sizeD_tup] at sd
        have := len_size row
        omega
      obtain ⟨pp, bb, r, rfl⟩ := g.e
      intro l hl
      have lp : ∀ {u o}, M u = some o → u ≠ l := fun {u o} h z => by subst z; rw [hl] at h; cases h
      have rgl : ∀ acc, RegAt C_Registry (mup M l (.lst acc)) p a b c ns ss ps := fun acc => by
        obtain ⟨dx, hp⟩ := rg.r
        exact ⟨⟨dx, by rw [mup_ne (lp hp)]; exact hp⟩, by rw [mup_ne (lp rg.ra)]; exact rg.ra, by rw [mup_ne (lp rg.rb)]; exact rg.rb, by rw [mup_ne (lp rg.rc)]; exact rg.rc, rg.ab, rg.ac, rg.bc⟩
      show dFor _ _ _ _ _ _
      unfold dFor
      refine ⟨h, _, _, row, rfl, pr, rl, ?_⟩
      have sub : ∀ d ∈ row.dropWhile (elderD h), d ∈ row := fun d hd => (List.dropWhile_sublist _).subset hd
      have dl : (row.dropWhile (elderD h)).length ≤ 100000 := Nat.le_trans (List.dropWhile_sublist _).length_le rl
      generalize row.dropWhile (elderD h) = D at jd sub dl
      have pd : ∀ d ∈ D, Pl 29 d := fun d hd => pr d (sub d hd)
      refine ⟨fun i env M' => ∃ (H' : Dv) (x4 : Option Dv) (acc out' : List Dv), env = [some (.ref p), some H', some (.tup row), some (.ref l), x4] ∧ M' = mup M l (.lst acc) ∧ acc ++ out' = out ∧ acc.length = i ∧ Jd ns ss H' (D.drop i) out', ?_, fun _ _ _ _ => trivial, ?_, ?_⟩
      · exact ⟨_, _, [], out, rfl, rfl, rfl, rfl, jd⟩
      · rintro i d env M' hd2 ⟨H', x4, acc, out', rfl, rfl, ea, la, j⟩
        have il := (List.getElem?_eq_some_iff.mp hd2).1
        have ed := (List.getElem?_eq_some_iff.mp hd2).2
        have hmem : d ∈ D := List.mem_of_getElem? hd2
        rw [List.drop_eq_getElem_cons il, ed] at j
        have pdd := pd d hmem
        cases j with
        | stop g' pre f =>
          refine ⟨p, a, b, c, ns, ss, ps, H', _, _, _, d, rfl, rgl acc, no, g', pdd, pre, ?_⟩
          rw [f]
          rw [List.append_nil] at ea
          subst ea
          exact k l hl
        | step g' pre f j' =>
          rename_i own cert h' nm' os' out2
          refine ⟨p, a, b, c, ns, ss, ps, H', _, _, _, _, rfl, rgl acc, no, g', pdd, pre, ?_⟩
          rw [f]
          show dMeth1 (dV 3) _ gApp [some (.ref p), some H', some (.tup row), some (.ref l), some (.tup [own, cert])] _ _
          refine meth_go rfl mup_same ?_
          show (match (mup M l (.lst acc)) l with | some (.lst ys) => _ | _ => False)
          rw [mup_same]
          refine ⟨by omega, ?_⟩
          rw [mup_mup]
          exact ⟨_, _, acc ++ [.tup [own, cert]], out2, rfl, rfl, by rw [List.append_assoc]; exact ea, by rw [List.length_append, la]; rfl, j'⟩
      · rintro env M' ⟨H', x4, acc, out', rfl, rfl, ea, la, j⟩
        rw [List.drop_length] at j
        cases j
        rw [List.append_nil] at ea
        subst ea
        exact k l hl
end
end Vk
set_option linter.unusedVariables false
set_option linter.unusedSimpArgs false
namespace Vk
open PySem PySem.Spec PyProof.Rows L2

section
variable {X : Cx} {a tg : Expr} {ta : TE} {i : Nat}
/-- a name that holds a tuple or a list -/
def wTL (i : Nat) : DI := fun env M R => match env[i]? with
  | some (some (.tup ds)) => R ds tru M
  | some (some (.lst ds)) => R ds tru M
  | _ => False
theorem w_tl (h : Ex X a ta (dV i)) : Wk X tg a (fun σ H R => iTup X.K ta σ H R ∨ iList X.K ta σ H R) (wTL i) := by
  refine ⟨⟨fun pins s σ H R I h2 => ?_⟩, ?_⟩
  · rcases h2 with h2 | h2
    · exact (w_tup (tg := tg) h).p.run pins s σ H R I h2
    · exact (w_list (tg := tg) h).p.run pins s σ H R I h2
  · intro S σ H env M Q R rn hr f q
    unfold wTL at f
    split at f
    · rename_i ds e
      refine .inl ((w_tup (tg := tg) h).r S σ H env M Q R rn hr ?_ q)
      unfold wTup dV
      rw [e]
      exact f
    · rename_i ds e
      refine .inr ((w_list (tg := tg) h).r S σ H env M Q R rn hr ?_ q)
      unfold wItems dV
      rw [e]
      exact f
    · exact f.elim
theorem k_tl {K : PySem.W.Frag} (h : Ex X a ta (dV i)) (hK : X.K = K := by rfl) : Wk X tg a (fun σ H R => iTup K ta σ H R ∨ iList K ta σ H R) (wTL i) := by subst hK; exact w_tl h
end
abbrev keyS (o : Int) (e : Dv) : L2.Key := .inr (toP (.tup [.int o, e])).shown
theorem ShowOk.okD {d : Dv} (h : ShowOk d) : okD (toP d) = true := by
  have := h.h1
  unfold okV at this
  rw [Bool.and_eq_true] at this
  exact this.2
theorem sealed_mono {ss : List (L2.Key × Dv)} {k : L2.Key} {x y : Dv} (h : sealedD ss x y = true) : sealedD (putD ss k (.bl true)) x y = true := by
  unfold sealedD at h ⊢
  rw [valD_put]
  split
  · rfl
  · exact h
theorem sealed_self {ss : List (L2.Key × Dv)} {o : Int} {e : Dv} : sealedD (putD ss (keyS o e) (.bl true)) (.int o) e = true := by
  unfold sealedD
  rw [valD_put, if_pos rfl]
  rfl
theorem sealed_step {ss : List (L2.Key × Dv)} {o o' : Int} {e e' : Dv} (s1 : ShowOk (.tup [.int o, e])) (s2 : ShowOk (.tup [.int o', e'])) (h : sealedD (putD ss (keyS o e) (.bl true)) (.int o') e' = true) : (o' = o ∧ toP e' = toP e) ∨ sealedD ss (.int o') e' = true := by
  unfold sealedD at h
  rw [valD_put] at h
  by_cases c : (Sum.inr (toP (.tup [.int o', e'])).shown : L2.Key) = keyS o e
  · injection c with c
    have z := shown_inj s2.okD s1.okD c
    simp only [toP, toPs] at z
    injection z with z
    injection z with z1 z2
    injection z1 with z1
    injection z2 with z2 _
    exact .inl ⟨z1, z2⟩
  · rw [if_neg c] at h
    exact .inr h
theorem bodyD_inj {h n m h' n' m' : Int} (z : toP (bodyD h' n' m') = toP (bodyD h n m)) : h' = h ∧ n' = n ∧ m' = m := by
  simp only [bodyD, toP, toPs] at z
  injection z with z
  injection z with _ z
  injection z with z1 z
  injection z with z2 z
  injection z with z3 _
  injection z1 with z1
  injection z2 with z2
  injection z3 with z3
  exact ⟨z1, z2, z3⟩
def PenAt (M : MH) (pd : Addr) (o : Int) : Prop := ∃ pns d, M pd = some (.dK pns) ∧ valD pns (.inl o) = some d
structure Wo (C_Registry C_Pen : Addr) (M : MH) (q p pd a b c : Addr) (ns ss : List (L2.Key × Dv)) (N : Nat) : Prop where
  ex : ∃ ps pns, RegAt C_Registry M p a b c ns ss ps ∧ M pd = some (.dK pns) ∧ (∀ o, valD pns (.inl o) = none → valD ps (.inl o) = none) ∧ (∀ o d, valD pns (.inl o) = some d → ∃ x dx, d = .ref x ∧ M x = some (.ins C_Pen dx (penF (.int o) b))) ∧ ps.length ≤ N ∧ pns.length ≤ N
  da : pd ≠ a
  db : pd ≠ b
  dc : pd ≠ c
  nm : ∀ k d, valD ns k = some d → ∃ m : Nat, d = .int m ∧ 1 ≤ m ∧ m ≤ ns.length
  ij : ∀ k k' v, valD ns k = some v → valD ns k' = some v → k = k'
  qq : ∃ xs, M q = some (.lst xs) ∧ StOk xs
  sl : ∀ o h n m, B60 o → B60 h → B60 n → B60 m → sealedD ss (.int o) (bodyD h n m) = true → n < 4
  l1 : ns.length ≤ N
  l2 : ss.length ≤ N
structure Ext (M M' : MH) (q pd : Addr) (ns ns' ss ss' : List (L2.Key × Dv)) : Prop where
  k1 : ∀ k v, valD ns k = some v → valD ns' k = some v
  k2 : ∀ k, (valD ss k).isSome = true → (valD ss' k).isSome = true
  k3 : ∀ u xs, u ≠ q → M u = some (.lst xs) → M' u = some (.lst xs)
  k4 : ∀ o, PenAt M pd o → PenAt M' pd o
theorem Ext.refl {M : MH} {q pd : Addr} {ns ss : List (L2.Key × Dv)} : Ext M M q pd ns ns ss ss := ⟨fun _ _ h => h, fun _ h => h, fun _ _ _ h => h, fun _ h => h⟩
theorem Ext.trans {A B C : MH} {q pd : Addr} {n1 n2 n3 s1 s2 s3 : List (L2.Key × Dv)} (x : Ext A B q pd n1 n2 s1 s2) (y : Ext B C q pd n2 n3 s2 s3) : Ext A C q pd n1 n3 s1 s3 :=
  ⟨fun k v h => y.k1 k v (x.k1 k v h), fun k h => y.k2 k (x.k2 k h), fun u xs n h => y.k3 u xs n (x.k3 u xs n h), fun o h => y.k4 o (x.k4 o h)⟩
section
variable {C_Registry C_Pen : Addr} {M : MH} {q p pd a b c : Addr} {ns ss : List (L2.Key × Dv)} {N : Nat}
theorem Wo.mono {N' : Nat} (w : Wo C_Registry C_Pen M q p pd a b c ns ss N) (h : N ≤ N') : Wo C_Registry C_Pen M q p pd a b c ns ss N' := by
  obtain ⟨ps, pns, e1, e2, e3, e4, e5, e6⟩ := w.ex
  exact ⟨⟨ps, pns, e1, e2, e3, e4, by omega, by omega⟩, w.da, w.db, w.dc, w.nm, w.ij, w.qq, w.sl, Nat.le_trans w.l1 h, Nat.le_trans w.l2 h⟩
/-- lists may change and come -/
theorem Wo.keep {M' : MH} (w : Wo C_Registry C_Pen M q p pd a b c ns ss N) (k : ∀ u o, M u = some o → (∀ xs, o ≠ .lst xs) → M' u = some o) (hq : ∃ xs, M' q = some (.lst xs) ∧ StOk xs) : Wo C_Registry C_Pen M' q p pd a b c ns ss N := by
  obtain ⟨ps, pns, rg, e2, e3, e4, e5, e6⟩ := w.ex
  obtain ⟨dx, hp⟩ := rg.r
  refine ⟨⟨ps, pns, ⟨⟨dx, k _ _ hp (fun _ z => by cases z)⟩, k _ _ rg.ra (fun _ z => by cases z), k _ _ rg.rb (fun _ z => by cases z), k _ _ rg.rc (fun _ z => by cases z), rg.ab, rg.ac, rg.bc⟩, k _ _ e2 (fun _ z => by cases z), e3, fun o d h => ?_, e5, e6⟩, w.da, w.db, w.dc, w.nm, w.ij, hq, w.sl, w.l1, w.l2⟩
  obtain ⟨x, dx, e, h⟩ := e4 o d h
  exact ⟨x, dx, e, k _ _ h (fun _ z => by cases z)⟩
theorem Wo.draw {xs : List Dv} (w : Wo C_Registry C_Pen M q p pd a b c ns ss N) (st : StOk xs) : Wo C_Registry C_Pen (mup M q (.lst xs)) q p pd a b c ns ss N ∧ Ext M (mup M q (.lst xs)) q pd ns ns ss ss := by
  obtain ⟨ys, hq, _⟩ := w.qq
  have k : ∀ u o, M u = some o → u ≠ q → mup M q (.lst xs) u = some o := fun u o h n => by rw [mup_ne n]; exact h
  have kk : ∀ u o, M u = some o → (∀ xs, o ≠ .lst xs) → mup M q (.lst xs) u = some o := fun u o h nl => k u o h fun z => by subst z; rw [hq] at h; injection h with h; exact nl _ h.symm
  refine ⟨w.keep kk ⟨xs, mup_same, st⟩, fun _ _ h => h, fun _ h => h, fun u ys n h => k u _ h n, fun o h => ?_⟩
  obtain ⟨pns, d, h1, h2⟩ := h
  exact ⟨pns, d, kk _ _ h1 (fun _ z => by cases z), h2⟩
theorem Wo.ok (w : Wo C_Registry C_Pen M q p pd a b c ns ss N) (h : N ≤ 10000) : NmOk ns := ⟨w.nm, Nat.le_trans w.l1 h⟩
theorem Wo.name {M' : MH} {d : Dv} {m : Nat} {ns' : List (L2.Key × Dv)} (w : Wo C_Registry C_Pen M q p pd a b c ns ss N) (h : Named M a ns d m M' ns') :
    Wo C_Registry C_Pen M' q p pd a b c ns' ss (N + 1) ∧ Ext M M' q pd ns ns' ss ss ∧ valD ns' (keyH d) = some (.int (m : Nat)) ∧ 1 ≤ m := by
  obtain ⟨ps, pns, rg, e2, e3, e4, e5, e6⟩ := w.ex
  have rg' := h.reg rg
  rcases h.h with ⟨e, rfl, rfl⟩ | ⟨e, rfl, rfl, rfl⟩
  · obtain ⟨m', e7, h7, _⟩ := w.nm _ _ e
    injection e7 with e7
    exact ⟨w.mono (Nat.le_succ _), Ext.refl, e, by omega⟩
  · have pr : Pres M (mup M a (.dK (putD ns (keyH d) (.int ((ns.length + 1 : Nat) : Int))))) := Pres.dict rg.ra
    obtain ⟨xs, hq, st⟩ := w.qq
    have len := putD_len ns (.inr (toP d).shown) (.int ((ns.length + 1 : Nat) : Int))
    have len2 : ns.length + 1 ≤ (putD ns (.inr (toP d).shown) (.int ((ns.length + 1 : Nat) : Int))).length := by
      unfold putD
      rw [any_val, show valD ns (.inr (toP d).shown) = none from e]
      simp
    have hpd : (mup M a (.dK (putD ns (keyH d) (.int ((ns.length + 1 : Nat) : Int))))) pd = some (.dK pns) := by rw [mup_ne w.da]; exact e2
    refine ⟨⟨⟨ps, pns, rg', hpd, e3, fun o d h => ?_, by omega, by omega⟩, w.da, w.db, w.dc, fun k v hv => ?_, fun k k' v h1 h2 => ?_, ⟨xs, pr _ _ hq (fun _ z => by cases z), st⟩, w.sl, by have := w.l1; omega, Nat.le_trans w.l2 (Nat.le_succ _)⟩, ⟨fun k v hv => ?_, fun _ h => h, fun u xs n h => pr _ _ h (fun _ z => by cases z), fun o h => ?_⟩, ?_, by omega⟩
    · obtain ⟨x, dx, e, h⟩ := e4 o d h
      exact ⟨x, dx, e, pr _ _ h (fun _ z => by cases z)⟩
    · rw [valD_put] at hv
      split at hv
      · injection hv with hv
        exact ⟨ns.length + 1, hv.symm, by omega, len2⟩
      · obtain ⟨m, e1, e2, e3⟩ := w.nm k v hv
        exact ⟨m, e1, e2, by omega⟩
    · rw [valD_put] at h1 h2
      split at h1
      · rename_i k1
        split at h2
        · rename_i k2
          rw [k1, k2]
        · injection h1 with h1
          obtain ⟨m, e1, _, e3⟩ := w.nm _ _ h2
          rw [← h1] at e1
          injection e1 with e1
          omega
      · split at h2
        · injection h2 with h2
          obtain ⟨m, e1, _, e3⟩ := w.nm _ _ h1
          rw [← h2] at e1
          injection e1 with e1
          omega
        · exact w.ij k k' v h1 h2
    · rw [valD_put]
      split
      · rename_i k1
        subst k1
        rw [show valD ns (keyH d) = none from e] at hv
        cases hv
      · exact hv
    · obtain ⟨pn, d', h1, h2⟩ := h
      rw [e2] at h1
      injection h1 with h1
      injection h1 with h1
      subst h1
      exact ⟨_, d', hpd, h2⟩
    · rw [valD_put, if_pos rfl]
theorem Wo.seal {o : Int} {e : Dv} (w : Wo C_Registry C_Pen M q p pd a b c ns ss N) (s : ShowOk (.tup [.int o, e])) (h4 : ∀ h n m, toP (bodyD h n m) = toP e → n < 4) :
    Wo C_Registry C_Pen (mup M b (.dK (putD ss (.inr (toP (.tup [.int o, e])).shown) (.bl true)))) q p pd a b c ns (putD ss (.inr (toP (.tup [.int o, e])).shown) (.bl true)) (N + 1) ∧
    Ext M (mup M b (.dK (putD ss (.inr (toP (.tup [.int o, e])).shown) (.bl true)))) q pd ns ns ss (putD ss (.inr (toP (.tup [.int o, e])).shown) (.bl true)) := by
  obtain ⟨ps, pns, rg, e2, e3, e4, e5, e6⟩ := w.ex
  obtain ⟨dx, hp⟩ := rg.r
  obtain ⟨xs, hq, st⟩ := w.qq
  have pr : Pres M (mup M b (.dK (putD ss (.inr (toP (.tup [.int o, e])).shown) (.bl true)))) := Pres.dict rg.rb
  have len := putD_len ss (.inr (toP (.tup [.int o, e])).shown) (.bl true)
  have hpd : (mup M b (.dK (putD ss (.inr (toP (.tup [.int o, e])).shown) (.bl true)))) pd = some (.dK pns) := by rw [mup_ne w.db]; exact e2
  refine ⟨⟨⟨ps, pns, ⟨⟨dx, pr _ _ hp (fun _ z => by cases z)⟩, by rw [mup_ne rg.ab]; exact rg.ra, mup_same, by rw [mup_ne (Ne.symm rg.bc)]; exact rg.rc, rg.ab, rg.ac, rg.bc⟩, hpd, e3, fun o d h => ?_, by omega, by omega⟩, w.da, w.db, w.dc, w.nm, w.ij, ⟨xs, pr _ _ hq (fun _ z => by cases z), st⟩, fun o' h n m b0 b1 b2 b3 z => ?_, by have := w.l1; omega, by have := w.l2; omega⟩, ⟨fun _ _ h => h, fun k h => ?_, fun u xs n h => pr _ _ h (fun _ z => by cases z), fun o' h => ?_⟩⟩
  · obtain ⟨x, dx, e, h⟩ := e4 o d h
    exact ⟨x, dx, e, pr _ _ h (fun _ z => by cases z)⟩
  · rcases sealed_step s (body_show b0 b1 b2 b3) z with ⟨_, z⟩ | z
    · exact h4 _ _ _ z
    · exact w.sl o' h n m b0 b1 b2 b3 z
  · rw [valD_put]
    split
    · rfl
    · exact h
  · obtain ⟨pn, d', h1, h2⟩ := h
    rw [e2] at h1
    injection h1 with h1
    injection h1 with h1
    subst h1
    exact ⟨_, d', hpd, h2⟩
/-- a new pen -/
theorem Wo.pen {ps pns : List (L2.Key × Dv)} {x dx : Addr} {o : Int} (w : Wo C_Registry C_Pen M q p pd a b c ns ss N) (rg : RegAt C_Registry M p a b c ns ss ps) (hpd : M pd = some (.dK pns)) (e3 : ∀ o, valD pns (.inl o) = none → valD ps (.inl o) = none)
    (e4 : ∀ o d, valD pns (.inl o) = some d → ∃ x dx, d = .ref x ∧ M x = some (.ins C_Pen dx (penF (.int o) b))) (l1 : ps.length ≤ N) (l2 : pns.length ≤ N) (hx : M x = none) (hdx : M dx = none) (hne : dx ≠ x) :
    (mup (mup (mup M c (.dK (putD ps (.inl o) (.bl true)))) dx (.own x)) x (.ins C_Pen dx (penF (.int o) b))) pd = some (.dK pns) ∧
    Wo C_Registry C_Pen (mup (mup (mup (mup M c (.dK (putD ps (.inl o) (.bl true)))) dx (.own x)) x (.ins C_Pen dx (penF (.int o) b))) pd (.dK (putD pns (.inl o) (.ref x)))) q p pd a b c ns ss (N + 1) ∧
    Ext M (mup (mup (mup (mup M c (.dK (putD ps (.inl o) (.bl true)))) dx (.own x)) x (.ins C_Pen dx (penF (.int o) b))) pd (.dK (putD pns (.inl o) (.ref x)))) q pd ns ns ss ss ∧
    PenAt (mup (mup (mup (mup M c (.dK (putD ps (.inl o) (.bl true)))) dx (.own x)) x (.ins C_Pen dx (penF (.int o) b))) pd (.dK (putD pns (.inl o) (.ref x)))) pd o := by
  have far : ∀ u o, M u = some o → u ≠ x ∧ u ≠ dx := fun u o h => ⟨(fun z => by subst z; rw [hx] at h; cases h), (fun z => by subst z; rw [hdx] at h; cases h)⟩
  obtain ⟨dr, hr⟩ := rg.r
  obtain ⟨pdx, pdd⟩ := far _ _ hpd
  obtain ⟨ax, ad⟩ := far _ _ rg.ra
  obtain ⟨bx, bd⟩ := far _ _ rg.rb
  obtain ⟨cx, cd_⟩ := far _ _ rg.rc
  have m1 : (mup (mup (mup M c (.dK (putD ps (.inl o) (.bl true)))) dx (.own x)) x (.ins C_Pen dx (penF (.int o) b))) pd = some (.dK pns) := by
    rw [mup_ne pdx, mup_ne pdd, mup_ne w.dc]
    exact hpd
  have p1 : Pres M (mup M c (.dK (putD ps (.inl o) (.bl true)))) := Pres.dict rg.rc
  have p2 : Pres (mup M c (.dK (putD ps (.inl o) (.bl true)))) (mup (mup M c (.dK (putD ps (.inl o) (.bl true)))) dx (.own x)) := Pres.new (by rw [mup_ne (Ne.symm cd_)]; exact hdx)
  have p3 : Pres (mup (mup M c (.dK (putD ps (.inl o) (.bl true)))) dx (.own x)) (mup (mup (mup M c (.dK (putD ps (.inl o) (.bl true)))) dx (.own x)) x (.ins C_Pen dx (penF (.int o) b))) := Pres.new (by rw [mup_ne (Ne.symm hne), mup_ne (Ne.symm cx)]; exact hx)
  have pr := ((p1.trans p2).trans p3).trans (Pres.dict (k2 := putD pns (.inl o) (.ref x)) m1)
  have xat : (mup (mup (mup (mup M c (.dK (putD ps (.inl o) (.bl true)))) dx (.own x)) x (.ins C_Pen dx (penF (.int o) b))) pd (.dK (putD pns (.inl o) (.ref x)))) x = some (.ins C_Pen dx (penF (.int o) b)) := by rw [mup_ne (Ne.symm pdx), mup_same]
  obtain ⟨xs, hq, st⟩ := w.qq
  have len1 := putD_len ps (.inl o) (.bl true)
  have len2 := putD_len pns (.inl o) (.ref x)
  refine ⟨m1, ⟨⟨putD ps (.inl o) (.bl true), putD pns (.inl o) (.ref x), ⟨⟨dr, pr _ _ hr (fun _ z => by cases z)⟩, ?_, ?_, ?_, rg.ab, rg.ac, rg.bc⟩, mup_same, fun u hu => ?_, fun u d hu => ?_, by omega, by omega⟩, w.da, w.db, w.dc, w.nm, w.ij, ⟨xs, pr _ _ hq (fun _ z => by cases z), st⟩, w.sl, Nat.le_trans w.l1 (Nat.le_succ _), Nat.le_trans w.l2 (Nat.le_succ _)⟩, ⟨fun _ _ h => h, fun _ h => h, fun u xs n h => pr _ _ h (fun _ z => by cases z), fun u h => ?_⟩, ⟨_, .ref x, mup_same, by rw [valD_put, if_pos rfl]⟩⟩
  · rw [mup_ne (Ne.symm w.da), mup_ne ax, mup_ne ad, mup_ne rg.ac]; exact rg.ra
  · rw [mup_ne (Ne.symm w.db), mup_ne bx, mup_ne bd, mup_ne rg.bc]; exact rg.rb
  · rw [mup_ne (Ne.symm w.dc), mup_ne cx, mup_ne cd_, mup_same]
  · rw [valD_put] at hu ⊢
    by_cases e : (Sum.inl u : L2.Key) = .inl o
    · rw [if_pos e] at hu; cases hu
    · rw [if_neg e] at hu ⊢
      exact e3 u hu
  · rw [valD_put] at hu
    by_cases e : (Sum.inl u : L2.Key) = .inl o
    · injection e with e
      subst e
      rw [if_pos rfl] at hu
      injection hu with hu
      exact ⟨x, dx, hu.symm, xat⟩
    · rw [if_neg e] at hu
      obtain ⟨y, dy, e1, e2⟩ := e4 u d hu
      exact ⟨y, dy, e1, pr _ _ e2 (fun _ z => by cases z)⟩
  · obtain ⟨pn, d', h1, h2⟩ := h
    rw [hpd] at h1
    injection h1 with h1
    injection h1 with h1
    subst h1
    refine ⟨_, if (Sum.inl u : L2.Key) = .inl o then .ref x else d', mup_same, ?_⟩
    rw [valD_put]
    split
    · rfl
    · exact h2
end
end Vk
set_option linter.unusedVariables false
set_option linter.unusedSimpArgs false
namespace Vk
open PySem PySem.Spec PyProof.Rows L2

theorem lt_of_sorted : ∀ {l : List Int}, l.Pairwise (· ≤ ·) → l.Nodup → l.Pairwise (· < ·)
  | [], _, _ => .nil
  | x :: l, h, d => by
    obtain ⟨h1, h2⟩ := List.pairwise_cons.mp h
    obtain ⟨d1, d2⟩ := List.nodup_cons.mp d
    refine List.pairwise_cons.mpr ⟨fun y hy => ?_, lt_of_sorted h2 d2⟩
    have a := h1 y hy
    have b : x ≠ y := fun z => d1 (z ▸ hy)
    omega
theorem sorted_own {os so : List Int} (ho : OwOk os) (h1 : so.Perm os) (h2 : so.Pairwise (· ≤ ·)) : so.Pairwise (· < ·) := lt_of_sorted h2 (h1.nodup_iff.mpr ho.d)

theorem body_four {h n m : Int} (hn : n < 4) : ∀ h' n' m', toP (bodyD h' n' m') = toP (bodyD h n m) → n' < 4 := fun h' n' m' z => by rw [(bodyD_inj z).2.1]; exact hn
theorem OwOk.qn {os : List Int} (h : OwOk os) : 3 ≤ qn os.length ∧ Vk.qn os.length ≤ os.length ∧ ((Vk.qn os.length : Nat) : Int) = 2 * ((((os.length : Nat) : Int) - 1) / 3) + 1 := by
  have := h.len
  unfold Vk.qn
  omega
/-- a certificate that was made -/
structure Made (ns ss : List (L2.Key × Dv)) (H : Dv) (h n : Int) (m : Nat) (ow few : List Int) : Prop where
  hn : 0 ≤ n ∧ n < 4
  p : few.Pairwise (· < ·)
  s : ∀ o ∈ few, o ∈ ow
  q : qn ow.length ≤ few.length
  l : few.length ≤ 10
  v : valD ns (keyH H) = some (.int (m : Nat))
  hm : m ≤ 10000
  y : ∀ o ∈ few, sealedD ss (.int o) (bodyD h n (m : Nat)) = true
section
variable {P : Program} {w : World} {K : PySem.W.Frag} {mg : Str → Option Value} {base : Heap} {aMANY_PLACES C_Registry C_Pen : Addr}

@[irreducible] def F_pens (C_Registry C_Pen : Addr) : DF := fun ds M Q => ∃ q p pd a b c ns ss N, ∃ (os : List Int) (v : Dv), ds = [.ref p, v, .ref pd] ∧ (v = .tup (os.map .int) ∨ v = .lst (os.map .int)) ∧ Wo C_Registry C_Pen M q p pd a b c ns ss N ∧ N + os.length ≤ 9000 ∧
  ∀ M', Wo C_Registry C_Pen M' q p pd a b c ns ss (N + os.length) → Ext M M' q pd ns ns ss ss → (∀ o ∈ os, PenAt M' pd o) → Q .non M'
theorem len_pens : ∀ ds M R, F_pens C_Registry C_Pen ds M R → ds.length = ["registry", "owners", "pens"].length := by
  intro ds M R hF
  unfold F_pens at hF
  obtain ⟨q, p, pd, a, b, c, ns, ss, N, os, v, rfl, _⟩ := hF
  rfl
theorem pens_go {M : MH} {q p pd a b c : Addr} {ns ss : List (L2.Key × Dv)} {N : Nat} {os : List Int} {v : Dv} {Q : DK} (hv : v = .tup (os.map .int) ∨ v = .lst (os.map .int)) (w : Wo C_Registry C_Pen M q p pd a b c ns ss N) (l : N + os.length ≤ 9000)
    (k : ∀ M', Wo C_Registry C_Pen M' q p pd a b c ns ss (N + os.length) → Ext M M' q pd ns ns ss ss → (∀ o ∈ os, PenAt M' pd o) → Q .non M') : F_pens C_Registry C_Pen [.ref p, v, .ref pd] M Q := by
  unfold F_pens
  exact ⟨q, p, pd, a, b, c, ns, ss, N, os, v, rfl, hv, w, l, k⟩
abbrev s_pens : Stmt := top 30
theorem sc_pens : FnScope ["registry", "owners", "pens", "owner"] ["registry", "owners", "pens"] (defScope s_pens) := ⟨rfl, rfl, rfl, by decide +kernel, rfl, by decide +kernel, by decide +kernel⟩
theorem ok_pens {f : Addr} {fd : FuncData} (Fn : L2.Fun K "_law_pens" "_law_pens" s_pens f fd) (T : Tx K mg aMANY_PLACES C_Registry C_Pen) (M_Registry_pen : DMeth P w K mg base C_Registry "pen" 3 (F_Registry_pen C_Registry C_Pen)) : Gk P w K mg base 4 f fd ["registry", "owners", "pens"] (spD K (F_pens C_Registry C_Pen)) := by
  refine dfun Fn sc_pens (len_pens) (fun cd A out s H E hg hr => ⟨_, _, (ss_one (s_for PassesOwn.never rfl (k_tl (K := K) (dv 1)) (g_name 3 sc_pens.nd)
  (ss_one (s_if (t_cmp (o_notInD hr.units) (dv 3) (dv 2) (by rfl)) (ss_one (s_dput hr.units (dv 2) (dv 3) (d_meth (K := K) hg M_Registry_pen hr (dv 0) (a_cons (dv 3) a_nil)))) ss_nil)))), ?_⟩)
  intro ds M R hF
  unfold F_pens at hF
  obtain ⟨q, p, pd, a, b, c, ns, ss, N, os, v, rfl, hv, w, nl, k⟩ := hF
  have sz : (sizeLine : Nat) = 16777216 := by decide +kernel
  show dFor _ _ _ _ _ _
  unfold dFor
  have go : (∃ I : Nat → DEnv → MH → Prop, I 0 [some (.ref p), some v, some (.ref pd), none] M ∧ (∀ i env M, I i env M → tru M) ∧ (∀ i d env M, (os.map Dv.int)[i]? = some d → I i env M → sName 3 d env M fun env1 M1 => dIfS (dB (dOp (gInD true) (dV 3) (dV 2))) (dDPut (dV 2) (dV 3) (dMethO C_Registry "pen" (F_Registry_pen C_Registry C_Pen) (dV 0) (dACons (dV 3) dANil))) dNext { nx := I (i + 1), rt := R, bk := fun x M' => R .non M', ct := I (i + 1) } env1 M1) ∧ ∀ env M, I (os.map Dv.int).length env M → R .non M) := by
    refine ⟨fun i env M' => ∃ x3, env = [some (.ref p), some v, some (.ref pd), x3] ∧ Wo C_Registry C_Pen M' q p pd a b c ns ss (N + i) ∧ Ext M M' q pd ns ns ss ss ∧ ∀ o ∈ os.take i, PenAt M' pd o, ⟨_, rfl, w, Ext.refl, fun o ho => by cases ho⟩, fun _ _ _ _ => trivial, ?_, ?_⟩
    · rintro i d env M' hd2 ⟨x3, rfl, w', ex, pa⟩
      rw [List.getElem?_map] at hd2
      have il : i < os.length := by
        rcases Nat.lt_or_ge i os.length with z | z
        · exact z
        · rw [List.getElem?_eq_none z] at hd2; cases hd2
      rw [List.getElem?_eq_getElem il] at hd2
      injection hd2 with hd2
      subst hd2
      have tk : ∀ o, o ∈ os.take (i + 1) → o ∈ os.take i ∨ o = os[i] := fun o ho => by
        rw [List.take_add_one, List.getElem?_eq_getElem il] at ho
        rcases List.mem_append.mp ho with z | z
        · exact .inl z
        · exact .inr (List.mem_singleton.mp z)
      generalize os[i] = o at *
      obtain ⟨ps, pns, rg, hpd, e3, e4, l1, l2⟩ := w'.ex
      have dat : dictAt M' (.ref pd) (.int o) = some (pd, pns, .inl o) := by unfold dictAt; simp only [hpd, keyOf]
      unfold gInD
      show (match dictAt M' (.ref pd) (.int o) with | some (_, kds, key) => _ | none => False)
      rw [dat]
      show (if (!(valD pns (.inl o)).isSome) = true then _ else _)
      cases hv2 : valD pns (.inl o) with
      | some d =>
        refine ⟨_, rfl, w'.mono (by omega), ex, fun o' ho' => ?_⟩
        rcases tk o' ho' with z | rfl
        · exact pa o' z
        · exact ⟨pns, d, hpd, hv2⟩
      | none =>
        obtain ⟨dr, hr⟩ := rg.r
        show (match M' p with | some (.ins C' _ fs) => _ | _ => False)
        rw [hr]
        refine ⟨⟨rfl, rfl⟩, p, a, b, c, ns, ss, ps, .int o, .inl o, rfl, rfl, rg, e3 o hv2, by omega, fun x dx hx hdx hne => ?_⟩
        obtain ⟨m1, w2, ex2, pa2⟩ := w'.pen rg hpd e3 e4 l1 l2 hx hdx hne (o := o)
        have dat1 : dictAt (mup (mup (mup M' c (.dK (putD ps (.inl o) (.bl true)))) dx (.own x)) x (.ins C_Pen dx (penF (.int o) b))) (.ref pd) (.int o) = some (pd, pns, .inl o) := by unfold dictAt; simp only [m1, keyOf]
        show (match dictAt (mup (mup (mup M' c (.dK (putD ps (.inl o) (.bl true)))) dx (.own x)) x (.ins C_Pen dx (penF (.int o) b))) (.ref pd) (.int o) with | some (_, kds, key) => _ | none => False)
        rw [dat1]
        refine ⟨by omega, _, rfl, w2, ex.trans ex2, fun o' ho' => ?_⟩
        rcases tk o' ho' with z | rfl
        · exact ex2.k4 _ (pa o' z)
        · exact pa2
    · rintro env M' ⟨x3, rfl, w', ex, pa⟩
      rw [List.length_map] at w' pa
      rw [List.take_length] at pa
      exact k M' w' ex pa
  rcases hv with rfl | rfl
  · exact go
  · exact go
@[irreducible] def F_certified (C_Registry C_Pen : Addr) : DF := fun ds M Q => ∃ q p pd a b c ns ss N, ∃ (x : Dv) (h : Int) (rest : List Dv) (ow : List Int), ds = [.ref q, .ref p, .ref pd, .tup (x :: .int h :: rest), .tup (ow.map .int)] ∧ Wo C_Registry C_Pen M q p pd a b c ns ss N ∧ N ≤ 8000 ∧ ShowOk (.tup (x :: .int h :: rest)) ∧ B60 h ∧ OwOk ow ∧ (∀ o ∈ ow, PenAt M pd o) ∧
  ∀ M' ns' ss' few n m, Wo C_Registry C_Pen M' q p pd a b c ns' ss' (N + 11) → Ext M M' q pd ns ns' ss ss' → Made ns' ss' (.tup (x :: .int h :: rest)) h n m ow few → Q (.tup [.str "certificate", .int n, .tup (few.map .int)]) M'
theorem len_certified : ∀ ds M R, F_certified C_Registry C_Pen ds M R → ds.length = ["state", "registry", "pens", "header", "owners"].length := by
  intro ds M R hF
  unfold F_certified at hF
  obtain ⟨q, p, pd, a, b, c, ns, ss, N, x, h, rest, ow, rfl, _⟩ := hF
  rfl
abbrev s_certified : Stmt := top 31
theorem sc_certified : FnScope ["state", "registry", "pens", "header", "owners", "number", "body", "enough", "few", "owner"] ["state", "registry", "pens", "header", "owners"] (defScope s_certified) := ⟨rfl, rfl, rfl, by decide +kernel, rfl, by decide +kernel, by decide +kernel⟩
theorem ok_certified {f : Addr} {fd : FuncData} (Fn : L2.Fun K "_law_certified" "_law_certified" s_certified f fd) (T : Tx K mg aMANY_PLACES C_Registry C_Pen) (C_next : DCal P w K mg base "_law_next" 1 F_next) (M_Registry_name : DMeth P w K mg base C_Registry "name" 2 (F_Registry_name C_Registry C_Pen)) (M_Pen_seal : DMeth P w K mg base C_Pen "seal" 2 (F_Pen_seal C_Registry C_Pen)) : Gk P w K mg base 3 f fd ["state", "registry", "pens", "header", "owners"] (spD K (F_certified C_Registry C_Pen)) := by
  refine dfun Fn sc_certified (len_certified) (fun cd A out s H E hg hr => ⟨_, _, (ss_cons (s_set (i := 5) sc_certified.nd rfl (Or.inl rfl) (k_call (K := K) hg C_next hr rfl (a_cons (dv 0) (a_cons d_int a_nil))))
  (ss_cons (s_set (i := 6) sc_certified.nd rfl (Or.inl rfl) (d_tup (a_cons d_str (a_cons (k_ix (K := K) (dv 3) d_int) (a_cons (dv 5) (a_cons (d_meth (K := K) hg M_Registry_name hr (dv 1) (a_cons (dv 3) a_nil)) a_nil))))))
  (ss_cons (s_set (i := 7) sc_certified.nd rfl (Or.inl rfl) (d_op (k_add (K := K)) (d_op (k_mul (K := K)) d_int (d_op o_fdiv (d_op o_minus (d_cb (k_len (K := K)) (by rfl) T.len (by decide +kernel) (a_cons (dv 4) a_nil)) d_int) d_int)) d_int))
  (ss_cons (s_set (i := 8) sc_certified.nd rfl (Or.inl rfl) (k_slice (K := K) (d_cb (k_sortedT (K := K)) (by rfl) T.sorted (by decide +kernel) (a_cons (dv 4) a_nil)) p_none (p_some (d_op (k_add (K := K)) (dv 7) (k_call (K := K) hg C_next hr rfl (a_cons (dv 0) (a_cons (d_op (k_add (K := K)) (d_op o_minus (d_cb (k_len (K := K)) (by rfl) T.len (by decide +kernel) (a_cons (dv 4) a_nil)) (dv 7)) d_int) a_nil)))))))
  (ss_cons (s_for PassesOwn.never rfl (k_list_ (K := K) (dv 8)) (g_name 9 sc_certified.nd)
  (ss_one (s_expr (d_meth (K := K) hg M_Pen_seal hr (d_dget hr.units (dv 2) (dv 9) (fun _ _ => rfl)) (a_cons (dv 6) a_nil)))))
  (ss_one (s_ret (d_tup (a_cons d_str (a_cons (dv 5) (a_cons (d_cty (k_tuple (K := K)) (by rfl) T.tuple (by decide +kernel) (a_cons (dv 8) a_nil)) a_nil))))))))))), ?_⟩)
  intro ds M R hF
  unfold F_certified at hF
  obtain ⟨q, p, pd, a, b, c, ns, ss, N, x, h, rest, ow, rfl, w, nl, sh, bh, ho, pa, k⟩ := hF
  have sz : (sizeLine : Nat) = 16777216 := by decide +kernel
  have ol := ho.len
  obtain ⟨q3, q4, q5⟩ := ho.qn
  obtain ⟨xs, hq, st⟩ := w.qq
  refine ⟨q, 4, xs, rfl, hq, st, by decide, by decide, fun n xs1 n0 n1 st1 => ?_⟩
  obtain ⟨w1, x1⟩ := w.draw st1
  generalize mup M q (.lst xs1) = M1 at w1 x1
  have e1 : atI (x :: .int h :: rest) ((1 : Nat) : Int) = some (.int h) := atI_nat (j := 1) rfl
  show (match atI (x :: .int h :: rest) ((1 : Nat) : Int) with | some d => _ | none => False)
  rw [e1]
  obtain ⟨ps, pns, rg, _⟩ := w1.ex
  obtain ⟨dx, hp⟩ := rg.r
  show (match M1 p with | some (.ins C' _ fs) => _ | _ => False)
  rw [hp]
  refine ⟨⟨rfl, rfl⟩, p, a, b, c, ns, ss, ps, _, rfl, rg, w1.ok (by omega), sh, fun m M2 ns2 hn => ?_⟩
  obtain ⟨w2, x2, vm, m1⟩ := w1.name hn
  have mle : m ≤ 10000 := by
    obtain ⟨m', e, _, h2⟩ := w2.nm _ _ vm
    injection e with e
    have := w2.l1
    omega
  refine ⟨⟨by decide, by decide⟩, .inl ⟨by decide, by decide⟩, ?_⟩
  rw [List.length_map]
  refine ⟨ow, rfl, by omega, fun so s1 s2 => ?_⟩
  obtain ⟨xs2, hq2, st2⟩ := w2.qq
  have lt := sorted_own ho s1 s2
  have sol := s1.length_eq
  refine ⟨q, ((ow.length : Nat) : Int) - ((qn ow.length : Nat) : Int) + 1, xs2, by rw [q5, List.length_map], hq2, st2, by omega, by omega, fun v xs3 v0 v1 st3 => ?_⟩
  obtain ⟨w3, x3⟩ := w2.draw st3
  generalize mup M2 q (.lst xs3) = M3 at w3 x3
  rw [← q5]
  have ec : cutD (so.map Dv.int) none (some (((qn ow.length : Nat) : Int) + v)) = (so.take (qn ow.length + v.toNat)).map .int := by
    rw [show ((qn ow.length : Nat) : Int) + v = ((qn ow.length + v.toNat : Nat) : Int) by omega, List.map_take]
    exact cut_to _
  dsimp only [gAdd, gSl]
  rw [ec]
  have few_sub : ∀ o ∈ so.take (qn ow.length + v.toNat), o ∈ ow := fun o h => s1.mem_iff.mp (List.mem_of_mem_take h)
  have few_pw : (so.take (qn ow.length + v.toNat)).Pairwise (· < ·) := lt.sublist (List.take_sublist _ _)
  have few_q : qn ow.length ≤ (so.take (qn ow.length + v.toNat)).length := by rw [List.length_take]; omega
  have few_l : (so.take (qn ow.length + v.toNat)).length ≤ 10 := by rw [List.length_take]; omega
  generalize so.take (qn ow.length + v.toNat) = few at few_sub few_pw few_q few_l
  show dFor _ _ _ _ _ _
  unfold dFor
  refine ⟨fun i env M' => ∃ (ss' : List (L2.Key × Dv)) (x9 : Option Dv), env = [some (.ref q), some (.ref p), some (.ref pd), some (.tup (x :: .int h :: rest)), some (.tup (ow.map .int)), some (.int n), some (bodyD h n (m : Nat)), some (.int ((qn ow.length : Nat) : Int)), some (.lst (few.map .int)), x9] ∧
    Wo C_Registry C_Pen M' q p pd a b c ns2 ss' (N + 1 + i) ∧ Ext M3 M' q pd ns2 ns2 ss ss' ∧ ∀ o ∈ few.take i, sealedD ss' (.int o) (bodyD h n (m : Nat)) = true, ?_, fun _ _ _ _ => trivial, ?_, ?_⟩
  · exact ⟨ss, _, rfl, w3, Ext.refl, fun o ho => by cases ho⟩
  · rintro i d env M' hd2 ⟨ss', x9, rfl, w', ex, se⟩
    rw [List.getElem?_map] at hd2
    have il : i < few.length := by
      rcases Nat.lt_or_ge i few.length with z | z
      · exact z
      · rw [List.getElem?_eq_none z] at hd2; cases hd2
    rw [List.getElem?_eq_getElem il] at hd2
    injection hd2 with hd2
    subst hd2
    have hm : few[i] ∈ ow := few_sub _ (List.getElem_mem il)
    have tk : ∀ o, o ∈ few.take (i + 1) → o ∈ few.take i ∨ o = few[i] := fun o ho => by
      rw [List.take_add_one, List.getElem?_eq_getElem il] at ho
      rcases List.mem_append.mp ho with z | z
      · exact .inl z
      · exact .inr (List.mem_singleton.mp z)
    generalize few[i] = o at *
    have ob := ho.b o hm
    have bo : B60 o := by show _ < _; omega
    obtain ⟨pn, d, h1, h2⟩ := ex.k4 o (x3.k4 o (x2.k4 o (x1.k4 o (pa o hm))))
    obtain ⟨ps', pns', rg', hpd, e3, e4, l1, l2⟩ := w'.ex
    rw [hpd] at h1
    injection h1 with h1
    injection h1 with h1
    subst h1
    obtain ⟨px, pdx, rfl, hx⟩ := e4 o d h2
    have dat : dictAt M' (.ref pd) (.int o) = some (pd, pns', .inl o) := by unfold dictAt; simp only [hpd, keyOf]
    show (match dictAt M' (.ref pd) (.int o) with | some (_, kds, k) => _ | none => False)
    rw [dat]
    show (match valD pns' (.inl o) with | some d => _ | none => False)
    rw [h2]
    show (match M' px with | some (.ins C' _ fs) => _ | _ => False)
    rw [hx]
    have sho : ShowOk (.tup [.int o, bodyD h n (m : Nat)]) := body_show bo bh (by omega) (by omega)
    have wl := w'.l2
    refine ⟨⟨rfl, rfl⟩, px, pdx, .int o, b, ss', bodyD h n (m : Nat), rfl, hx, rg'.rb, by omega, sho, ?_⟩
    obtain ⟨w4, x4⟩ := w'.seal sho (body_four n1)
    refine ⟨_, _, rfl, w4, ex.trans x4, fun o' ho' => ?_⟩
    rcases tk o' ho' with z | rfl
    · exact sealed_mono (se o' z)
    · exact sealed_self
  · rintro env M' ⟨ss', x9, rfl, w', ex, se⟩
    rw [List.length_map] at w' se
    rw [List.take_length] at se
    exact k M' ns2 ss' few n m (w'.mono (by omega)) (((x1.trans x2).trans x3).trans ex) ⟨⟨n0, n1⟩, few_pw, few_sub, few_q, few_l, ex.k1 _ _ (x3.k1 _ _ vm), mle, se⟩
end
end Vk
set_option linter.unusedVariables false
set_option linter.unusedSimpArgs false
namespace Vk
open PySem PySem.Spec PyProof.Rows L2

theorem dif_key {I : DT} {A B : DE} {env : DEnv} {M : MH} {Q : DK} (P : Dv → MH → Prop) (h : ∀ Q' : DK, (∀ d m, P d m → Q' d m) → dIf I A B env M Q') (key : ∀ d m, P d m → Q d m) : dIf I A B env M Q := h Q key
theorem at_last {α : Type} (xs : List α) (x : α) : atI (xs ++ [x]) (-1) = some x := by
  unfold atI ixN
  rw [if_neg (by decide), if_pos (by rw [List.length_append]; show -((xs.length + 1 : Nat) : Int) ≤ -1; omega)]
  have : ((-1 : Int) + ((xs ++ [x]).length : Int)).toNat = xs.length := by rw [List.length_append]; show ((-1 : Int) + ((xs.length + 1 : Nat) : Int)).toNat = _; omega
  rw [this]
  show (xs ++ [x])[xs.length]? = _
  rw [List.getElem?_append_right (Nat.le_refl _), Nat.sub_self]
  rfl
/-- a header of the chain, at its height -/
structure HdC (i : Nat) (H : Dv) (p : Int) (os : List Int) : Prop where
  e : ∃ b r, H = hdrV (i : Int) p b r os ∧ 0 ≤ b ∧ b < 100 ∧ 0 ≤ r ∧ r < 100
  p0 : 0 ≤ p ∧ p ≤ 10000
  o : OwS os
/-- a head behind a header -/
structure Lnk (ns ss : List (L2.Key × Dv)) (i : Nat) (H H' cert : Dv) : Prop where
  ex : ∃ p os p' os' n m few, HdC i H p os ∧ HdC (i + 1) H' p' os' ∧ valD ns (keyH H) = some (.int p') ∧ cert = .tup [.str "certificate", .int n, .tup (few.map .int)] ∧ Made ns ss H' ((i + 1 : Nat) : Int) n m os few
structure Ch (ns ss : List (L2.Key × Dv)) (Hs hs : List Dv) : Prop where
  l : Hs.length = hs.length + 1
  H : ∀ i H, Hs[i]? = some H → ∃ p os, HdC i H p os
  c : ∀ i d, hs[i]? = some d → ∃ H H' cert, Hs[i]? = some H ∧ Hs[i + 1]? = some H' ∧ d = .tup [H', cert] ∧ Lnk ns ss i H H' cert
/-- the owners of all headers but the last have pens -/
def Pn (M : MH) (pd : Addr) (Hs hs : List Dv) : Prop := ∀ i H p os, i < hs.length → Hs[i]? = some H → HdC i H p os → ∀ o ∈ os, PenAt M pd o
theorem HdC.same {i : Nat} {H : Dv} {p p' : Int} {os os' : List Int} (h : HdC i H p os) (h' : HdC i H p' os') : p = p' ∧ os = os' := by
  obtain ⟨b, r, e, _⟩ := h.e
  obtain ⟨b', r', e', _⟩ := h'.e
  rw [e] at e'
  simp only [hdrV, hdrL] at e'
  injection e' with e'
  injection e' with _ e'
  injection e' with _ e'
  injection e' with e1 e'
  injection e' with _ e'
  injection e' with _ e'
  injection e' with e2 _
  injection e1 with e1
  injection e2 with e2
  refine ⟨e1, ?_⟩
  have := congrArg (List.map intOf) e2
  rw [int_of_map, int_of_map] at this
  exact this
theorem Made.ext {ns ns' ss ss' : List (L2.Key × Dv)} {H : Dv} {h n : Int} {m : Nat} {ow few : List Int} (k1 : ∀ k v, valD ns k = some v → valD ns' k = some v) (k2 : ∀ k, (valD ss k).isSome = true → (valD ss' k).isSome = true) (x : Made ns ss H h n m ow few) : Made ns' ss' H h n m ow few :=
  ⟨x.hn, x.p, x.s, x.q, x.l, k1 _ _ x.v, x.hm, fun o ho => k2 _ (x.y o ho)⟩
theorem Ch.ext {ns ns' ss ss' : List (L2.Key × Dv)} {Hs hs : List Dv} (k1 : ∀ k v, valD ns k = some v → valD ns' k = some v) (k2 : ∀ k, (valD ss k).isSome = true → (valD ss' k).isSome = true) (x : Ch ns ss Hs hs) : Ch ns' ss' Hs hs := by
  refine ⟨x.l, x.H, fun i d h => ?_⟩
  obtain ⟨H, H', cert, h1, h2, h3, ⟨p, os, p', os', n, m, few, g1, g2, g3, g4, g5⟩⟩ := x.c i d h
  exact ⟨H, H', cert, h1, h2, h3, ⟨p, os, p', os', n, m, few, g1, g2, k1 _ _ g3, g4, g5.ext k1 k2⟩⟩
theorem Ch.app {ns ss : List (L2.Key × Dv)} {Hi hs : List Dv} {H H' cert : Dv} (x : Ch ns ss (Hi ++ [H]) hs) (l : Lnk ns ss Hi.length H H' cert) : Ch ns ss ((Hi ++ [H]) ++ [H']) (hs ++ [.tup [H', cert]]) := by
  have hl := x.l
  rw [List.length_append] at hl
  have hl : Hi.length = hs.length := by
    have : Hi.length + 1 = hs.length + 1 := hl
    omega
  have a1 : (Hi ++ [H])[Hi.length]? = some H := by rw [List.getElem?_append_right (Nat.le_refl _), Nat.sub_self]; rfl
  have a2 : ((Hi ++ [H]) ++ [H'])[Hi.length + 1]? = some H' := by
    rw [List.getElem?_append_right (by rw [List.length_append]; show Hi.length + 1 ≤ Hi.length + 1; omega), List.length_append]
    show [H'][Hi.length + 1 - (Hi.length + 1)]? = _
    rw [Nat.sub_self]
    rfl
  have up : ∀ {i : Nat} {d : Dv}, (Hi ++ [H])[i]? = some d → ((Hi ++ [H]) ++ [H'])[i]? = some d := fun {i d} h => by
    rw [List.getElem?_append_left (List.getElem?_eq_some_iff.mp h).1]
    exact h
  refine ⟨by simp only [List.length_append, List.length_cons, List.length_nil]; omega, fun i d h => ?_, fun i d h => ?_⟩
  · by_cases c : i < (Hi ++ [H]).length
    · rw [List.getElem?_append_left c] at h
      exact x.H i d h
    · have c' : i = Hi.length + 1 := by
        have := (List.getElem?_eq_some_iff.mp h).1
        simp only [List.length_append, List.length_cons, List.length_nil] at this c
        omega
      subst c'
      rw [a2] at h
      injection h with h
      subst h
      obtain ⟨p, os, p', os', n, m, few, g1, g2, _⟩ := l.ex
      exact ⟨p', os', g2⟩
  · by_cases c : i < hs.length
    · rw [List.getElem?_append_left c] at h
      obtain ⟨A, B, cert', h1, h2, h3, h4⟩ := x.c i d h
      exact ⟨A, B, cert', up h1, up h2, h3, h4⟩
    · have c' : i = Hi.length := by
        have := (List.getElem?_eq_some_iff.mp h).1
        simp only [List.length_append, List.length_cons, List.length_nil] at this
        omega
      subst c'
      rw [hl, List.getElem?_append_right (Nat.le_refl _), Nat.sub_self] at h
      injection h with h
      subst h
      exact ⟨H, H', cert, up a1, a2, rfl, l⟩
theorem HdC.ok {i : Nat} {H : Dv} {p : Int} {os : List Int} (h : HdC i H p os) (hi : i ≤ 1000) : ShowOk H := by
  obtain ⟨b, r, rfl, b0, b1, r0, r1⟩ := h.e
  have p0 := h.p0
  have hl := h.o.k.len
  have g1 : Shw 61 0 (.str "header") := (Gd.txt (s := "header") (by decide +kernel) (by decide +kernel) (by decide +kernel)).s.mono (by decide) (by decide)
  have go : Shw 1000 1 (.tup (os.map .int)) := Shw.tup (n := 61) (m := 0) (fun d hd' => by
    obtain ⟨o, ho, rfl⟩ := List.mem_map.mp hd'
    have := h.o.k.b o ho
    exact Shw.int60 (by omega)) (by rw [List.length_map]; omega) (by decide)
  refine Shw.show_ (n := 10000) (m := 2) (Shw.tup (n := 1000) (m := 1) (fun d hd' => ?_) (by show 6 * 1000 + 2 * 6 + 3 ≤ 10000; decide) (by decide)) (by decide) (by decide)
  simp only [hdrL, List.mem_cons, List.not_mem_nil, or_false] at hd'
  rcases hd' with rfl | rfl | rfl | rfl | rfl | rfl
  · exact g1.mono (by decide) (by decide)
  · exact (Shw.int60 (by omega)).mono (by decide) (by decide)
  · exact (Shw.int60 (by omega)).mono (by decide) (by decide)
  · exact (Shw.int60 (by omega)).mono (by decide) (by decide)
  · exact (Shw.int60 (by omega)).mono (by decide) (by decide)
  · exact go
section
variable {C_Registry C_Pen : Addr} {M : MH} {q p pd a b c : Addr} {ns ss : List (L2.Key × Dv)} {N : Nat}
/-- a list comes or changes, not that of the draws -/
theorem Wo.lst {l : Addr} {ys : List Dv} (w : Wo C_Registry C_Pen M q p pd a b c ns ss N) (h : M l = none ∨ ∃ xs, M l = some (.lst xs)) (lq : l ≠ q) : Wo C_Registry C_Pen (mup M l (.lst ys)) q p pd a b c ns ss N := by
  obtain ⟨xs, hq, st⟩ := w.qq
  refine w.keep (fun u o hu nl => ?_) ⟨xs, by rw [mup_ne (Ne.symm lq)]; exact hq, st⟩
  rw [mup_ne (fun z => by
    subst z
    rcases h with h | ⟨xs, h⟩
    · rw [h] at hu; cases hu
    · rw [h] at hu; injection hu with hu; exact nl _ hu.symm)]
  exact hu
theorem PenAt.lst {l : Addr} {ys : List Dv} {o : Int} (h : M l = none ∨ ∃ xs, M l = some (.lst xs)) (x : PenAt M pd o) : PenAt (mup M l (.lst ys)) pd o := by
  obtain ⟨pns, d, h1, h2⟩ := x
  refine ⟨pns, d, ?_, h2⟩
  rw [mup_ne (fun z => by
    subst z
    rcases h with h | ⟨xs, h⟩
    · rw [h] at h1; cases h1
    · rw [h] at h1; cases h1)]
  exact h1
end
section
variable {P : Program} {w : World} {K : PySem.W.Frag} {mg : Str → Option Value} {base : Heap} {aMANY_PLACES C_Registry C_Pen : Addr}

theorem certified_go {M : MH} {q p pd a b c : Addr} {ns ss : List (L2.Key × Dv)} {N : Nat} {x : Dv} {h : Int} {rest : List Dv} {ow : List Int} {Q : DK} (w : Wo C_Registry C_Pen M q p pd a b c ns ss N) (l : N ≤ 8000) (sh : ShowOk (.tup (x :: .int h :: rest))) (bh : B60 h) (ho : OwOk ow) (pa : ∀ o ∈ ow, PenAt M pd o)
    (k : ∀ M' ns' ss' few n m, Wo C_Registry C_Pen M' q p pd a b c ns' ss' (N + 11) → Ext M M' q pd ns ns' ss ss' → Made ns' ss' (.tup (x :: .int h :: rest)) h n m ow few → Q (.tup [.str "certificate", .int n, .tup (few.map .int)]) M') :
    F_certified C_Registry C_Pen [.ref q, .ref p, .ref pd, .tup (x :: .int h :: rest), .tup (ow.map .int)] M Q := by
  unfold F_certified
  exact ⟨q, p, pd, a, b, c, ns, ss, N, x, h, rest, ow, rfl, w, l, sh, bh, ho, pa, k⟩
def F_chain (C_Registry C_Pen : Addr) : DF := fun ds M Q => ∃ q p a b c xs, ds = [.ref q, .ref p] ∧ RegAt C_Registry M p a b c [] [] [] ∧ M q = some (.lst xs) ∧ StOk xs ∧
  ∀ M' pd lH lh ns ss Hs hs, Wo C_Registry C_Pen M' q p pd a b c ns ss 300 → M' lH = some (.lst Hs) → M' lh = some (.lst hs) → lH ≠ q → lh ≠ q → lH ≠ lh → Ch ns ss Hs hs → Pn M' pd Hs hs → 1 ≤ hs.length → hs.length ≤ 6 → Q (.tup [.ref pd, .ref lH, .ref lh]) M'
theorem len_chain : ∀ ds M R, F_chain C_Registry C_Pen ds M R → ds.length = ["state", "registry"].length := by
  rintro _ _ _ ⟨q, p, a, b, c, xs, rfl, _⟩
  rfl
abbrev s_chain : Stmt := top 32
theorem sc_chain : FnScope ["state", "registry", "pens", "headers", "heads", "k", "last", "owners", "header"] ["state", "registry"] (defScope s_chain) := ⟨rfl, rfl, rfl, by decide +kernel, rfl, by decide +kernel, by decide +kernel⟩
theorem ok_chain {f : Addr} {fd : FuncData} (Fn : L2.Fun K "_law_chain" "_law_chain" s_chain f fd) (T : Tx K mg aMANY_PLACES C_Registry C_Pen) (C_pens : DCal P w K mg base "_law_pens" 4 (F_pens C_Registry C_Pen)) (C_owners : DCal P w K mg base "_law_owners" 2 F_owners) (C_next : DCal P w K mg base "_law_next" 1 F_next) (C_certified : DCal P w K mg base "_law_certified" 3 (F_certified C_Registry C_Pen)) (M_Registry_name : DMeth P w K mg base C_Registry "name" 2 (F_Registry_name C_Registry C_Pen)) : Gk P w K mg base 5 f fd ["state", "registry"] (spD K (F_chain C_Registry C_Pen)) := by
  refine dfun Fn sc_chain (len_chain) (fun cd A out s H E hg hr => ⟨_, _, (ss_cons (s_set (i := 2) sc_chain.nd rfl (Or.inl rfl) d_dic0)
  (ss_cons (s_set (i := 3) sc_chain.nd rfl (Or.inl rfl) (d_lstM (a_cons (d_tup (a_cons d_str (a_cons d_int (a_cons d_int (a_cons d_int (a_cons (d_op (k_add (K := K)) d_int (k_call (K := K) hg C_next hr rfl (a_cons (dv 0) (a_cons d_int a_nil)))) (a_cons (k_call (K := K) hg C_owners hr rfl (a_cons (dv 0) a_nil)) a_nil))))))) a_nil)))
  (ss_cons (s_set (i := 4) sc_chain.nd rfl (Or.inl rfl) (d_lstM a_nil))
  (ss_cons (s_for PassesOwn.never rfl (w_range1 rfl T.range (a_cons (d_op (k_add (K := K)) d_int (k_call (K := K) hg C_next hr rfl (a_cons (dv 0) (a_cons d_int a_nil)))) a_nil)) (g_name 5 sc_chain.nd)
  (ss_cons (s_set (i := 6) sc_chain.nd rfl (Or.inl rfl) (k_ix (K := K) (dv 3) (d_neg d_int)))
  (ss_cons (s_set (i := 7) sc_chain.nd rfl (Or.inl rfl) (d_if (t_cmp (k_eq (K := K) hr.units) (k_call (K := K) hg C_next hr rfl (a_cons (dv 0) (a_cons d_int a_nil))) d_int (nomark _)) (k_ix (K := K) (dv 6) d_int) (k_call (K := K) hg C_owners hr rfl (a_cons (dv 0) a_nil))))
  (ss_cons (s_set (i := 8) sc_chain.nd rfl (Or.inl rfl) (d_tup (a_cons d_str (a_cons (d_op (k_add (K := K)) (k_ix (K := K) (dv 6) d_int) d_int) (a_cons (d_meth (K := K) hg M_Registry_name hr (dv 1) (a_cons (dv 6) a_nil)) (a_cons (k_call (K := K) hg C_next hr rfl (a_cons (dv 0) (a_cons d_int a_nil))) (a_cons (k_call (K := K) hg C_next hr rfl (a_cons (dv 0) (a_cons d_int a_nil))) (a_cons (dv 7) a_nil))))))))
  (ss_cons (s_expr (k_call (K := K) hg C_pens hr rfl (a_cons (dv 1) (a_cons (k_ix (K := K) (dv 6) d_int) (a_cons (dv 2) a_nil)))))
  (ss_cons (s_expr (d_bm PySem.F.plainAttrs_list PySem.F.slot_list_append PySem.F.type_list_append mt_append mt_app (dv 4) (a_cons (d_tup (a_cons (dv 8) (a_cons (k_call (K := K) hg C_certified hr rfl (a_cons (dv 0) (a_cons (dv 1) (a_cons (dv 2) (a_cons (dv 8) (a_cons (k_ix (K := K) (dv 6) d_int) a_nil)))))) a_nil))) a_nil)))
  (ss_one (s_expr (d_bm PySem.F.plainAttrs_list PySem.F.slot_list_append PySem.F.type_list_append mt_append mt_app (dv 3) (a_cons (dv 8) a_nil))))))))))
  (ss_one (s_ret (d_tup (a_cons (dv 2) (a_cons (dv 3) (a_cons (dv 4) a_nil)))))))))), ?_⟩)
  rintro ds M R ⟨q, p, a, b, c, xs, rfl, rg, hq, st, k⟩
  have sz : (sizeLine : Nat) = 16777216 := by decide +kernel
  intro pd hpd
  have far : ∀ {u o}, M u = some o → u ≠ pd := fun {u o} h z => by subst z; rw [hpd] at h; cases h
  have w0 : Wo C_Registry C_Pen (mup M pd (.dK [])) q p pd a b c [] [] 0 := by
    obtain ⟨dx, hp⟩ := rg.r
    exact ⟨⟨[], [], ⟨⟨dx, by rw [mup_ne (far hp)]; exact hp⟩, by rw [mup_ne (far rg.ra)]; exact rg.ra, by rw [mup_ne (far rg.rb)]; exact rg.rb, by rw [mup_ne (far rg.rc)]; exact rg.rc, rg.ab, rg.ac, rg.bc⟩, mup_same, (fun o h => h), (fun o d h => by cases h), Nat.le_refl _, Nat.le_refl _⟩,
      Ne.symm (far rg.ra), Ne.symm (far rg.rb), Ne.symm (far rg.rc), (fun k d h => by cases h), (fun k k' v h => by cases h), ⟨xs, by rw [mup_ne (far hq)]; exact hq, st⟩, (fun o h n m _ _ _ _ z => by cases z), Nat.le_refl _, Nat.le_refl _⟩
  have hq0 : (mup M pd (.dK [])) q = some (.lst xs) := by rw [mup_ne (far hq)]; exact hq
  generalize mup M pd (.dK []) = M0 at w0 hq0
  clear far hpd hq rg
  refine ⟨q, 50, xs, rfl, hq0, st, by decide, by decide, fun v xs1 v0 v1 st1 => ?_⟩
  refine ⟨q, xs1, rfl, mup_same, st1, fun os xs2 ho st2 => ?_⟩
  rw [mup_mup]
  obtain ⟨w1, _⟩ := w0.draw st2
  generalize hM1 : mup M0 q (.lst xs2) = M1 at w1
  clear hM1 w0
  obtain ⟨ys, hq1, _⟩ := w1.qq
  intro lH hlH
  have lHq : lH ≠ q := fun z => by subst z; rw [hq1] at hlH; cases hlH
  have w2 := w1.lst (l := lH) (ys := [.tup [.str "header", .int 0, .int 0, .int 0, .int (1 + v), .tup (os.map .int)]]) (.inl hlH) lHq
  intro lh hlh
  obtain ⟨llH, hlh1⟩ := mup_none hlh
  have lhq : lh ≠ q := fun z => by subst z; rw [hq1] at hlh1; cases hlh1
  have w3 := w2.lst (l := lh) (ys := []) (.inl hlh) lhq
  have h3 : (mup (mup M1 lH (.lst [.tup [.str "header", .int 0, .int 0, .int 0, .int (1 + v), .tup (os.map .int)]])) lh (.lst [])) lH = some (.lst [hdrV ((0 : Nat) : Int) 0 0 (1 + v) os]) := by rw [mup_ne (Ne.symm llH), mup_same]; rfl
  have h4 : (mup (mup M1 lH (.lst [.tup [.str "header", .int 0, .int 0, .int 0, .int (1 + v), .tup (os.map .int)]])) lh (.lst [])) lh = some (.lst []) := mup_same
  have ch0 : Ch [] [] [hdrV ((0 : Nat) : Int) 0 0 (1 + v) os] [] := by
    refine ⟨rfl, fun i H h => ?_, fun i d h => by cases h⟩
    match i, h with
    | 0, h =>
      injection h with h
      subst h
      exact ⟨0, os, ⟨0, 1 + v, rfl, by decide, by decide, by omega, by omega⟩, by decide, ho⟩
    | i + 1, h => cases h
  show dFor _ _ _ _ _ _
  unfold dFor
  have hqs : (mup (mup M1 lH (.lst [.tup [.str "header", .int 0, .int 0, .int 0, .int (1 + v), .tup (os.map .int)]])) lh (.lst [])) q = some (.lst ys) := by rw [mup_ne (Ne.symm lhq), mup_ne (Ne.symm lHq)]; exact hq1
  obtain ⟨ys', hq3, st3⟩ := w3.qq
  generalize mup (mup M1 lH (.lst [.tup [.str "header", .int 0, .int 0, .int 0, .int (1 + v), .tup (os.map .int)]])) lh (.lst []) = M3 at w3 h3 h4 hq3
  clear w2 hqs hlh hlh1 hlH hq1 w1
  refine ⟨q, 6, ys', rfl, hq3, st3, by decide, by decide, fun v6 xs6 v60 v61 st6 => ?_⟩
  obtain ⟨w4, x4⟩ := w3.draw st6
  have h3' := x4.k3 _ _ lHq h3
  have h4' := x4.k3 _ _ lhq h4
  generalize mup M3 q (.lst xs6) = M4 at w4 h3' h4'
  obtain ⟨t, rfl⟩ : ∃ t : Nat, v6 = (t : Int) := ⟨v6.toNat, by omega⟩
  show -(2 ^ 62) ≤ (1 : Int) + (t : Int) ∧ _
  rw [show (1 : Int) + (t : Int) = ((t + 1 : Nat) : Int) by omega]
  refine ⟨by omega, by omega, fun i env M' => ∃ (ns ss : List (L2.Key × Dv)) (Hs hs : List Dv) (x5 x6 x7 x8 : Option Dv), env = [some (.ref q), some (.ref p), some (.ref pd), some (.ref lH), some (.ref lh), x5, x6, x7, x8] ∧ Wo C_Registry C_Pen M' q p pd a b c ns ss (45 * i) ∧ M' lH = some (.lst Hs) ∧ M' lh = some (.lst hs) ∧ Ch ns ss Hs hs ∧ Pn M' pd Hs hs ∧ hs.length = i, ?_, fun _ _ _ _ => trivial, ?_, ?_⟩
  · exact ⟨[], [], _, [], _, _, _, _, rfl, w4, h3', h4', ch0, (fun i H p os h => by cases h), rfl⟩
  · clear w4 h3' h4' ch0 w3 h3 h4
    rintro i d env M' hd ⟨ns, ss, Hs, hs, x5, x6, x7, x8, rfl, w, hH, hh, ch, pn, hl⟩
    obtain ⟨rfl, hi⟩ := range_at hd
    have hi : i < t + 1 := hi
    obtain ⟨Hi, H, rfl⟩ : ∃ Hi H, Hs = Hi ++ [H] := by
      rcases List.eq_nil_or_concat Hs with z | ⟨A, B, z⟩
      · have := ch.l
        rw [z] at this
        cases this
      · exact ⟨A, B, by rw [z, List.concat_eq_append]⟩
    have hil : Hi.length = i := by
      have := ch.l
      rw [List.length_append] at this
      have : Hi.length + 1 = hs.length + 1 := this
      omega
    obtain ⟨pH, osH, hc⟩ := ch.H i H (by rw [← hil, List.getElem?_append_right (Nat.le_refl _), Nat.sub_self]; rfl)
    have shH := hc.ok (by omega)
    obtain ⟨bH, rH, eH, _⟩ := hc.e
    refine ix_go hH (at_last Hi H) _ ?_
    subst eH
    have f1 : atI (hdrL (i : Int) pH bH rH osH) ((1 : Nat) : Int) = some (.int (i : Int)) := atI_nat (j := 1) rfl
    have f5 : atI (hdrL (i : Int) pH bH rH osH) ((5 : Nat) : Int) = some (.tup (osH.map .int)) := atI_nat (j := 5) rfl
    obtain ⟨xs7, hq7, st7⟩ := w.qq
    dsimp only [dNext, dSeq, dSet]
    refine dif_key (fun d m => ∃ os' xs', d = .tup (os'.map .int) ∧ OwS os' ∧ m = mup M' q (.lst xs') ∧ StOk xs') (fun Q' hk => ?_) ?_
    · refine ⟨q, 2, xs7, rfl, hq7, st7, by decide, by decide, fun v2 xs8 v20 v21 st8 => ?_⟩
      show (if decide (v2 = 0) = true then _ else _)
      refine iteB (fun z => ?_) (fun z => ?_)
      · show (match atI (hdrL (i : Int) pH bH rH osH) ((5 : Nat) : Int) with | some d => _ | none => False)
        rw [f5]
        exact hk _ _ ⟨osH, xs8, rfl, hc.o, rfl, st8⟩
      · refine ⟨q, xs8, rfl, mup_same, st8, fun os' xs9 ho' st9 => ?_⟩
        rw [mup_mup]
        exact hk _ _ ⟨os', xs9, rfl, ho', rfl, st9⟩
    · rintro d m ⟨os', xs9, rfl, ho', rfl, st9⟩
      obtain ⟨w5, x5⟩ := w.draw st9
      generalize mup M' q (.lst xs9) = M5 at w5 x5
      show (match atI (hdrL (i : Int) pH bH rH osH) ((1 : Nat) : Int) with | some d => _ | none => False)
      rw [f1]
      obtain ⟨ps, pns, rg5, _⟩ := w5.ex
      obtain ⟨dx, hp⟩ := rg5.r
      show (match M5 p with | some (.ins C' _ fs) => _ | _ => False)
      rw [hp]
      refine ⟨⟨rfl, rfl⟩, p, a, b, c, ns, ss, ps, _, rfl, rg5, w5.ok (by omega), shH, fun m M6 ns6 hn => ?_⟩
      obtain ⟨w6, x6, vm, m1⟩ := w5.name hn
      have mle : m ≤ 10000 := by
        obtain ⟨m', e, _, h2⟩ := w6.nm _ _ vm
        injection e with e
        have := w6.l1
        omega
      clear hn hp rg5
      obtain ⟨xs10, hq10, st10⟩ := w6.qq
      refine ⟨q, 99, xs10, rfl, hq10, st10, by decide, by decide, fun v3 xs11 v30 v31 st11 => ?_⟩
      refine ⟨q, 99, xs11, rfl, mup_same, st11, by decide, by decide, fun v4 xs12 v40 v41 st12 => ?_⟩
      rw [mup_mup]
      obtain ⟨w7, x7⟩ := w6.draw st12
      generalize mup M6 q (.lst xs12) = M7 at w7 x7
      have hc' : HdC (i + 1) (hdrV ((i : Int) + 1) (m : Int) v3 v4 os') (m : Int) os' := ⟨⟨v3, v4, by rw [show ((i + 1 : Nat) : Int) = (i : Int) + 1 by omega], by omega, by omega, by omega, by omega⟩, by omega, ho'⟩
      show (match atI (hdrL (i : Int) pH bH rH osH) ((5 : Nat) : Int) with | some d => _ | none => False)
      rw [f5]
      have hol := hc.o.k.len
      refine pens_go (.inl rfl) w7 (by omega) fun M8 w8 x8 pa8 => ?_
      have hh8 := x8.k3 _ _ lhq (x7.k3 _ _ lhq (x6.k3 _ _ lhq (x5.k3 _ _ lhq hh)))
      have hH8 := x8.k3 _ _ lHq (x7.k3 _ _ lHq (x6.k3 _ _ lHq (x5.k3 _ _ lHq hH)))
      show dMeth1 (dV 4) _ gApp [some (.ref q), some (.ref p), some (.ref pd), some (.ref lH), some (.ref lh), some (.int (0 + (i : Int))), some (hdrV (i : Int) pH bH rH osH), some (.tup (os'.map .int)), some (hdrV ((i : Int) + 1) (m : Int) v3 v4 os')] M8 _
      refine meth_go rfl hh8 ?_
      show (match atI (hdrL (i : Int) pH bH rH osH) ((5 : Nat) : Int) with | some d => _ | none => False)
      rw [f5]
      refine certified_go w8 (by omega) (hc'.ok (by omega)) (by show _ < _; omega) hc.o.k pa8 fun M9 ns9 ss9 few n m9 w9 x9 md => ?_
      have hh9 := x9.k3 _ _ lhq hh8
      have hH9 := x9.k3 _ _ lHq hH8
      show (match M9 lh with | some (.lst ys) => _ | _ => False)
      rw [hh9]
      refine ⟨by omega, ?_⟩
      show dMeth1 (dV 3) _ gApp [some (.ref q), some (.ref p), some (.ref pd), some (.ref lH), some (.ref lh), some (.int (0 + (i : Int))), some (hdrV (i : Int) pH bH rH osH), some (.tup (os'.map .int)), some (hdrV ((i : Int) + 1) (m : Int) v3 v4 os')] _ _
      have w10 := w9.lst (l := lh) (ys := hs ++ [.tup [hdrV ((i : Int) + 1) (m : Int) v3 v4 os', .tup [.str "certificate", .int n, .tup (few.map .int)]]]) (.inr ⟨_, hh9⟩) lhq
      have hH10 : (mup M9 lh (.lst (hs ++ [.tup [hdrV ((i : Int) + 1) (m : Int) v3 v4 os', .tup [.str "certificate", .int n, .tup (few.map .int)]]]))) lH = some (.lst (Hi ++ [hdrV (i : Int) pH bH rH osH])) := by rw [mup_ne (Ne.symm llH)]; exact hH9
      have pn10 : ∀ o, ((∃ i' H' p' os2, i' < hs.length ∧ (Hi ++ [hdrV (i : Int) pH bH rH osH])[i']? = some H' ∧ HdC i' H' p' os2 ∧ o ∈ os2) ∨ o ∈ osH) → PenAt (mup M9 lh (.lst (hs ++ [.tup [hdrV ((i : Int) + 1) (m : Int) v3 v4 os', .tup [.str "certificate", .int n, .tup (few.map .int)]]]))) pd o := fun o ho => by
        refine PenAt.lst (.inr ⟨_, hh9⟩) (x9.k4 _ ?_)
        rcases ho with ⟨i', H', p', os2, h1, h2, h3, h4⟩ | ho
        · exact x8.k4 _ (x7.k4 _ (x6.k4 _ (x5.k4 _ (pn i' H' p' os2 h1 h2 h3 o h4))))
        · exact pa8 o ho
      have hh10 : (mup M9 lh (.lst (hs ++ [.tup [hdrV ((i : Int) + 1) (m : Int) v3 v4 os', .tup [.str "certificate", .int n, .tup (few.map .int)]]]))) lh = some (.lst (hs ++ [.tup [hdrV ((i : Int) + 1) (m : Int) v3 v4 os', .tup [.str "certificate", .int n, .tup (few.map .int)]]])) := mup_same
      generalize mup M9 lh (.lst (hs ++ [.tup [hdrV ((i : Int) + 1) (m : Int) v3 v4 os', .tup [.str "certificate", .int n, .tup (few.map .int)]]])) = M10 at w10 hH10 hh10 pn10
      refine meth_go rfl hH10 ?_
      show (match M10 lH with | some (.lst ys) => _ | _ => False)
      rw [hH10]
      refine ⟨by rw [List.length_append]; show Hi.length + 1 + 1 ≤ sizeLine; omega, ?_⟩
      have k1 : ∀ k v, valD ns k = some v → valD ns9 k = some v := fun k v z => x9.k1 _ _ (x8.k1 _ _ (x7.k1 _ _ (x6.k1 _ _ (x5.k1 _ _ z))))
      have k2 : ∀ k, (valD ss k).isSome = true → (valD ss9 k).isSome = true := fun k z => x9.k2 _ (x8.k2 _ (x7.k2 _ (x6.k2 _ (x5.k2 _ z))))
      have lk : Lnk ns9 ss9 Hi.length (hdrV (i : Int) pH bH rH osH) (hdrV ((i : Int) + 1) (m : Int) v3 v4 os') (.tup [.str "certificate", .int n, .tup (few.map .int)]) := by
        rw [hil]
        refine ⟨pH, osH, (m : Int), os', n, m9, few, hc, hc', x9.k1 _ _ (x8.k1 _ _ (x7.k1 _ _ vm)), rfl, ?_⟩
        rw [show ((i + 1 : Nat) : Int) = (i : Int) + 1 by omega]
        exact md
      refine ⟨ns9, ss9, _, _, _, _, _, _, rfl, (w10.lst (l := lH) (.inr ⟨_, hH10⟩) lHq).mono (by omega), mup_same, by rw [mup_ne llH]; exact hh10, (ch.ext k1 k2).app lk, ?_, by rw [List.length_append, hl]; rfl⟩
      intro i' H' p' os2 hi' eH' hc2 o ho2
      refine PenAt.lst (.inr ⟨_, hH10⟩) (pn10 o ?_)
      rw [List.length_append] at hi'
      have hi' : i' < hs.length + 1 := hi'
      by_cases c : i' < hs.length
      · refine .inl ⟨i', H', p', os2, c, ?_, hc2, ho2⟩
        rw [List.getElem?_append_left (by rw [List.length_append]; show i' < Hi.length + 1; omega)] at eH'
        exact eH'
      · have : i' = Hi.length := by omega
        subst this
        rw [List.append_assoc, List.getElem?_append_right (Nat.le_refl _), Nat.sub_self] at eH'
        have eH' : some (hdrV (i : Int) pH bH rH osH) = some H' := eH'
        injection eH' with eH'
        subst eH'
        rw [hil] at hc2
        obtain ⟨_, e2⟩ := hc.same hc2
        subst e2
        exact .inr ho2
  · rintro env M' ⟨ns, ss, Hs, hs, x5, x6, x7, x8, rfl, w, hH, hh, ch, pn, hl⟩
    rw [intsD_len, Int.toNat_natCast] at hl w
    exact k M' pd lH lh ns ss Hs hs (w.mono (by omega)) hH hh lHq lhq (Ne.symm llH) ch pn (by omega) (by omega)
end
end Vk
set_option linter.unusedVariables false
set_option linter.unusedSimpArgs false
namespace Vk
open PySem PySem.Spec PyProof.Rows L2

abbrev certV (n : Int) (items : List Dv) : Dv := .tup [.str "certificate", .int n, .tup items]
theorem cfor_eq (os : List Int) (n : Int) (items : List Dv) : cforD os (certV n items) = (decide (n ≥ 0) && (decide (qn os.length ≤ items.length) && (items.all (inI os) && ascI (items.map intOf)))) := by
  simp [cforD, signersD, atleastV]
theorem asc_of : ∀ {ns : List Int}, ns.Pairwise (· < ·) → ascI ns = true
  | [], _ => rfl
  | [_], _ => rfl
  | a :: b :: r, h => by
    obtain ⟨h1, h2⟩ := List.pairwise_cons.mp h
    have ih := asc_of h2
    show (decide (a < b) && (ascL (b :: r)).all id) = true
    rw [decide_eq_true (h1 b List.mem_cons_self), Bool.true_and]
    exact ih
theorem asc_to : ∀ {ns : List Int}, ascI ns = true → ns.Pairwise (· < ·)
  | [], _ => .nil
  | [_], _ => List.pairwise_singleton _ _
  | a :: b :: r, h => by
    have h : (decide (a < b) && ascI (b :: r)) = true := h
    rw [Bool.and_eq_true] at h
    have ih := asc_to h.2
    have ab := of_decide_eq_true h.1
    refine List.pairwise_cons.mpr ⟨fun x hx => ?_, ih⟩
    rcases List.mem_cons.mp hx with rfl | hx
    · exact ab
    · have := (List.pairwise_cons.mp ih).1 x hx
      omega
theorem own_yes {os : List Int} (ho : OwOk os) : ownersD (.tup (os.map .int)) = true := by
  show (manyL _ && (_ && decide _)) = true
  rw [List.length_map, ho.l, int_of_map, decide_eq_true ho.d, Bool.true_and, Bool.and_true, List.all_eq_true]
  intro d hd
  obtain ⟨o, h1, rfl⟩ := List.mem_map.mp hd
  have := ho.b o h1
  simp only [intD, Bool.and_eq_true]
  exact ⟨decide_eq_true (by omega), decide_eq_true (by omega)⟩

theorem HdC.yes {i : Nat} {H : Dv} {p : Int} {os : List Int} (h : HdC i H p os) : hdrD H = true := by
  obtain ⟨b, r, rfl, b0, b1, r0, r1⟩ := h.e
  have p0 := h.p0
  have i1 : ∀ i : Int, 0 ≤ i → atleastV 0 (.int i) = true := fun i hi => decide_eq_true hi
  have e : hdrD (hdrV (i : Int) p b r os) = ((atleastV 0 (.int (i : Int)) && (atleastV 0 (.int p) && (atleastV 0 (.int b) && atleastV 0 (.int r)))) && ownersD (.tup (os.map .int))) := by simp [hdrD]
  rw [e, i1 _ (by omega), i1 _ (by omega), i1 _ (by omega), i1 _ (by omega), own_yes h.o.k]
  rfl
theorem HdC.gd {i : Nat} {H : Dv} {p : Int} {os : List Int} (h : HdC i H p os) (hi : i ≤ 1000) : Gd 2000 4 H := by
  obtain ⟨b, r, rfl, b0, b1, r0, r1⟩ := h.e
  have p0 := h.p0
  have hl := h.o.k.len
  have g1 : Gd 41 0 (.str "header") := (Gd.txt (s := "header") (by decide +kernel) (by decide +kernel) (by decide +kernel)).mono (by decide) (by decide)
  have go : Gd 1000 1 (.tup (os.map .int)) := Gd.tup (n := 41) (m := 0) (fun d hd' => by
    obtain ⟨o, ho, rfl⟩ := List.mem_map.mp hd'
    have := h.o.k.b o ho
    exact Gd.int (by omega)) (by rw [List.length_map]; omega) (by decide)
  have gi : ∀ j : Int, j.natAbs < 10 ^ 40 → ∃ k, Gd k 1 (.int j) := fun j hj => ⟨_, (Gd.int hj).mono (Nat.le_refl _) (by decide)⟩
  refine (Gd.sum (n := 2000) (m := 1) (ds := hdrL (i : Int) p b r os) (fun d hd' => ?_) ?_).mono (Nat.le_refl _) (by decide)
  · simp only [hdrL, List.mem_cons, List.not_mem_nil, or_false] at hd'
    rcases hd' with rfl | rfl | rfl | rfl | rfl | rfl
    · exact ⟨_, g1.mono (Nat.le_refl _) (by decide)⟩
    · exact gi _ (by omega)
    · exact gi _ (by omega)
    · exact gi _ (by omega)
    · exact gi _ (by omega)
    · exact ⟨_, go⟩
  · have e1 := g1.s.e
    have e2 := (Gd.int (i := (i : Int)) (by omega)).s.e
    have e3 := (Gd.int (i := p) (by omega)).s.e
    have e4 := (Gd.int (i := b) (by omega)).s.e
    have e5 := (Gd.int (i := r) (by omega)).s.e
    have e6 := go.s.e
    simp only [encVs_cons, List.length_cons, List.length_nil]
    have : encVs [] = 0 := rfl
    omega
theorem cert_gd {n : Int} {few : List Int} (hn : 0 ≤ n ∧ n < 1000) (hl : few.length ≤ 10) (hb : ∀ o ∈ few, 1 ≤ o ∧ o ≤ 999) : Gd 2000 4 (certV n (few.map .int)) := by
  have g1 : Gd 41 0 (.str "certificate") := (Gd.txt (s := "certificate") (by decide +kernel) (by decide +kernel) (by decide +kernel)).mono (by decide) (by decide)
  have go : Gd 500 1 (.tup (few.map .int)) := Gd.tup (n := 41) (m := 0) (fun d hd' => by
    obtain ⟨o, ho, rfl⟩ := List.mem_map.mp hd'
    have := hb o ho
    exact Gd.int (by omega)) (by rw [List.length_map]; omega) (by decide)
  exact Gd.tup (n := 500) (m := 1) (mem3 (g1.mono (by decide) (by decide)) ((Gd.int (by omega)).mono (by decide) (by decide)) go) (by show 3 * 500 + 2 * 3 + 3 ≤ 2000; decide) (by decide)
/-- what a head of the chain is -/
theorem Lnk.gd {ns ss : List (L2.Key × Dv)} {i : Nat} {H H' cert : Dv} (l : Lnk ns ss i H H' cert) (hi : i ≤ 100) : Gd 5000 5 (.tup [H', cert]) := by
  obtain ⟨p, os, p', os', n, m, few, g1, g2, g3, rfl, g5⟩ := l.ex
  have hn := g5.hn
  exact Gd.tup (n := 2000) (m := 4) (mem2 (g2.gd (by omega)) (cert_gd (by omega) g5.l fun o ho => g1.o.k.b o (g5.s o ho))) (by show 2 * 2000 + 2 * 2 + 3 ≤ 5000; decide) (by decide)
theorem HdC.hg {ns : List (L2.Key × Dv)} {i : Nat} {H : Dv} {p nm : Int} {os : List Int} (h : HdC i H p os) (hi : i ≤ 1000) (v : valD ns (keyH H) = some (.int nm)) : HG ns H (i : Int) nm os := by
  obtain ⟨b, r, e, _⟩ := h.e
  have := h.o.k.len
  exact ⟨⟨p, b, r, e⟩, h.ok hi, by show _ < _; omega, h.o.k.b, by omega, v⟩
/-- a head follows the header before it -/
theorem Lnk.fol {ns ss : List (L2.Key × Dv)} {i : Nat} {H H' cert : Dv} (l : Lnk ns ss i H H' cert) (hi : i ≤ 100) : ∃ nm os, HG ns H (i : Int) nm os ∧ folD ns ss (i : Int) nm os (.tup [H', cert]) = true ∧ Pre ns (i : Int) nm os (.tup [H', cert]) := by
  obtain ⟨p, os, p', os', n, m, few, g1, g2, g3, rfl, g5⟩ := l.ex
  refine ⟨p', os, g1.hg (by omega) g3, ?_, fun own c e _ _ _ _ => ?_⟩
  · have hy := g2.yes
    obtain ⟨b, r, eH, _⟩ := g2.e
    have hv := g5.v
    subst eH
    have c1 : cforD os (.tup [.str "certificate", .int n, .tup (few.map .int)]) = true := by
      have := cfor_eq os n (few.map .int)
      rw [int_of_map, asc_of g5.p, decide_eq_true (show n ≥ 0 from g5.hn.1), List.length_map, decide_eq_true g5.q] at this
      have e1 : (few.map Dv.int).all (inI os) = true := by
        rw [List.all_eq_true]
        intro d hd
        obtain ⟨o, h1, rfl⟩ := List.mem_map.mp hd
        exact decide_eq_true (g5.s o h1)
      rw [e1] at this
      exact this
    have c2 : sealsD ns ss (hdrV ((i + 1 : Nat) : Int) p' b r os') (.tup [.str "certificate", .int n, .tup (few.map .int)]) = true := by
      simp only [sealsD, hv]
      rw [List.all_map, List.all_eq_true]
      intro o ho
      exact g5.y o ho
    have c3 : hOf (hdrV ((i + 1 : Nat) : Int) p' b r os') = (i : Int) + 1 := by show ((i + 1 : Nat) : Int) = _; omega
    simp only [folD, hy, c1, c2, c3]
    rw [decide_eq_true (show pOf (hdrV ((i + 1 : Nat) : Int) p' b r os') = p' from rfl)]
    rfl
  · injection e with e
    injection e with e _
    subst e
    exact ⟨m, g5.v⟩
section
variable {ns ss : List (L2.Key × Dv)} {Hs hs : List Dv}
theorem Ch.hg (x : Ch ns ss Hs hs) (h1 : 1 ≤ hs.length) (h6 : hs.length ≤ 6) {s : Nat} {H : Dv} (e : Hs[s]? = some H) : ∃ nm p os, HG ns H (s : Int) nm os ∧ HdC s H p os := by
  have sl := (List.getElem?_eq_some_iff.mp e).1
  have xl := x.l
  by_cases c : s < hs.length
  · obtain ⟨A, B, cert, e1, e2, _, l⟩ := x.c s _ (List.getElem?_eq_getElem c)
    rw [e] at e1
    injection e1 with e1
    subst e1
    obtain ⟨p, os, p', os', n, m, few, g1, g2, g3, _, g5⟩ := l.ex
    exact ⟨_, p, os, g1.hg (by omega) g3, g1⟩
  · obtain ⟨j, rfl⟩ : ∃ j, s = j + 1 := ⟨s - 1, by omega⟩
    obtain ⟨A, B, cert, e1, e2, _, l⟩ := x.c j _ (List.getElem?_eq_getElem (by omega))
    rw [e] at e2
    injection e2 with e2
    subst e2
    obtain ⟨p, os, p', os', n, m, few, g1, g2, g3, _, g5⟩ := l.ex
    exact ⟨_, p', os', g2.hg (by omega) g5.v, g2⟩
/-- a run of heads of the chain -/
theorem Ch.run (x : Ch ns ss Hs hs) (h6 : hs.length ≤ 6) {T out : List Dv} {j : Nat} {J : Dv} (eJ : Hs[j]? = some J) (jd : Jd ns ss J T out) : ∀ (k s : Nat) (H : Dv), s + k = j → Hs[s]? = some H → Jd ns ss H ((hs.drop s).take k ++ T) ((hs.drop s).take k ++ out)
  | 0, s, H, hk, e => by
    have : s = j := by omega
    subst this
    rw [eJ] at e
    injection e with e
    subst e
    exact jd
  | k + 1, s, H, hk, e => by
    have jl := (List.getElem?_eq_some_iff.mp eJ).1
    have xl := x.l
    have c : s < hs.length := by omega
    obtain ⟨A, B, cert, e1, e2, e3, l⟩ := x.c s _ (List.getElem?_eq_getElem c)
    rw [e] at e1
    injection e1 with e1
    subst e1
    have ih := x.run h6 eJ jd k (s + 1) B (by omega) e2
    obtain ⟨nm, os, g, f, pre⟩ := l.fol (by omega)
    rw [List.drop_eq_getElem_cons c, List.take_succ_cons, e3]
    exact .step g pre f ih
theorem Ch.all (x : Ch ns ss Hs hs) (h1 : 1 ≤ hs.length) (h6 : hs.length ≤ 6) {s : Nat} {H : Dv} (e : Hs[s]? = some H) : Jd ns ss H (hs.drop s) (hs.drop s) := by
  have sl := (List.getElem?_eq_some_iff.mp e).1
  have xl := x.l
  obtain ⟨J, eJ⟩ : ∃ J, Hs[hs.length]? = some J := ⟨_, List.getElem?_eq_getElem (by omega)⟩
  obtain ⟨nm, p, os, g, _⟩ := x.hg h1 h6 eJ
  have := x.run h6 eJ (.nil g) (hs.length - s) s H (by omega) e
  rw [List.append_nil] at this
  have e2 : (hs.drop s).take (hs.length - s) = hs.drop s := List.take_of_length_le (by rw [List.length_drop]; omega)
  rw [e2] at this
  exact this
theorem Ch.eld (x : Ch ns ss Hs hs) {i : Nat} {d : Dv} (e : hs[i]? = some d) (h : Int) : elderD h d = decide (((i : Nat) : Int) + 1 ≤ h) := by
  obtain ⟨A, B, cert, e1, e2, rfl, l⟩ := x.c i d e
  obtain ⟨p, os, p', os', n, m, few, g1, g2, g3, _, g5⟩ := l.ex
  have hy := g2.yes
  obtain ⟨b, r, eH, _⟩ := g2.e
  simp only [elderD, hy, Bool.true_and]
  subst eH
  exact decide_eq_decide.mpr (by show ((i + 1 : Nat) : Int) ≤ h ↔ _; omega)
theorem Ch.gd (x : Ch ns ss Hs hs) (h6 : hs.length ≤ 6) {d : Dv} (h : d ∈ hs) : Gd 5000 5 d := by
  obtain ⟨i, hi, rfl⟩ := List.getElem_of_mem h
  obtain ⟨A, B, cert, e1, e2, e3, l⟩ := x.c i _ (List.getElem?_eq_getElem hi)
  rw [e3]
  exact l.gd (by omega)
end
/-- a row that is plain -/
theorem row_ok {row : List Dv} (h : ∀ d ∈ row, Gd 5000 5 d) (l : row.length ≤ 12) (M : MH) : knownD M (.tup row) = true ∧ sizeD (.tup row) ≤ 100000 ∧ txtD (.tup row) = true ∧ plainD 0 (.tup row) = true := by
  have g : Gd 70000 6 (.tup row) := Gd.tup h (by omega) (by decide)
  obtain ⟨k1, k2, k3⟩ := g.s.known (by decide) M
  exact ⟨k1, k2, k3, plain_of _ 0 g.l (by have := g.s.p; omega)⟩
theorem list_show {ds : List Dv} (h : ∀ d ∈ ds, Gd 5000 5 d) (l : ds.length ≤ 12) : okR (.lst ds) = true ∧ (toP (.lst ds)).depth ≤ 60 ∧ (toP (.lst ds)).shown.length ≤ sizeLine := by
  have sz : (sizeLine : Nat) = 16777216 := by decide +kernel
  obtain ⟨a, b⟩ := okV_tup fun d hd => (h d hd).s.o
  refine ⟨?_, ?_, ?_⟩
  · unfold okR
    have e1 : datD (.lst ds) = true := by simpa [datD] using a
    have e2 : PyData.showable (toP (.lst ds)) = true := by
      show PyData.showableAll (toPs ds) = true
      exact okDs_show _ b
    have e3 : PyData.hasDict (toP (.lst ds)) = false := by
      show PyData.hasDictAll (toPs ds) = false
      exact okDs_noDict _ b
    rw [e1, e2, e3]
    rfl
  · have : PyData.depthAll (toPs ds) ≤ 5 := by
      have e := (okVs_facts ds a b).2.2.1
      rw [e]
      exact depDs_le fun d hd => (h d hd).s.p
    simp only [toP, PyData.depth]
    omega
  · have q := listText_le (PyData.shownAll (toPs ds))
    show (listText (PyData.shownAll (toPs ds))).length ≤ sizeLine
    have e : ∀ xs : List Dv, (∀ d ∈ xs, Gd 5000 5 d) → ((PyData.shownAll (toPs xs)).map fun t => t.length + 2).sum ≤ xs.length * 5002 := by
      intro xs
      induction xs with
      | nil => intro _; exact Nat.le_refl _
      | cons x r ih =>
        intro hx
        have i1 := ih fun d hd => hx d (List.mem_cons_of_mem _ hd)
        have g := (hx x List.mem_cons_self).s
        have o := g.o
        unfold okV at o
        rw [Bool.and_eq_true] at o
        have sl := shown_length o.2
        have ge := g.e
        unfold encV at ge
        simp only [toPs, PyData.shownAll, List.map_cons, List.sum_cons, List.length_cons]
        omega
    have := e ds h
    omega
end Vk
set_option linter.unusedVariables false
set_option linter.unusedSimpArgs false
namespace Vk
open PySem PySem.Spec PyProof.Rows L2

theorem cut_mid {ds : List Dv} {s e : Nat} (h : s ≤ e) (l : e ≤ ds.length) : cutD ds (some (s : Int)) (some (e : Int)) = (ds.drop s).take (e - s) := by
  unfold cutD
  rw [HT.sIx_nat, HT.sIx_nat, Nat.min_eq_left (show s ≤ ds.length by omega), Nat.min_eq_left l]
theorem RegAt.keep {C_Registry : Addr} {M M' : MH} {p a b c : Addr} {ns ss ps : List (L2.Key × Dv)} (r : RegAt C_Registry M p a b c ns ss ps) (k : ∀ u o, M u = some o → (∀ l, o ≠ .lst l) → M' u = some o) : RegAt C_Registry M' p a b c ns ss ps := by
  obtain ⟨dx, hp⟩ := r.r
  exact ⟨⟨dx, k _ _ hp fun _ z => by cases z⟩, k _ _ r.ra (fun _ z => by cases z), k _ _ r.rb (fun _ z => by cases z), k _ _ r.rc (fun _ z => by cases z), r.ab, r.ac, r.bc⟩
section
variable {ns ss : List (L2.Key × Dv)} {Hs hs : List Dv}
theorem Ch.drop (x : Ch ns ss Hs hs) {s : Nat} (hs' : s ≤ hs.length) : hs.dropWhile (elderD (s : Int)) = hs.drop s := by
  refine (drop_while _ hs s hs' (fun d hd => ?_) (fun d hd => ?_)).symm
  · obtain ⟨i, hi, rfl⟩ := List.getElem_of_mem hd
    rw [List.length_take] at hi
    rw [List.getElem_take, x.eld (List.getElem?_eq_getElem (by omega))]
    exact decide_eq_true (by omega)
  · rw [x.eld hd]
    exact decide_eq_false (by omega)
/-- a head at another height -/
theorem Ch.off (x : Ch ns ss Hs hs) {i : Nat} {d : Dv} (e : hs[i]? = some d) {h nm : Int} {os : List Int} (ne : h ≠ (i : Int)) : folD ns ss h nm os d = false ∧ Pre ns h nm os d := by
  obtain ⟨A, B, cert, e1, e2, rfl, l⟩ := x.c i d e
  obtain ⟨p, os, p', os', n, m, few, g1, g2, g3, _, g5⟩ := l.ex
  obtain ⟨b, r, eH, _⟩ := g2.e
  have hh : hOf B = ((i + 1 : Nat) : Int) := by subst eH; rfl
  refine ⟨?_, fun own c e _ h2 _ _ => ?_⟩
  · simp only [folD, hh]
    rw [decide_eq_false (show ¬ ((i + 1 : Nat) : Int) = h + 1 by omega), Bool.false_and, Bool.and_false]
  · injection e with e
    injection e with e _
    subst e
    rw [hh] at h2
    omega
end
section
variable {P : Program} {w : World} {K : PySem.W.Frag} {mg : Str → Option Value} {base : Heap} {aMANY_PLACES C_Registry C_Pen : Addr}

@[irreducible] def F_asked (C_Registry C_Pen : Addr) : DF := fun ds M Q => ∃ p a b c ns ss ps lH lh Hs hs, ds = [.ref p, .ref lH, .ref lh, .tup hs, .int (hs.length : Nat)] ∧ RegAt C_Registry M p a b c ns ss ps ∧ NmOk ns ∧ M lH = some (.lst Hs) ∧ M lh = some (.lst hs) ∧ Ch ns ss Hs hs ∧ 1 ≤ hs.length ∧ hs.length ≤ 6 ∧ ∀ M', MLe M M' → Q (.bl true) M'
theorem len_asked : ∀ ds M R, F_asked C_Registry C_Pen ds M R → ds.length = ["registry", "headers", "heads", "row", "count"].length := by
  intro ds M R hF
  unfold F_asked at hF
  obtain ⟨p, a, b, c, ns, ss, ps, lH, lh, Hs, hs, rfl, _⟩ := hF
  rfl
theorem asked_go {M : MH} {p a b c lH lh : Addr} {ns ss ps : List (L2.Key × Dv)} {Hs hs : List Dv} {Q : DK} (rg : RegAt C_Registry M p a b c ns ss ps) (no : NmOk ns) (hH : M lH = some (.lst Hs)) (hh : M lh = some (.lst hs)) (ch : Ch ns ss Hs hs) (h1 : 1 ≤ hs.length) (h6 : hs.length ≤ 6) (k : ∀ M', MLe M M' → Q (.bl true) M') :
    F_asked C_Registry C_Pen [.ref p, .ref lH, .ref lh, .tup hs, .int (hs.length : Nat)] M Q := by
  unfold F_asked
  exact ⟨p, a, b, c, ns, ss, ps, lH, lh, Hs, hs, rfl, rg, no, hH, hh, ch, h1, h6, k⟩
abbrev s_asked : Stmt := top 34
theorem sc_asked : FnScope ["registry", "headers", "heads", "row", "count", "start", "taken"] ["registry", "headers", "heads", "row", "count"] (defScope s_asked) := ⟨rfl, rfl, rfl, by decide +kernel, rfl, by decide +kernel, by decide +kernel⟩
theorem ok_asked {f : Addr} {fd : FuncData} (Fn : L2.Fun K "_law_asked" "_law_asked" s_asked f fd) (T : Tx K mg aMANY_PLACES C_Registry C_Pen) (C_judged_heads : DCal P w K mg base "judged_heads" 7 (F_judged_heads C_Registry C_Pen)) : Gk P w K mg base 8 f fd ["registry", "headers", "heads", "row", "count"] (spD K (F_asked C_Registry C_Pen)) := by
  refine dfun Fn sc_asked (len_asked) (fun cd A out s H E hg hr => ⟨_, _, (ss_cons (s_for PassesOwn.never rfl (w_range1 rfl T.range (a_cons (d_cb (k_len (K := K)) (by rfl) T.len (by decide +kernel) (a_cons (dv 1) a_nil)) a_nil)) (g_name 5 sc_asked.nd)
  (ss_cons (s_set (i := 6) sc_asked.nd rfl (Or.inl rfl) (k_call (K := K) hg C_judged_heads hr rfl (a_cons (dv 0) (a_cons (k_ix (K := K) (dv 1) (dv 5)) (a_cons (dv 3) a_nil)))))
  (ss_one (s_if (Tw.ts (w_or (t_not (t_val (d_cb (k_isi (K := K)) (by rfl) T.isinstance (by decide +kernel) (a_cons (dv 6) (a_cons (d_tyname (n := "list") (by rfl) T.list (by decide +kernel)) a_nil))))) (w_or1 (t_cmp (k_ne (K := K) hr.units) (d_cb (k_reprA (K := K) hg hr) (by rfl) T.repr (by decide +kernel) (a_cons (dv 6) a_nil)) (d_cb (k_reprA (K := K) hg hr) (by rfl) T.repr (by decide +kernel) (a_cons (k_slice (K := K) (dv 2) (p_some (dv 5)) (p_some (d_cb (c_max rfl) (by rfl) T.max (by decide +kernel) (a_cons (dv 5) (a_cons (dv 4) a_nil))))) a_nil)) (nomark _))))) (ss_one (s_ret d_bl)) ss_nil))))
  (ss_one (s_ret d_bl))), ?_⟩)
  intro ds M R hF
  unfold F_asked at hF
  obtain ⟨p, a, b, c, ns, ss, ps, lH, lh, Hs, hs, rfl, rg, no, hH, hh, ch, h1, h6, k⟩ := hF
  have sz : (sizeLine : Nat) = 16777216 := by decide +kernel
  have hl := ch.l
  show dFor _ _ _ _ _ _
  unfold dFor
  show (match M lH with | some (.lst xs) => _ | _ => False)
  rw [hH]
  refine ⟨by omega, by omega, fun i env M' => ∃ (x5 x6 : Option Dv), env = [some (.ref p), some (.ref lH), some (.ref lh), some (.tup hs), some (.int (hs.length : Nat)), x5, x6] ∧ MLe M M', ⟨_, _, rfl, MLe.refl⟩, fun _ _ _ _ => trivial, ?_, ?_⟩
  · rintro s d env M' hd ⟨x5, x6, rfl, le⟩
    obtain ⟨rfl, hi⟩ := range_at hd
    have hi : s < Hs.length := by rw [Int.toNat_natCast] at hi; exact hi
    have eH : Hs[s]? = some Hs[s] := List.getElem?_eq_getElem hi
    obtain ⟨nm, pp, os, g, hc⟩ := ch.hg h1 h6 eH
    have ea : atI Hs (0 + (s : Int)) = some Hs[s] := by rw [Int.zero_add]; exact atI_nat eH
    generalize Hs[s] = H at eH g hc ea
    refine ix_go (le _ _ hH) ea _ ?_
    obtain ⟨r1, r2, r3, r4⟩ := row_ok (fun d hd => ch.gd h6 hd) (by omega) M' (row := hs)
    have rg' : RegAt C_Registry M' p a b c ns ss ps := rg.keep fun u o hu _ => le u o hu
    refine judged_go (out := hs.drop s) rg' no g r1 r2 r3 (fun z => by rw [r4] at z; cases z) (fun row e _ => ?_) (fun l hln => ?_)
    · injection e with e
      subst e
      rw [ch.drop (by omega)]
      exact ch.all h1 h6 eH
    · have le2 : MLe M (mup M' l (.lst (hs.drop s))) := fun u o h => MLe.up hln _ _ (le u o h)
      have e1 : tyN (mup M' l (.lst (hs.drop s))) (.ref l) = some "list" := by unfold tyN; simp only [mup_same]
      have ef : frozen (mup M' l (.lst (hs.drop s))) (.ref l) = .lst (hs.drop s) := by unfold frozen; simp only [lsD, mup_same]
      have hh2 := le2 _ _ hh
      generalize mup M' l (.lst (hs.drop s)) = M2 at le2 e1 ef hh2
      have ls := list_show (ds := hs.drop s) (fun d hd => ch.gd h6 (List.mem_of_mem_drop hd)) (by rw [List.length_drop]; omega)
      refine ⟨by decide, ?_⟩
      rw [e1]
      show (if (!kitv "list" "list") = true then _ else _)
      refine iteBF (by decide +kernel) ?_
      refine ⟨by rw [ef]; exact ls, ?_⟩
      rw [ef]
      have ec : cutD hs (some (0 + (s : Int))) (some (if ((hs.length : Nat) : Int) > 0 + (s : Int) then ((hs.length : Nat) : Int) else 0 + (s : Int))) = hs.drop s := by
        rw [Int.zero_add]
        split
        · rw [cut_mid (by omega) (Nat.le_refl _)]
          exact List.take_of_length_le (by rw [List.length_drop]; omega)
        · have : s = hs.length := by omega
          subst this
          rw [cut_mid (Nat.le_refl _) (Nat.le_refl _), Nat.sub_self, List.drop_length]
          rfl
      show (match M2 lh with | some (.lst ds) => _ | _ => False)
      rw [hh2]
      have ls2 : okR (.lst (cutD hs (some (0 + (s : Int))) (some (if ((hs.length : Nat) : Int) > 0 + (s : Int) then ((hs.length : Nat) : Int) else 0 + (s : Int))))) = true ∧ (toP (.lst (cutD hs (some (0 + (s : Int))) (some (if ((hs.length : Nat) : Int) > 0 + (s : Int) then ((hs.length : Nat) : Int) else 0 + (s : Int)))))).depth ≤ 60 ∧ (toP (.lst (cutD hs (some (0 + (s : Int))) (some (if ((hs.length : Nat) : Int) > 0 + (s : Int) then ((hs.length : Nat) : Int) else 0 + (s : Int)))))).shown.length ≤ sizeLine := by rw [ec]; exact ls
      refine ⟨ls2, ?_⟩
      show (if (!decide ((toP (.lst (hs.drop s))).shown = (toP (.lst (cutD hs (some (0 + (s : Int))) (some (if ((hs.length : Nat) : Int) > 0 + (s : Int) then ((hs.length : Nat) : Int) else 0 + (s : Int)))))).shown)) = true then _ else _)
      rw [ec]
      refine iteBF (by rw [decide_eq_true rfl]; rfl) ?_
      exact ⟨_, _, rfl, le2⟩
  · rintro env M' ⟨x5, x6, rfl, le⟩
    exact k M' le
@[irreducible] def F_elder_again (C_Registry C_Pen : Addr) : DF := fun ds M Q => ∃ q p a b c ns ss ps lH lh Hs hs xs, ds = [.ref q, .ref p, .ref lH, .ref lh] ∧ RegAt C_Registry M p a b c ns ss ps ∧ NmOk ns ∧ M lH = some (.lst Hs) ∧ M lh = some (.lst hs) ∧ lH ≠ q ∧ lh ≠ q ∧ M q = some (.lst xs) ∧ StOk xs ∧ Ch ns ss Hs hs ∧ 1 ≤ hs.length ∧ hs.length ≤ 6 ∧
  ∀ M' xs', (∀ u o, M u = some o → u ≠ q → M' u = some o) → M' q = some (.lst xs') → StOk xs' → Q (.bl true) M'
theorem len_elder_again : ∀ ds M R, F_elder_again C_Registry C_Pen ds M R → ds.length = ["state", "registry", "headers", "heads"].length := by
  intro ds M R hF
  unfold F_elder_again at hF
  obtain ⟨q, p, a, b, c, ns, ss, ps, lH, lh, Hs, hs, xs, rfl, _⟩ := hF
  rfl
theorem elder_go {M : MH} {q p a b c lH lh : Addr} {ns ss ps : List (L2.Key × Dv)} {Hs hs xs : List Dv} {Q : DK} (rg : RegAt C_Registry M p a b c ns ss ps) (no : NmOk ns) (hH : M lH = some (.lst Hs)) (hh : M lh = some (.lst hs)) (n1 : lH ≠ q) (n2 : lh ≠ q) (hq : M q = some (.lst xs)) (st : StOk xs) (ch : Ch ns ss Hs hs) (h1 : 1 ≤ hs.length) (h6 : hs.length ≤ 6)
    (k : ∀ M' xs', (∀ u o, M u = some o → u ≠ q → M' u = some o) → M' q = some (.lst xs') → StOk xs' → Q (.bl true) M') : F_elder_again C_Registry C_Pen [.ref q, .ref p, .ref lH, .ref lh] M Q := by
  unfold F_elder_again
  exact ⟨q, p, a, b, c, ns, ss, ps, lH, lh, Hs, hs, xs, rfl, rg, no, hH, hh, n1, n2, hq, st, ch, h1, h6, k⟩
abbrev s_elder_again : Stmt := top 35
theorem sc_elder_again : FnScope ["state", "registry", "headers", "heads", "place", "elder", "row", "start", "due"] ["state", "registry", "headers", "heads"] (defScope s_elder_again) := ⟨rfl, rfl, rfl, by decide +kernel, rfl, by decide +kernel, by decide +kernel⟩
theorem ok_elder_again {f : Addr} {fd : FuncData} (Fn : L2.Fun K "_law_elder_again" "_law_elder_again" s_elder_again f fd) (T : Tx K mg aMANY_PLACES C_Registry C_Pen) (C_next : DCal P w K mg base "_law_next" 1 F_next) (C_judged_heads : DCal P w K mg base "judged_heads" 7 (F_judged_heads C_Registry C_Pen)) : Gk P w K mg base 8 f fd ["state", "registry", "headers", "heads"] (spD K (F_elder_again C_Registry C_Pen)) := by
  refine dfun Fn sc_elder_again (len_elder_again) (fun cd A out s H E hg hr => ⟨_, _, (ss_cons (s_set (i := 4) sc_elder_again.nd rfl (Or.inl rfl) (d_op (k_add (K := K)) d_int (k_call (K := K) hg C_next hr rfl (a_cons (dv 0) (a_cons (d_cb (k_len (K := K)) (by rfl) T.len (by decide +kernel) (a_cons (dv 3) a_nil)) a_nil)))))
  (ss_cons (s_set (i := 5) sc_elder_again.nd rfl (Or.inl rfl) (k_call (K := K) hg C_next hr rfl (a_cons (dv 0) (a_cons (dv 4) a_nil))))
  (ss_cons (s_set (i := 6) sc_elder_again.nd rfl (Or.inl rfl) (d_cty (k_tuple (K := K)) (by rfl) T.tuple (by decide +kernel) (a_cons (d_op o_addL (d_op o_addL (k_sliceI (K := K) (dv 3) p_none (p_some (dv 4))) (k_sliceI (K := K) (dv 3) (p_some (dv 5)) (p_some (d_op (k_add (K := K)) (dv 5) d_int)))) (k_sliceI (K := K) (dv 3) (p_some (dv 4)) p_none)) a_nil)))
  (ss_cons (s_for PassesOwn.never rfl (w_range1 rfl T.range (a_cons (d_op (k_add (K := K)) (dv 4) d_int) a_nil)) (g_name 7 sc_elder_again.nd)
  (ss_cons (s_set (i := 8) sc_elder_again.nd rfl (Or.inl rfl) (d_if (t_cmp o_lt (dv 7) (dv 4) (nomark _)) (k_sliceI (K := K) (dv 3) (p_some (dv 7)) (p_some (dv 4))) (k_sliceI (K := K) (dv 3) (p_some (dv 4)) p_none)))
  (ss_one (s_if (t_cmp (k_ne (K := K) hr.units) (d_cb (k_reprA (K := K) hg hr) (by rfl) T.repr (by decide +kernel) (a_cons (k_call (K := K) hg C_judged_heads hr rfl (a_cons (dv 1) (a_cons (k_ix (K := K) (dv 2) (dv 7)) (a_cons (dv 6) a_nil)))) a_nil)) (d_cb (k_reprA (K := K) hg hr) (by rfl) T.repr (by decide +kernel) (a_cons (dv 8) a_nil)) (nomark _)) (ss_one (s_ret d_bl)) ss_nil))))
  (ss_one (s_ret d_bl)))))), ?_⟩)
  intro ds M R hF
  unfold F_elder_again at hF
  obtain ⟨q, p, a, b, c, ns, ss, ps, lH, lh, Hs, hs, xs, rfl, rg, no, hH, hh, n1, n2, hq, st, ch, h1, h6, k⟩ := hF
  have sz : (sizeLine : Nat) = 16777216 := by decide +kernel
  have hl := ch.l
  show (match M lh with | some (.lst xs) => _ | _ => False)
  rw [hh]
  refine ⟨q, ((hs.length : Nat) : Int), xs, rfl, hq, st, by omega, by omega, fun v xs1 v0 v1 st1 => ?_⟩
  obtain ⟨pl, rfl⟩ : ∃ pl : Nat, v = (pl : Int) := ⟨v.toNat, by omega⟩
  refine ⟨q, (1 : Int) + (pl : Int), xs1, rfl, mup_same, st1, by omega, by omega, fun v2 xs2 v20 v21 st2 => ?_⟩
  rw [mup_mup]
  obtain ⟨el, rfl⟩ : ∃ el : Nat, v2 = (el : Int) := ⟨v2.toNat, by omega⟩
  have k0 : ∀ u o, M u = some o → u ≠ q → mup M q (.lst xs2) u = some o := fun u o h n => by rw [mup_ne n]; exact h
  have hq2 : mup M q (.lst xs2) q = some (.lst xs2) := mup_same
  generalize mup M q (.lst xs2) = M2 at k0 hq2
  have hh2 := k0 _ _ hh n2
  have hel : el < hs.length := by omega
  have c1 : cutD hs none (some ((1 : Int) + (pl : Int))) = hs.take (pl + 1) := by rw [show (1 : Int) + (pl : Int) = ((pl + 1 : Nat) : Int) by omega]; exact cut_to _
  have c2 : cutD hs (some (el : Int)) (some ((el : Int) + 1)) = [hs[el]] := by
    rw [show (el : Int) + 1 = ((el + 1 : Nat) : Int) by omega, cut_mid (by omega) (by omega), show el + 1 - el = 1 by omega, List.drop_eq_getElem_cons hel]
    rfl
  have c3 : cutD hs (some ((1 : Int) + (pl : Int))) none = hs.drop (pl + 1) := by rw [show (1 : Int) + (pl : Int) = ((pl + 1 : Nat) : Int) by omega]; exact cut_from _
  have hls : lsD M2 (.ref lh) = some hs := by simp only [lsD, hh2]
  refine sl_go hls ?_
  rw [c1]
  refine sl_go hls ?_
  rw [c2]
  refine addL_go rfl rfl (by rw [List.length_take]; show _ + 1 ≤ sizeLine; omega) ?_
  refine sl_go hls ?_
  rw [c3]
  refine addL_go rfl rfl (by simp only [List.length_append, List.length_take, List.length_drop, List.length_cons, List.length_nil]; omega) ?_
  have ed : hs[el]? = some hs[el] := List.getElem?_eq_getElem hel
  have hdm : hs[el] ∈ hs := List.getElem_mem hel
  have off := fun {h nm : Int} {os : List Int} (ne : h ≠ (el : Int)) => ch.off ed (h := h) (nm := nm) (os := os) ne
  have eel := ch.eld ed
  generalize hs[el] = e at ed hdm off eel
  have rowg : ∀ d ∈ hs.take (pl + 1) ++ [e] ++ hs.drop (pl + 1), Gd 5000 5 d := fun d hd => by
    rcases List.mem_append.mp hd with z | z
    · rcases List.mem_append.mp z with z | z
      · exact ch.gd h6 (List.mem_of_mem_take z)
      · rw [List.mem_singleton.mp z]; exact ch.gd h6 hdm
    · exact ch.gd h6 (List.mem_of_mem_drop z)
  have rowl : (hs.take (pl + 1) ++ [e] ++ hs.drop (pl + 1)).length ≤ 12 := by
    simp only [List.length_append, List.length_take, List.length_drop, List.length_cons, List.length_nil]
    omega
  have hH2 := k0 _ _ hH n1
  have hpl : pl + 1 ≤ hs.length := by omega
  obtain ⟨P, eP⟩ : ∃ P, Hs[pl + 1]? = some P := ⟨_, List.getElem?_eq_getElem (by omega)⟩
  obtain ⟨nmP, ppP, osP, gP, _⟩ := ch.hg h1 h6 eP
  -- what is taken
  have jd : ∀ s H, s ≤ pl + 1 → Hs[s]? = some H → Jd ns ss H ((hs.take (pl + 1) ++ [e] ++ hs.drop (pl + 1)).dropWhile (elderD (s : Int))) (if s < pl + 1 then (hs.drop s).take (pl + 1 - s) else hs.drop (pl + 1)) := fun s H hs' eH => by
    have elt : ∀ d ∈ hs.take s, elderD (s : Int) d = true := fun d hd => by
      obtain ⟨i, hi, rfl⟩ := List.getElem_of_mem hd
      rw [List.length_take] at hi
      rw [List.getElem_take, ch.eld (List.getElem?_eq_getElem (by omega))]
      exact decide_eq_true (by omega)
    have ne : ∀ d, hs[s]? = some d → elderD (s : Int) d = false := fun d hd => by
      rw [ch.eld hd]
      exact decide_eq_false (by omega)
    by_cases c : s < pl + 1
    · rw [if_pos c]
      have e1 : (hs.take (pl + 1) ++ [e] ++ hs.drop (pl + 1)).dropWhile (elderD (s : Int)) = (hs.drop s).take (pl + 1 - s) ++ (e :: hs.drop (pl + 1)) := by
        rw [← drop_while _ _ s (by simp only [List.length_append, List.length_take, List.length_drop, List.length_cons, List.length_nil]; omega) (fun d hd => elt d ?_) (fun d hd => ne d ?_)]
        · rw [List.append_assoc, List.drop_append_of_le_length (by rw [List.length_take]; omega), List.drop_take]
          rfl
        · rw [List.append_assoc, List.take_append_of_le_length (by rw [List.length_take]; omega), List.take_take, Nat.min_eq_left (by omega)] at hd
          exact hd
        · rw [List.append_assoc, List.getElem?_append_left (by rw [List.length_take]; omega), List.getElem?_take, if_pos c] at hd
          exact hd
      rw [e1]
      have st := Jd.stop (ns := ns) (ss := ss) (head := e) (r := hs.drop (pl + 1)) gP (off (by omega)).2 (off (by omega)).1
      have := ch.run h6 eP st (pl + 1 - s) s H (by omega) eH
      rw [List.append_nil] at this
      exact this
    · rw [if_neg c]
      have cs : s = pl + 1 := by omega
      subst cs
      have e1 : (hs.take (pl + 1) ++ [e] ++ hs.drop (pl + 1)).dropWhile (elderD ((pl + 1 : Nat) : Int)) = hs.drop (pl + 1) := by
        have len : (hs.take (pl + 1) ++ [e]).length = pl + 2 := by rw [List.length_append, List.length_take, Nat.min_eq_left hpl]; rfl
        rw [← drop_while _ _ (pl + 2) (by rw [List.length_append, len]; omega) (fun d hd => ?_) (fun d hd => ?_)]
        · rw [← len, List.drop_left]
        · rw [← len, List.take_left] at hd
          rcases List.mem_append.mp hd with z | z
          · exact elt d z
          · rw [List.mem_singleton.mp z, eel]
            exact decide_eq_true (by omega)
        · rw [List.getElem?_append_right (by omega), len, Nat.sub_self, List.getElem?_drop, Nat.add_zero] at hd
          exact ne d hd
      rw [e1]
      exact ch.all h1 h6 eH
  generalize hs.take (pl + 1) ++ [e] ++ hs.drop (pl + 1) = row at rowg rowl jd
  have lim : 6 ≤ sizeLine := by omega
  have outg : ∀ s d, d ∈ (if s < pl + 1 then (hs.drop s).take (pl + 1 - s) else hs.drop (pl + 1)) → Gd 5000 5 d := fun s d hd => by
    split at hd
    · exact ch.gd h6 (List.mem_of_mem_drop (List.mem_of_mem_take hd))
    · exact ch.gd h6 (List.mem_of_mem_drop hd)
  have outl : ∀ s, (if s < pl + 1 then (hs.drop s).take (pl + 1 - s) else hs.drop (pl + 1)).length ≤ 12 := fun s => by
    split
    · rw [List.length_take, List.length_drop]; omega
    · rw [List.length_drop]; omega
  show dFor _ _ _ _ _ _
  unfold dFor
  show -(2 ^ 62) ≤ (1 : Int) + (pl : Int) + 1 ∧ _
  rw [show (1 : Int) + (pl : Int) + 1 = ((pl + 2 : Nat) : Int) by omega]
  refine ⟨by omega, by omega, fun i env M' => ∃ (x7 x8 : Option Dv), env = [some (.ref q), some (.ref p), some (.ref lH), some (.ref lh), some (.int (1 + (pl : Int))), some (.int (el : Int)), some (.tup row), x7, x8] ∧ MLe M2 M', ⟨_, _, rfl, MLe.refl⟩, fun _ _ _ _ => trivial, ?_, ?_⟩
  · rintro s d env M' hd ⟨x7, x8, rfl, le⟩
    obtain ⟨rfl, hi⟩ := range_at hd
    have hi : s < pl + 2 := by rw [Int.toNat_natCast] at hi; exact hi
    have hls' : lsD M' (.ref lh) = some hs := by simp only [lsD, le _ _ hh2]
    obtain ⟨H, eH⟩ : ∃ H, Hs[s]? = some H := ⟨_, List.getElem?_eq_getElem (by omega)⟩
    obtain ⟨nm, pp, os, g, hc⟩ := ch.hg h1 h6 eH
    have ea : atI Hs (0 + (s : Int)) = some H := by rw [Int.zero_add]; exact atI_nat eH
    dsimp only [dNext, dSeq, dSet]
    refine dif_key (fun d m => d = .lst (if s < pl + 1 then (hs.drop s).take (pl + 1 - s) else hs.drop (pl + 1)) ∧ m = M') (fun Q' hk => ?_) ?_
    · show (if decide (0 + (s : Int) < 1 + (pl : Int)) = true then _ else _)
      by_cases c : s < pl + 1
      · refine iteBT (decide_eq_true (by omega)) ?_
        refine sl_go hls' ?_
        refine hk _ _ ⟨?_, rfl⟩
        rw [if_pos c, Int.zero_add, show (1 : Int) + (pl : Int) = ((pl + 1 : Nat) : Int) by omega, cut_mid (by omega) hpl]
      · refine iteBF (decide_eq_false (by omega)) ?_
        refine sl_go hls' ?_
        refine hk _ _ ⟨?_, rfl⟩
        rw [if_neg c, c3]
    · rintro d m ⟨rfl, rfl⟩
      obtain ⟨r1, r2, r3, r4⟩ := row_ok rowg rowl m
      have kq : ∀ u o, M u = some o → (∀ l, o ≠ .lst l) → m u = some o := fun u o hu nl => le _ _ (k0 u o hu fun z => by subst z; rw [hq] at hu; injection hu with hu; exact nl _ hu.symm)
      refine ix_go (le _ _ hH2) ea _ ?_
      refine judged_go (rg.keep kq) no g r1 r2 r3 (fun z => by rw [r4] at z; cases z) (fun row' e' _ => ?_) (fun l hln => ?_) (out := if s < pl + 1 then (hs.drop s).take (pl + 1 - s) else hs.drop (pl + 1))
      · injection e' with e'
        subst e'
        exact jd s H (by omega) eH
      · have ls := list_show (outg s) (outl s)
        generalize (if s < pl + 1 then (hs.drop s).take (pl + 1 - s) else hs.drop (pl + 1)) = out at ls
        have le2 : MLe M2 (mup m l (.lst out)) := fun u o h => MLe.up hln _ _ (le u o h)
        have ef : frozen (mup m l (.lst out)) (.ref l) = .lst out := by unfold frozen; simp only [lsD, mup_same]
        generalize mup m l (.lst out) = M3 at le2 ef
        refine ⟨by rw [ef]; exact ls, ?_⟩
        rw [ef]
        refine ⟨ls, ?_⟩
        show (if (!decide ((toP (.lst out)).shown = (toP (.lst out)).shown)) = true then _ else _)
        refine iteBF (by rw [decide_eq_true rfl]; rfl) ?_
        exact ⟨_, _, rfl, le2⟩
  · rintro env M' ⟨x7, x8, rfl, le⟩
    exact k M' xs2 (fun u o hu uq => le _ _ (k0 u o hu uq)) (le _ _ hq2) st2
end
end Vk
set_option linter.unusedVariables false
set_option linter.unusedSimpArgs false
namespace Vk
open PySem PySem.Spec PyProof.Rows L2

section
variable {X : Cx} {K : PySem.W.Frag}
def dLstRg (A B : DE) : DE := fun env M Q => A env M fun x M1 => B env M1 fun y M2 => match x, y with
  | .int a, .int b => RgOk a b ∧ Q (.lst (intsD a (b - a).toNat)) M2
  | _, _ => False
theorem d_lstRg {a b : Expr} {ta tb : TE} {A B : DE} {p p2 pos pos2 : Pos} (hc : X.calm = true) (hg : Gl X "list") (hm : X.mg "list" = none) (hg2 : Gl X "range") (hm2 : X.mg "range" = none) (h1 : Ex X a ta A) (h2 : Ex X b tb B)
    (na : starEach [a, b] X.env = (false, eval a X.env) :: starEach [b] X.env := by rfl) (nb : starEach [b] X.env = (false, eval b X.env) :: starEach [] X.env := by rfl) (hp : (backTo pos2 (starEach [b] X.env)).any (·.1) = false := by rfl)
    (nc : starEach [.Call (.Name "range" p2) [a, b] [] pos2] X.env = (false, eval (.Call (.Name "range" p2) [a, b] [] pos2) X.env) :: starEach [] X.env := by rfl) :
    Ex X (.Call (.Name "list" p) [.Call (.Name "range" p2) [a, b] [] pos2] [] pos) (tLstRg (tRg2 ta tb)) (dLstRg A B) := by
  refine ⟨pe_listRg hc hg hm (prg_2 hg2 hm2 h1.p h2.p na nb hp) nc, ?_⟩
  intro S σ H env M Q R rn hr f q
  refine h1.r S σ H env M _ _ rn hr f fun x M1 v H1 f1 g1 r1 hr1 => ?_
  refine h2.r S σ H1 env M1 _ _ (rn.same g1.same) hr1 f1 fun y M2 w H2 f2 g2 r2 hr2 => ?_
  have r1' := RD.same g2.same _ _ r1
  cases r2 <;> (cases r1' <;> first | exact f2.elim | skip)
  refine ⟨_, _, rfl, rfl, f2.1, fun p hp => ?_⟩
  obtain ⟨g4, hr4, rd4⟩ := RD.newL hr2 hp (rg_rd _ _)
  exact q _ M2 _ _ f2.2 ((g1.trans g2).trans g4) rd4 hr4
end
theorem hv_gd {h p b r : Int} {os : List Int} (h1 : h.natAbs < 10 ^ 30) (h2 : p.natAbs < 10 ^ 30) (h3 : b.natAbs < 10 ^ 30) (h4 : r.natAbs < 10 ^ 30) (ho : OwOk os) : Gd 2000 4 (hdrV h p b r os) := by
  have hl := ho.len
  have g1 : Gd 41 0 (.str "header") := (Gd.txt (s := "header") (by decide +kernel) (by decide +kernel) (by decide +kernel)).mono (by decide) (by decide)
  have go : Gd 1000 1 (.tup (os.map .int)) := Gd.tup (n := 41) (m := 0) (fun d hd' => by
    obtain ⟨o, ho', rfl⟩ := List.mem_map.mp hd'
    have := ho.b o ho'
    exact Gd.int (by omega)) (by rw [List.length_map]; omega) (by decide)
  have gi : ∀ j : Int, j.natAbs < 10 ^ 30 → ∃ k, Gd k 1 (.int j) := fun j hj => ⟨_, (Gd.int (by omega)).mono (Nat.le_refl _) (by decide)⟩
  refine (Gd.sum (n := 2000) (m := 1) (ds := hdrL h p b r os) (fun d hd' => ?_) ?_).mono (Nat.le_refl _) (by decide)
  · simp only [hdrL, List.mem_cons, List.not_mem_nil, or_false] at hd'
    rcases hd' with rfl | rfl | rfl | rfl | rfl | rfl
    · exact ⟨_, g1.mono (Nat.le_refl _) (by decide)⟩
    · exact gi _ h1
    · exact gi _ h2
    · exact gi _ h3
    · exact gi _ h4
    · exact ⟨_, go⟩
  · have e1 := g1.s.e
    have e2 := (Gd.int (i := h) (by omega)).s.e
    have e3 := (Gd.int (i := p) (by omega)).s.e
    have e4 := (Gd.int (i := b) (by omega)).s.e
    have e5 := (Gd.int (i := r) (by omega)).s.e
    have e6 := go.s.e
    simp only [encVs_cons, List.length_cons, List.length_nil]
    have : encVs [] = 0 := rfl
    omega
/-- what is put in the place of a head -/
structure Spo (ns ss : List (L2.Key × Dv)) (Hs : List Dv) (ix : Nat) (sp : Dv) : Prop where
  g : Gd 5000 5 sp
  e : ∀ s : Nat, s ≤ ix → elderD (s : Int) sp = false
  f : ∀ (s : Nat) H nm p os, Hs[s]? = some H → ix ≤ s → (s = ix ∨ elderD (s : Int) sp = false) → HG ns H (s : Int) nm os → HdC s H p os → folD ns ss (s : Int) nm os sp = false ∧ Pre ns (s : Int) nm os sp
theorem no_pair {sp : Dv} (h : ∀ own x, sp = .tup [own, x] → hdrD own = false) (s : Int) : elderD s sp = false ∧ ∀ ns ss nm os, folD ns ss s nm os sp = false ∧ Pre ns s nm os sp := by
  refine ⟨?_, fun ns ss nm os => ⟨?_, fun own c e hd => ?_⟩⟩
  · unfold elderD
    split
    · rw [h _ _ rfl, Bool.false_and]
    · rfl
  · unfold folD
    split
    · rw [h _ _ rfl, Bool.false_and]
    · rfl
  · rw [h own c e] at hd
    cases hd
theorem Spo.nop {ns ss : List (L2.Key × Dv)} {Hs : List Dv} {ix : Nat} {sp : Dv} (g : Gd 5000 5 sp) (h : ∀ own x, sp = .tup [own, x] → hdrD own = false) : Spo ns ss Hs ix sp :=
  ⟨g, fun s _ => (no_pair h s).1, fun s _ _ _ _ _ _ _ _ _ => (no_pair h s).2 _ _ _ _⟩
theorem fol_false {ns ss : List (L2.Key × Dv)} {h nm : Int} {os : List Int} {own x : Dv} (e : (decide (hOf own = h + 1) && (decide (pOf own = nm) && (cforD os x && sealsD ns ss own x))) = false) : folD ns ss h nm os (.tup [own, x]) = false := by
  simp only [folD, e, Bool.and_false]
/-- a header of the next height that does not follow -/
theorem Spo.next {ns ss : List (L2.Key × Dv)} {Hs : List Dv} {ix : Nat} {own x : Dv} (g : Gd 5000 5 (.tup [own, x])) (eh : hOf own = (ix : Int) + 1)
    (f : ∀ H nm p os, Hs[ix]? = some H → HG ns H (ix : Int) nm os → HdC ix H p os → folD ns ss (ix : Int) nm os (.tup [own, x]) = false ∧ Pre ns (ix : Int) nm os (.tup [own, x])) : Spo ns ss Hs ix (.tup [own, x]) := by
  by_cases hy : hdrD own = true
  · refine ⟨g, fun s hs => ?_, fun s H nm p os e hi alt hg hc => ?_⟩
    · simp only [elderD, hy, eh, Bool.true_and]
      exact decide_eq_false (by omega)
    · by_cases c : s = ix
      · subst c
        exact f H nm p os e hg hc
      · rcases alt with z | z
        · exact absurd z c
        · simp only [elderD, hy, eh, Bool.true_and] at z
          have := of_decide_eq_false z
          omega
  · exact Spo.nop g fun o y e => by injection e with e; injection e with e _; subst e; simpa using hy
theorem pre_no {ns : List (L2.Key × Dv)} {h nm : Int} {os : List Int} {own x : Dv} (e : ¬ (hOf own = h + 1 ∧ pOf own = nm ∧ cforD os x = true)) : Pre ns h nm os (.tup [own, x]) := fun o c e2 _ h1 h2 h3 => by
  injection e2 with e2
  injection e2 with e2 e3
  injection e3 with e3 _
  subst e2 e3
  exact absurd ⟨h1, h2, h3⟩ e
theorem cfor_no {os : List Int} {n : Int} {items : List Dv} (h : items.length < qn os.length ∨ ∃ d ∈ items, inI os d = false) : cforD os (certV n items) = false := by
  rw [cfor_eq]
  rcases h with h | ⟨d, hd, e⟩
  · rw [decide_eq_false (show ¬ qn os.length ≤ items.length by omega), Bool.false_and, Bool.and_false]
  · have : items.all (inI os) = false := List.all_eq_false.mpr ⟨d, hd, by rw [e]; decide⟩
    rw [this, Bool.false_and, Bool.and_false, Bool.and_false]
section
variable {P : Program} {w : World} {K : PySem.W.Frag} {mg : Str → Option Value} {base : Heap} {aMANY_PLACES C_Registry C_Pen : Addr}

@[irreducible] def F_spoilt (C_Registry C_Pen : Addr) : DF := fun ds M Q => ∃ q p pd a b c ns ss N lH lh Hs hs, ∃ ix : Nat, ds = [.ref q, .ref p, .ref pd, .ref lH, .ref lh, .int (ix : Nat)] ∧ Wo C_Registry C_Pen M q p pd a b c ns ss N ∧ N ≤ 7000 ∧ M lH = some (.lst Hs) ∧ M lh = some (.lst hs) ∧ lH ≠ q ∧ lh ≠ q ∧ Ch ns ss Hs hs ∧ Pn M pd Hs hs ∧ ix < hs.length ∧ hs.length ≤ 6 ∧
  ∀ M' ns' ss' sp, Wo C_Registry C_Pen M' q p pd a b c ns' ss' (N + 40) → Ext M M' q pd ns ns' ss ss' → Spo ns' ss' Hs ix sp → Q sp M'
theorem len_spoilt : ∀ ds M R, F_spoilt C_Registry C_Pen ds M R → ds.length = ["state", "registry", "pens", "headers", "heads", "index"].length := by
  intro ds M R hF
  unfold F_spoilt at hF
  obtain ⟨q, p, pd, a, b, c, ns, ss, N, lH, lh, Hs, hs, ix, rfl, _⟩ := hF
  rfl
abbrev s_spoilt : Stmt := top 33
theorem sc_spoilt : FnScope ["state", "registry", "pens", "headers", "heads", "index", "header", "certificate", "before", "pick", "parts", "made", "owners", "strangers"] ["state", "registry", "pens", "headers", "heads", "index"] (defScope s_spoilt) := ⟨rfl, rfl, rfl, by decide +kernel, rfl, by decide +kernel, by decide +kernel⟩
theorem ok_spoilt {f : Addr} {fd : FuncData} (Fn : L2.Fun K "_law_spoilt" "_law_spoilt" s_spoilt f fd) (T : Tx K mg aMANY_PLACES C_Registry C_Pen) (C_next : DCal P w K mg base "_law_next" 1 F_next) (C_pens : DCal P w K mg base "_law_pens" 4 (F_pens C_Registry C_Pen)) (C_certified : DCal P w K mg base "_law_certified" 3 (F_certified C_Registry C_Pen)) : Gk P w K mg base 5 f fd ["state", "registry", "pens", "headers", "heads", "index"] (spD K (F_spoilt C_Registry C_Pen)) := by
  refine dfun Fn sc_spoilt (len_spoilt) (fun cd A out s H E hg hr => ⟨_, _, (ss_cons (s_asg (k_ix (K := K) (dv 4) (dv 5)) (kg_tup (K := K) (n := 2) rfl (gs_cons (g_name 6 sc_spoilt.nd) (gs_cons (g_name 7 sc_spoilt.nd) gs_nil))))
  (ss_cons (s_set (i := 8) sc_spoilt.nd rfl (Or.inl rfl) (k_ix (K := K) (dv 3) (dv 5)))
  (ss_cons (s_set (i := 9) sc_spoilt.nd rfl (Or.inl rfl) (k_call (K := K) hg C_next hr rfl (a_cons (dv 0) (a_cons d_int a_nil))))
  (ss_cons (s_if (t_cmp (k_eq (K := K) hr.units) (dv 9) d_int (nomark _)) (ss_one (s_ret (k_ix (K := K) (d_lst (a_cons d_non (a_cons (d_tup a_nil) (a_cons d_int (a_cons (d_tup (a_cons (dv 6) a_nil)) (a_cons (d_tup (a_cons (dv 6) (a_cons (dv 7) (a_cons d_int a_nil)))) (a_cons (d_tup (a_cons (dv 7) (a_cons (dv 6) a_nil))) (a_cons d_str a_nil)))))))) (k_call (K := K) hg C_next hr rfl (a_cons (dv 0) (a_cons d_int a_nil)))))) ss_nil)
  (ss_cons (s_if (t_cmp (k_eq (K := K) hr.units) (dv 9) d_int (nomark _)) (ss_one (s_ret (d_tup (a_cons (dv 6) (a_cons (d_tup (a_cons d_str (a_cons (k_ix (K := K) (dv 7) d_int) (a_cons (k_slice (K := K) (k_slice (K := K) (k_ix (K := K) (dv 7) d_int) (p_some d_int) p_none) p_none (p_some (d_op (k_mul (K := K)) d_int (d_op o_fdiv (d_op o_minus (d_cb (k_len (K := K)) (by rfl) T.len (by decide +kernel) (a_cons (k_ix (K := K) (dv 8) d_int) a_nil)) d_int) d_int)))) a_nil)))) a_nil))))) ss_nil)
  (ss_cons (s_if (t_cmp (k_eq (K := K) hr.units) (dv 9) d_int (nomark _)) (ss_one (s_ret (d_tup (a_cons (dv 6) (a_cons (d_tup (a_cons d_str (a_cons (d_op (k_add (K := K)) (k_ix (K := K) (dv 7) d_int) d_int) (a_cons (k_ix (K := K) (dv 7) d_int) a_nil)))) a_nil))))) ss_nil)
  (ss_cons (s_if (t_cmp (k_eq (K := K) hr.units) (dv 9) d_int (nomark _)) (ss_one (s_ret (d_tup (a_cons (d_op (k_add (K := K)) (k_slice (K := K) (dv 6) p_none (p_some d_int)) (d_tup (a_cons (k_slice (K := K) (k_ix (K := K) (dv 6) d_int) (p_some d_int) p_none) a_nil))) (a_cons (dv 7) a_nil))))) ss_nil)
  (ss_cons (s_if (t_cmp (k_eq (K := K) hr.units) (dv 9) d_int (nomark _)) (ss_one (s_ret (d_tup (a_cons (dv 6) (a_cons d_non a_nil))))) ss_nil)
  (ss_cons (s_set (i := 10) sc_spoilt.nd rfl (Or.inl rfl) (d_lst (a_cons (d_op (k_add (K := K)) (d_tup (a_cons d_str (a_cons (d_op (k_add (K := K)) (k_ix (K := K) (dv 6) d_int) d_int) a_nil))) (k_slice (K := K) (dv 6) (p_some d_int) p_none)) (a_cons (d_op (k_add (K := K)) (d_op (k_add (K := K)) (k_slice (K := K) (dv 6) p_none (p_some d_int)) (d_tup (a_cons (d_op (k_add (K := K)) (k_ix (K := K) (dv 6) d_int) d_int) a_nil))) (k_slice (K := K) (dv 6) (p_some d_int) p_none)) a_nil))))
  (ss_cons (s_set (i := 10) sc_spoilt.nd rfl (Or.inl rfl) (d_op o_addL (dv 10) (d_lst (a_cons (d_op (k_add (K := K)) (d_op (k_add (K := K)) (k_slice (K := K) (dv 6) p_none (p_some d_int)) (d_tup (a_cons (d_op (k_add (K := K)) (k_ix (K := K) (dv 6) d_int) d_int) a_nil))) (k_slice (K := K) (dv 6) (p_some d_int) p_none)) (a_cons (d_op (k_add (K := K)) (d_op (k_add (K := K)) (k_slice (K := K) (dv 6) p_none (p_some d_int)) (d_tup (a_cons d_int a_nil))) (k_slice (K := K) (dv 6) (p_some d_int) p_none)) a_nil)))))
  (ss_cons (s_set (i := 11) sc_spoilt.nd rfl (Or.inl rfl) (k_ix (K := K) (dv 10) (d_op o_minus (dv 9) d_int)))
  (ss_cons (s_set (i := 12) sc_spoilt.nd rfl (Or.inl rfl) (k_ix (K := K) (dv 8) d_int))
  (ss_cons (s_if (t_cmp (k_eq (K := K) hr.units) (dv 9) d_int (nomark _)) (ss_cons (s_set (i := 13) sc_spoilt.nd rfl (Or.inl rfl) (d_lstRg rfl (by rfl) T.list (by rfl) T.range d_int d_int))
  (ss_cons (s_expr (k_call (K := K) hg C_pens hr rfl (a_cons (dv 1) (a_cons (dv 13) (a_cons (dv 2) a_nil)))))
  (ss_one (s_set (i := 12) sc_spoilt.nd rfl (Or.inl rfl) (d_cty (k_tuple (K := K)) (by rfl) T.tuple (by decide +kernel) (a_cons (k_slice (K := K) (dv 13) p_none (p_some (d_cb (k_len (K := K)) (by rfl) T.len (by decide +kernel) (a_cons (dv 12) a_nil)))) a_nil)))))) ss_nil)
  (ss_one (s_ret (d_tup (a_cons (dv 11) (a_cons (k_call (K := K) hg C_certified hr rfl (a_cons (dv 0) (a_cons (dv 1) (a_cons (dv 2) (a_cons (dv 11) (a_cons (dv 12) a_nil)))))) a_nil)))))))))))))))))), ?_⟩)
  intro ds M R hF
  unfold F_spoilt at hF
  obtain ⟨q, p, pd, a, b, c, ns, ss, N, lH, lh, Hs, hs, ix, rfl, w, nl, hH, hh, n1, n2, ch, pn, hix, h6, k⟩ := hF
  have sz : (sizeLine : Nat) = 16777216 := by decide +kernel
  obtain ⟨A, B, cert, eA, eB, eD, lk⟩ := ch.c ix _ (List.getElem?_eq_getElem hix)
  obtain ⟨pA, oA, pB, oB, n, m, few, hA, hB, nA, rfl, md⟩ := lk.ex
  have gB := hB.gd (by omega)
  have gC : Gd 2000 4 (certV n (few.map .int)) := cert_gd (by have := md.hn; omega) md.l fun o ho => hA.o.k.b o (md.s o ho)
  have pnA := pn ix A pA oA hix eA hA
  have p0A := hA.p0
  have p0B := hB.p0
  obtain ⟨bA, rA, eA2, _⟩ := hA.e
  obtain ⟨bB, rB, eB2, b0, b1, r0, r1⟩ := hB.e
  have hyB := hB.yes
  subst eA2 eB2
  have olA := hA.o.k.len
  have olB := hB.o.k.len
  obtain ⟨q3, q4, q5⟩ := hA.o.k.qn
  have hOB : ∀ pp b r os, hOf (hdrV ((ix + 1 : Nat) : Int) pp b r os) = (ix : Int) + 1 := fun _ _ _ _ => by show ((ix + 1 : Nat) : Int) = _; omega
  -- the header before is known by its parts
  have hsame : ∀ {ns' : List (L2.Key × Dv)} {H : Dv} {nm p' : Int} {os : List Int}, (∀ k v, valD ns k = some v → valD ns' k = some v) → Hs[ix]? = some H → HG ns' H (ix : Int) nm os → HdC ix H p' os → nm = pB ∧ os = oA := fun {ns' H nm p' os} k1 e g hc => by
    rw [eA] at e
    injection e with e
    subst e
    have e2 := g.n
    rw [k1 _ _ nA] at e2
    injection e2 with e2
    injection e2 with e2
    exact ⟨e2.symm, (hc.same hA).2⟩
  have er : atI hs ((ix : Nat) : Int) = some (.tup [hdrV ((ix + 1 : Nat) : Int) pB bB rB oB, certV n (few.map .int)]) := by rw [← eD]; exact atI_nat (List.getElem?_eq_getElem hix)
  refine ix_go hh er _ ?_
  refine ⟨rfl, ?_⟩
  refine ix_go hH (atI_nat eA) _ ?_
  obtain ⟨xs, hq, st⟩ := w.qq
  refine ⟨q, 9, xs, rfl, hq, st, by decide, by decide, fun pk xs1 pk0 pk1 st1 => ?_⟩
  obtain ⟨w1, x1⟩ := w.draw st1
  generalize mup M q (.lst xs1) = M1 at w1 x1
  have g5 : ∀ {u v : Dv}, Gd 2000 4 u → Gd 2000 4 v → Gd 5000 5 (.tup [u, v]) := fun {u v} gu gv => Gd.tup (n := 2000) (m := 4) (mem2 gu gv) (by show 2 * 2000 + 2 * 2 + 3 ≤ 5000; decide) (by decide)
  have gi : ∀ i : Int, i.natAbs < 10 ^ 30 → Gd 2000 4 (.int i) := fun i hi => (Gd.int (by omega)).mono (by decide) (by decide)
  show (if decide (pk = 0) = true then _ else _)
  refine iteB (fun z0 => ?_) (fun z0 => ?_)
  · obtain ⟨xs2, hq2, st2⟩ := w1.qq
    refine ⟨q, 7, xs2, rfl, hq2, st2, by decide, by decide, fun v xs3 v0 v1 st3 => ?_⟩
    obtain ⟨w2, x2⟩ := w1.draw st3
    obtain ⟨d, ed, md2⟩ := atI_some (xs := [Dv.non, .tup [], .int 5, .tup [hdrV ((ix + 1 : Nat) : Int) pB bB rB oB], .tup [hdrV ((ix + 1 : Nat) : Int) pB bB rB oB, certV n (few.map .int), .int 0], .tup [certV n (few.map .int), hdrV ((ix + 1 : Nat) : Int) pB bB rB oB], .str "head"]) (i := v) v0 v1
    refine at_go ed _ ?_
    refine k _ ns ss d (w2.mono (by omega)) (x1.trans x2) ?_
    simp only [List.mem_cons, List.not_mem_nil, or_false] at md2
    rcases md2 with rfl | rfl | rfl | rfl | rfl | rfl | rfl
    · exact .nop (Gd.non.mono (by decide) (by decide)) fun _ _ e => by cases e
    · exact .nop (Gd.tup (n := 0) (m := 0) (fun d hd => by cases hd) (by decide) (by decide)) fun _ _ e => by cases e
    · exact .nop ((gi 5 (by decide)).mono (by decide) (by decide)) fun _ _ e => by cases e
    · exact .nop (Gd.tup (n := 2000) (m := 4) (mem1 gB) (by show 1 * 2000 + 2 * 1 + 3 ≤ 5000; decide) (by decide)) fun _ _ e => by cases e
    · refine .nop ((Gd.sum (n := 5000) (m := 4) (mem3 ⟨_, gB⟩ ⟨_, gC⟩ ⟨_, gi 0 (by decide)⟩) ?_).mono (Nat.le_refl _) (by decide)) fun _ _ e => by cases e
      have e1 := gB.s.e
      have e2 := gC.s.e
      have e3 := (Gd.int (i := 0) (by decide)).s.e
      simp only [encVs_cons, List.length_cons, List.length_nil]
      have : encVs [] = 0 := rfl
      omega
    · exact .nop (g5 gC gB) fun own x e => by injection e with e; injection e with e _; rw [← e]; rfl
    · exact .nop ((Gd.txt (s := "head") (by decide +kernel) (by decide +kernel) (by decide +kernel)).mono (by decide) (by decide)) fun _ _ e => by cases e
  have t1 : atI [Dv.str "certificate", .int n, .tup (few.map .int)] ((1 : Nat) : Int) = some (.int n) := atI_nat (j := 1) rfl
  have t2 : atI [Dv.str "certificate", .int n, .tup (few.map .int)] ((2 : Nat) : Int) = some (.tup (few.map .int)) := atI_nat (j := 2) rfl
  have a5 : atI (hdrL (ix : Int) pA bA rA oA) ((5 : Nat) : Int) = some (.tup (oA.map .int)) := atI_nat (j := 5) rfl
  have b5 : atI (hdrL ((ix + 1 : Nat) : Int) pB bB rB oB) ((5 : Nat) : Int) = some (.tup (oB.map .int)) := atI_nat (j := 5) rfl
  have hn := md.hn
  have ml := md.l
  have mq := md.q
  show (if decide (pk = 1) = true then _ else _)
  refine iteB (fun z1 => ?_) (fun z1 => ?_)
  · show (match atI [Dv.str "certificate", .int n, .tup (few.map .int)] ((1 : Nat) : Int) with | some d => _ | none => False)
    rw [t1]
    show (match atI [Dv.str "certificate", .int n, .tup (few.map .int)] ((2 : Nat) : Int) with | some d => _ | none => False)
    rw [t2]
    show (match atI (hdrL (ix : Int) pA bA rA oA) ((5 : Nat) : Int) with | some d => _ | none => False)
    rw [a5]
    refine ⟨⟨by decide, by decide⟩, .inl ⟨by decide, by decide⟩, ?_⟩
    have c1 : cutD (few.map Dv.int) (some 1) none = (few.drop 1).map .int := by rw [List.map_drop]; exact cut_from 1
    have c2 : cutD ((few.drop 1).map Dv.int) none (some (2 * ((((oA.map Dv.int).length : Nat) - 1 : Int) / 3))) = ((few.drop 1).take (qn oA.length - 1)).map .int := by
      rw [show (2 * ((((oA.map Dv.int).length : Nat) - 1 : Int) / 3)) = ((qn oA.length - 1 : Nat) : Int) by rw [List.length_map]; unfold qn; omega, List.map_take]
      exact cut_to _
    rw [c1]
    dsimp only [gSl]
    rw [c2]
    have fs : ∀ o ∈ (few.drop 1).take (qn oA.length - 1), 1 ≤ o ∧ o ≤ 999 := fun o ho => hA.o.k.b o (md.s o (List.mem_of_mem_drop (List.mem_of_mem_take ho)))
    have fl : ((few.drop 1).take (qn oA.length - 1)).length < qn oA.length := by rw [List.length_take]; omega
    refine k _ ns ss _ (w1.mono (by omega)) x1 (.next (g5 gB (cert_gd (by omega) (by omega) fs)) (hOB _ _ _ _) fun H nm p' os e g hc => ?_)
    obtain ⟨rfl, rfl⟩ := hsame (fun _ _ h => h) e g hc
    have cf : cforD os (certV n (((few.drop 1).take (qn os.length - 1)).map .int)) = false := cfor_no (.inl (by rw [List.length_map]; exact fl))
    exact ⟨fol_false (by rw [cf, Bool.false_and, Bool.and_false, Bool.and_false]), pre_no fun z => by rw [z.2.2] at cf; cases cf⟩
  show (if decide (pk = 2) = true then _ else _)
  refine iteB (fun z2 => ?_) (fun z2 => ?_)
  · show (match atI [Dv.str "certificate", .int n, .tup (few.map .int)] ((1 : Nat) : Int) with | some d => _ | none => False)
    rw [t1]
    show (match atI [Dv.str "certificate", .int n, .tup (few.map .int)] ((2 : Nat) : Int) with | some d => _ | none => False)
    rw [t2]
    refine k _ ns ss _ (w1.mono (by omega)) x1 (.next (g5 gB (cert_gd (n := n + 9) (by omega) (by omega) fun o ho => hA.o.k.b o (md.s o ho))) (hOB _ _ _ _) fun H nm p' os e g hc => ?_)
    have sf : sealsD ns ss (hdrV ((ix + 1 : Nat) : Int) pB bB rB oB) (certV (n + 9) (few.map .int)) = false := by
      simp only [sealsD, md.v]
      rw [List.all_map]
      obtain ⟨o0, ho0⟩ : ∃ o, o ∈ few := by
        cases few with
        | nil => simp at mq; omega
        | cons x r => exact ⟨x, List.mem_cons_self⟩
      refine List.all_eq_false.mpr ⟨o0, ho0, fun z => ?_⟩
      have ob := hA.o.k.b o0 (md.s o0 ho0)
      have mh := md.hm
      have := w1.sl o0 _ _ _ (by show _ < _; omega) (by show (((ix + 1 : Nat) : Int)).natAbs < _; omega) (by show _ < _; omega) (by show _ < _; omega) z
      omega
    exact ⟨fol_false (by rw [sf, Bool.and_false, Bool.and_false, Bool.and_false]), fun own c e2 _ _ _ _ => by
      injection e2 with e2
      injection e2 with e2 _
      subst e2
      exact ⟨m, md.v⟩⟩
  show (if decide (pk = 3) = true then _ else _)
  refine iteB (fun z3 => ?_) (fun z3 => ?_)
  · show (match atI (hdrL ((ix + 1 : Nat) : Int) pB bB rB oB) ((5 : Nat) : Int) with | some d => _ | none => False)
    rw [b5]
    have c1 : cutD (oB.map Dv.int) (some 1) none = (oB.drop 1).map .int := by rw [List.map_drop]; exact cut_from 1
    have c2 : cutD (hdrL ((ix + 1 : Nat) : Int) pB bB rB oB) none (some 5) = (hdrL ((ix + 1 : Nat) : Int) pB bB rB oB).take 5 := cut_to 5
    refine ⟨by rw [c2]; show 5 + 1 ≤ sizeLine; omega, ?_⟩
    rw [c1, c2]
    refine k _ ns ss _ (w1.mono (by omega)) x1 (.nop (g5 ?_ gC) fun own x e => ?_)
    · have gi1 : ∀ j : Int, j.natAbs < 10 ^ 30 → Gd 41 1 (.int j) := fun j hj => (Gd.int (by omega)).mono (Nat.le_refl _) (by decide)
      have g1 : Gd 41 1 (.str "header") := (Gd.txt (s := "header") (by decide +kernel) (by decide +kernel) (by decide +kernel)).mono (by decide) (by decide)
      have go : Gd 1000 1 (.tup ((oB.drop 1).map .int)) := Gd.tup (n := 41) (m := 0) (fun d hd' => by
        obtain ⟨o, ho', rfl⟩ := List.mem_map.mp hd'
        have := hB.o.k.b o (List.mem_of_mem_drop ho')
        exact Gd.int (by omega)) (by rw [List.length_map, List.length_drop]; omega) (by decide)
      refine (Gd.sum (n := 2000) (m := 1) (ds := [.str "header", .int ((ix + 1 : Nat) : Int), .int pB, .int bB, .int rB, .tup ((oB.drop 1).map .int)]) (fun d hd' => ?_) ?_).mono (Nat.le_refl _) (by decide)
      · simp only [List.mem_cons, List.not_mem_nil, or_false] at hd'
        rcases hd' with rfl | rfl | rfl | rfl | rfl | rfl
        · exact ⟨_, g1⟩
        · exact ⟨_, gi1 _ (by omega)⟩
        · exact ⟨_, gi1 _ (by omega)⟩
        · exact ⟨_, gi1 _ (by omega)⟩
        · exact ⟨_, gi1 _ (by omega)⟩
        · exact ⟨_, go⟩
      · have e1 := g1.s.e
        have e2 := (gi1 ((ix + 1 : Nat) : Int) (by omega)).s.e
        have e3 := (gi1 pB (by omega)).s.e
        have e4 := (gi1 bB (by omega)).s.e
        have e5 := (gi1 rB (by omega)).s.e
        have e6 := go.s.e
        simp only [encVs_cons, List.length_cons, List.length_nil]
        have : encVs [] = 0 := rfl
        omega
    · injection e with e
      injection e with e _
      subst e
      have ow : ownersD (.tup ((oB.drop 1).map .int)) = false := by
        show (manyL _ && _) = false
        have : manyL ((oB.drop 1).map Dv.int).length = false := by
          rw [List.length_map, List.length_drop]
          rcases olB with h | h | h <;> rw [h] <;> rfl
        rw [this, Bool.false_and]
      show hdrD (.tup [_, _, _, _, _, .tup ((oB.drop 1).map .int)]) = false
      simp only [hdrD, ow, Bool.and_false]
  show (if decide (pk = 4) = true then _ else _)
  refine iteB (fun z4 => ?_) (fun z4 => ?_)
  · refine k _ ns ss _ (w1.mono (by omega)) x1 (.next (g5 gB (Gd.non.mono (by decide) (by decide))) (hOB _ _ _ _) fun H nm p' os e g hc => ?_)
    exact ⟨fol_false (by rw [show cforD os .non = false from rfl, Bool.false_and, Bool.and_false, Bool.and_false]), pre_no fun z => by have := z.2.2; cases this⟩
  have b1' : atI (hdrL ((ix + 1 : Nat) : Int) pB bB rB oB) ((1 : Nat) : Int) = some (.int ((ix + 1 : Nat) : Int)) := atI_nat (j := 1) rfl
  have b2 : atI (hdrL ((ix + 1 : Nat) : Int) pB bB rB oB) ((2 : Nat) : Int) = some (.int pB) := atI_nat (j := 2) rfl
  have b4 : atI (hdrL ((ix + 1 : Nat) : Int) pB bB rB oB) ((4 : Nat) : Int) = some (.int rB) := atI_nat (j := 4) rfl
  have s2 : cutD (hdrL ((ix + 1 : Nat) : Int) pB bB rB oB) (some 2) none = [.int pB, .int bB, .int rB, .tup (oB.map .int)] := cut_from 2
  have s3 : cutD (hdrL ((ix + 1 : Nat) : Int) pB bB rB oB) (some 3) none = [.int bB, .int rB, .tup (oB.map .int)] := cut_from 3
  have s5 : cutD (hdrL ((ix + 1 : Nat) : Int) pB bB rB oB) (some 5) none = [.tup (oB.map .int)] := cut_from 5
  have u2 : cutD (hdrL ((ix + 1 : Nat) : Int) pB bB rB oB) none (some 2) = [.str "header", .int ((ix + 1 : Nat) : Int)] := cut_to 2
  have u4 : cutD (hdrL ((ix + 1 : Nat) : Int) pB bB rB oB) none (some 4) = [.str "header", .int ((ix + 1 : Nat) : Int), .int pB, .int bB] := cut_to 4
  show (match atI (hdrL ((ix + 1 : Nat) : Int) pB bB rB oB) ((1 : Nat) : Int) with | some d => _ | none => False)
  rw [b1']
  refine ⟨by rw [s2]; show 2 + 4 ≤ sizeLine; omega, ?_⟩
  rw [s2]
  show (match atI (hdrL ((ix + 1 : Nat) : Int) pB bB rB oB) ((2 : Nat) : Int) with | some d => _ | none => False)
  rw [b2]
  refine ⟨by rw [u2]; show 2 + 1 ≤ sizeLine; omega, ?_⟩
  rw [u2]
  refine ⟨by rw [s3]; show 3 + 3 ≤ sizeLine; omega, ?_⟩
  rw [s3]
  show (match atI (hdrL ((ix + 1 : Nat) : Int) pB bB rB oB) ((4 : Nat) : Int) with | some d => _ | none => False)
  rw [b4]
  refine ⟨by rw [u4]; show 4 + 1 ≤ sizeLine; omega, ?_⟩
  rw [u4]
  refine ⟨by rw [s5]; show 5 + 1 ≤ sizeLine; omega, ?_⟩
  rw [s5]
  refine ⟨by rw [u2]; show 2 + 1 ≤ sizeLine; omega, ?_⟩
  rw [u2]
  refine ⟨by rw [s3]; show 3 + 3 ≤ sizeLine; omega, ?_⟩
  rw [s3]
  refine addL_go rfl rfl (by show 2 + 2 ≤ sizeLine; omega) ?_
  have y0 := of_decide_eq_false z0
  have y1 := of_decide_eq_false z1
  have y2 := of_decide_eq_false z2
  have y3 := of_decide_eq_false z3
  have y4 := of_decide_eq_false z4
  have pa1 : ∀ o ∈ oA, PenAt M1 pd o := fun o ho => x1.k4 o (pnA o ho)
  have gm : ∀ {h2 p2 r2 : Int}, h2.natAbs < 10 ^ 30 → p2.natAbs < 10 ^ 30 → r2.natAbs < 10 ^ 30 → Gd 2000 4 (hdrV h2 p2 bB r2 oB) := fun {h2 p2 r2} e1 e2 e3 => hv_gd e1 e2 (by omega) e3 hB.o.k
  have sm : ∀ {d : Dv}, Gd 2000 4 d → ShowOk d := fun {d} g => g.s.show_ (by decide) (by decide)
  rcases (show pk = 5 ∨ pk = 6 ∨ pk = 7 ∨ pk = 8 by omega) with rfl | rfl | rfl | rfl
  · have ej : atI [hdrV (((ix + 1 : Nat) : Int) + 1) pB bB rB oB, hdrV ((ix + 1 : Nat) : Int) (pB + 500) bB rB oB, hdrV ((ix + 1 : Nat) : Int) pB bB (rB + 100) oB, hdrV ((ix + 1 : Nat) : Int) 0 bB rB oB] ((0 : Nat) : Int) = some (hdrV (((ix + 1 : Nat) : Int) + 1) pB bB rB oB) := atI_nat (j := 0) rfl
    show (match atI [hdrV (((ix + 1 : Nat) : Int) + 1) pB bB rB oB, hdrV ((ix + 1 : Nat) : Int) (pB + 500) bB rB oB, hdrV ((ix + 1 : Nat) : Int) pB bB (rB + 100) oB, hdrV ((ix + 1 : Nat) : Int) 0 bB rB oB] ((0 : Nat) : Int) with | some d => _ | none => False)
    rw [ej]
    show (match atI (hdrL (ix : Int) pA bA rA oA) ((5 : Nat) : Int) with | some d => _ | none => False)
    rw [a5]
    have gM := gm (h2 := ((ix + 1 : Nat) : Int) + 1) (p2 := pB) (r2 := rB) (by omega) (by omega) (by omega)
    refine certified_go w1 (by omega) (sm gM) (by show _ < _; omega) hA.o.k pa1 fun M' ns' ss' few' n' m' w' x' md' => ?_
    have hn' := md'.hn
    have gS := g5 gM (cert_gd (n := n') (by omega) md'.l fun o ho => hA.o.k.b o (md'.s o ho))
    have ho2 : hOf (hdrV (((ix + 1 : Nat) : Int) + 1) pB bB rB oB) = (ix : Int) + 2 := by show ((ix + 1 : Nat) : Int) + 1 = _; omega
    refine k M' ns' ss' (.tup [hdrV (((ix + 1 : Nat) : Int) + 1) pB bB rB oB, certV n' (few'.map .int)]) (w'.mono (by omega)) (x1.trans x') ?_
    by_cases hy : hdrD (hdrV (((ix + 1 : Nat) : Int) + 1) pB bB rB oB) = true
    · refine ⟨gS, fun s hs => ?_, fun s H nm p' os e hi alt g hc => ?_⟩
      · simp only [elderD, hy, ho2, Bool.true_and]
        exact decide_eq_false (by omega)
      · have no : ¬ (hOf (hdrV (((ix + 1 : Nat) : Int) + 1) pB bB rB oB) = (s : Int) + 1 ∧ pOf (hdrV (((ix + 1 : Nat) : Int) + 1) pB bB rB oB) = nm) := fun z => by
          have hs : s = ix + 1 := by have := z.1; rw [ho2] at this; omega
          subst hs
          have ep : pB = nm := z.2
          rw [eB] at e
          injection e with e
          subst e
          have v1 := g.n
          have v2 := (x1.trans x').k1 _ _ nA
          rw [← ep] at v1
          have ke := w'.ij _ _ _ v1 v2
          injection ke with ke
          have te := shown_inj (hB.ok (by omega)).okD (hA.ok (by omega)).okD ke
          simp only [hdrV, hdrL, toP, toPs] at te
          injection te with te
          injection te with _ te
          injection te with te _
          injection te with te
          omega
        refine ⟨fol_false ?_, pre_no fun z => no ⟨z.1, z.2.1⟩⟩
        by_cases c : hOf (hdrV (((ix + 1 : Nat) : Int) + 1) pB bB rB oB) = (s : Int) + 1
        · rw [decide_eq_false (fun z => no ⟨c, z⟩), Bool.false_and, Bool.and_false]
        · rw [decide_eq_false c, Bool.false_and]
    · exact Spo.nop gS fun o y e => by injection e with e; injection e with e _; subst e; simpa using hy
  · have ej : atI [hdrV (((ix + 1 : Nat) : Int) + 1) pB bB rB oB, hdrV ((ix + 1 : Nat) : Int) (pB + 500) bB rB oB, hdrV ((ix + 1 : Nat) : Int) pB bB (rB + 100) oB, hdrV ((ix + 1 : Nat) : Int) 0 bB rB oB] ((1 : Nat) : Int) = some (hdrV ((ix + 1 : Nat) : Int) (pB + 500) bB rB oB) := atI_nat (j := 1) rfl
    show (match atI [hdrV (((ix + 1 : Nat) : Int) + 1) pB bB rB oB, hdrV ((ix + 1 : Nat) : Int) (pB + 500) bB rB oB, hdrV ((ix + 1 : Nat) : Int) pB bB (rB + 100) oB, hdrV ((ix + 1 : Nat) : Int) 0 bB rB oB] ((1 : Nat) : Int) with | some d => _ | none => False)
    rw [ej]
    show (match atI (hdrL (ix : Int) pA bA rA oA) ((5 : Nat) : Int) with | some d => _ | none => False)
    rw [a5]
    have gM := gm (h2 := ((ix + 1 : Nat) : Int)) (p2 := pB + 500) (r2 := rB) (by omega) (by omega) (by omega)
    refine certified_go w1 (by omega) (sm gM) (by show _ < _; omega) hA.o.k pa1 fun M' ns' ss' few' n' m' w' x' md' => ?_
    have hn' := md'.hn
    refine k M' ns' ss' (.tup [hdrV ((ix + 1 : Nat) : Int) (pB + 500) bB rB oB, certV n' (few'.map .int)]) (w'.mono (by omega)) (x1.trans x') (.next (g5 gM (cert_gd (n := n') (by omega) md'.l fun o ho => hA.o.k.b o (md'.s o ho))) (hOB _ _ _ _) fun H nm p' os e g hc => ?_)
    obtain ⟨en, _⟩ := hsame (x1.trans x').k1 e g hc
    have no : ¬ pOf (hdrV ((ix + 1 : Nat) : Int) (pB + 500) bB rB oB) = nm := fun z => by
      have z : pB + 500 = nm := z
      omega
    exact ⟨fol_false (by rw [decide_eq_false no, Bool.false_and, Bool.and_false]), pre_no fun z => no z.2.1⟩
  · have ej : atI [hdrV (((ix + 1 : Nat) : Int) + 1) pB bB rB oB, hdrV ((ix + 1 : Nat) : Int) (pB + 500) bB rB oB, hdrV ((ix + 1 : Nat) : Int) pB bB (rB + 100) oB, hdrV ((ix + 1 : Nat) : Int) 0 bB rB oB] ((2 : Nat) : Int) = some (hdrV ((ix + 1 : Nat) : Int) pB bB (rB + 100) oB) := atI_nat (j := 2) rfl
    show (match atI [hdrV (((ix + 1 : Nat) : Int) + 1) pB bB rB oB, hdrV ((ix + 1 : Nat) : Int) (pB + 500) bB rB oB, hdrV ((ix + 1 : Nat) : Int) pB bB (rB + 100) oB, hdrV ((ix + 1 : Nat) : Int) 0 bB rB oB] ((2 : Nat) : Int) with | some d => _ | none => False)
    rw [ej]
    show (match atI (hdrL (ix : Int) pA bA rA oA) ((5 : Nat) : Int) with | some d => _ | none => False)
    rw [a5]
    have gM := gm (h2 := ((ix + 1 : Nat) : Int)) (p2 := pB) (r2 := rB + 100) (by omega) (by omega) (by omega)
    refine ⟨RgOk.of_le (by decide) (by decide) (by decide) (by decide), ?_⟩
    have es : intsD 983 ((1000 : Int) - 983).toNat = ((List.range 17).map fun i : Nat => (983 : Int) + (i : Int)).map .int := by
      unfold intsD
      rw [List.map_map]
      rfl
    have sl17 : ((List.range 17).map fun i : Nat => (983 : Int) + (i : Int)).length = 17 := by rw [List.length_map, List.length_range]
    have sb : ∀ o ∈ (List.range 17).map (fun i : Nat => (983 : Int) + (i : Int)), 983 ≤ o ∧ o ≤ 999 := fun o ho => by
      obtain ⟨i, hi, rfl⟩ := List.mem_map.mp ho
      have := List.mem_range.mp hi
      omega
    have snd : ((List.range 17).map fun i : Nat => (983 : Int) + (i : Int)).Nodup := List.pairwise_map.mpr (List.nodup_range.imp fun {a b} hab e => hab (by omega))
    rw [es]
    generalize (List.range 17).map (fun i : Nat => (983 : Int) + (i : Int)) = st at sl17 sb snd
    refine pens_go (.inr rfl) w1 (by omega) fun M2 w2 x2 pa2 => ?_
    have ct : cutD (st.map Dv.int) none (some (((oA.map Dv.int).length : Nat) : Int)) = (st.take oA.length).map .int := by rw [List.length_map, List.map_take]; exact cut_to _
    have oS : OwOk (st.take oA.length) := by
      refine ⟨?_, fun o ho => ?_, snd.sublist (List.take_sublist _ _)⟩
      · rw [List.length_take, sl17]
        rcases olA with h | h | h <;> rw [h] <;> rfl
      · have := sb o (List.mem_of_mem_take ho)
        omega
    have sb' : ∀ o ∈ st.take oA.length, 983 ≤ o := fun o ho => (sb o (List.mem_of_mem_take ho)).1
    have pa3 : ∀ o ∈ st.take oA.length, PenAt M2 pd o := fun o ho => pa2 o (List.mem_of_mem_take ho)
    suffices go : F_certified C_Registry C_Pen [.ref q, .ref p, .ref pd, hdrV ((ix + 1 : Nat) : Int) pB bB (rB + 100) oB, .tup ((st.take oA.length).map .int)] M2 (fun d M' => R (.tup [hdrV ((ix + 1 : Nat) : Int) pB bB (rB + 100) oB, d]) M') by
      rw [← ct] at go
      exact go
    generalize st.take oA.length = ow at oS sb' pa3 ⊢
    refine certified_go w2 (by omega) (sm gM) (by show _ < _; omega) oS pa3 fun M' ns' ss' few' n' m' w' x' md' => ?_
    have hn' := md'.hn
    have mq' := md'.q
    have q3' := oS.qn.1
    refine k M' ns' ss' (.tup [hdrV ((ix + 1 : Nat) : Int) pB bB (rB + 100) oB, certV n' (few'.map .int)]) (w'.mono (by omega)) ((x1.trans x2).trans x') (.next (g5 gM (cert_gd (n := n') (by omega) md'.l fun o ho => oS.b o (md'.s o ho))) (hOB _ _ _ _) fun H nm p' os e g hc => ?_)
    obtain ⟨_, eo⟩ := hsame ((x1.trans x2).trans x').k1 e g hc
    obtain ⟨o0, ho0⟩ : ∃ o, o ∈ few' := by
      cases few' with
      | nil => simp at mq'; omega
      | cons x r => exact ⟨x, List.mem_cons_self⟩
    have cf : cforD os (certV n' (few'.map .int)) = false := cfor_no (.inr ⟨.int o0, List.mem_map.mpr ⟨o0, ho0, rfl⟩, decide_eq_false fun z => by
      have t := hc.o.t o0 z
      have := sb' o0 (md'.s o0 ho0)
      omega⟩)
    exact ⟨fol_false (by rw [cf, Bool.false_and, Bool.and_false, Bool.and_false]), pre_no fun z => by rw [z.2.2] at cf; cases cf⟩
  · have ej : atI [hdrV (((ix + 1 : Nat) : Int) + 1) pB bB rB oB, hdrV ((ix + 1 : Nat) : Int) (pB + 500) bB rB oB, hdrV ((ix + 1 : Nat) : Int) pB bB (rB + 100) oB, hdrV ((ix + 1 : Nat) : Int) 0 bB rB oB] ((3 : Nat) : Int) = some (hdrV ((ix + 1 : Nat) : Int) 0 bB rB oB) := atI_nat (j := 3) rfl
    show (match atI [hdrV (((ix + 1 : Nat) : Int) + 1) pB bB rB oB, hdrV ((ix + 1 : Nat) : Int) (pB + 500) bB rB oB, hdrV ((ix + 1 : Nat) : Int) pB bB (rB + 100) oB, hdrV ((ix + 1 : Nat) : Int) 0 bB rB oB] ((3 : Nat) : Int) with | some d => _ | none => False)
    rw [ej]
    show (match atI (hdrL (ix : Int) pA bA rA oA) ((5 : Nat) : Int) with | some d => _ | none => False)
    rw [a5]
    have gM := gm (h2 := ((ix + 1 : Nat) : Int)) (p2 := 0) (r2 := rB) (by omega) (by omega) (by omega)
    refine certified_go w1 (by omega) (sm gM) (by show _ < _; omega) hA.o.k pa1 fun M' ns' ss' few' n' m' w' x' md' => ?_
    have hn' := md'.hn
    refine k M' ns' ss' (.tup [hdrV ((ix + 1 : Nat) : Int) 0 bB rB oB, certV n' (few'.map .int)]) (w'.mono (by omega)) (x1.trans x') (.next (g5 gM (cert_gd (n := n') (by omega) md'.l fun o ho => hA.o.k.b o (md'.s o ho))) (hOB _ _ _ _) fun H nm p' os e g hc => ?_)
    obtain ⟨en, _⟩ := hsame (x1.trans x').k1 e g hc
    obtain ⟨mm, em, m1, _⟩ := w.nm _ _ nA
    injection em with em
    have no : ¬ pOf (hdrV ((ix + 1 : Nat) : Int) 0 bB rB oB) = nm := fun z => by
      have z : (0 : Int) = nm := z
      omega
    exact ⟨fol_false (by rw [decide_eq_false no, Bool.false_and, Bool.and_false]), pre_no fun z => no z.2.1⟩
end
end Vk
set_option linter.unusedVariables false
set_option linter.unusedSimpArgs false
namespace Vk
open PySem PySem.Spec PyProof.Rows L2
theorem neL_go {x y : Dv} {ds es : List Dv} {M : MH} {Q : DK} (h1 : lsD M x = some ds) (h2 : lsD M y = some es) (s1 : shp (.lst ds) = true) (s2 : shp (.lst es) = true) (q : Q (.bl (!PyData.eqv (toP (.lst ds)) (toP (.lst es)))) M) : gEqL (fun b => !b) x y M Q := by
  unfold gEqL
  rw [h1, h2]
  exact ⟨s1, s2, q⟩

section
variable {ns ss : List (L2.Key × Dv)} {Hs hs : List Dv}
/-- the row with something in the place of one head -/
theorem Ch.spoilt (x : Ch ns ss Hs hs) (h1 : 1 ≤ hs.length) (h6 : hs.length ≤ 6) {ix : Nat} {sp : Dv} (hix : ix < hs.length) (so : Spo ns ss Hs ix sp) {s : Nat} {H : Dv} (eH : Hs[s]? = some H) :
    Jd ns ss H ((hs.take ix ++ [sp] ++ hs.drop (ix + 1)).dropWhile (elderD (s : Int))) (if s ≤ ix then (hs.drop s).take (ix - s) else if elderD (s : Int) sp = true then hs.drop s else []) := by
  have xl := x.l
  have sl := (List.getElem?_eq_some_iff.mp eH).1
  have elt : ∀ n, n ≤ s → ∀ d ∈ hs.take n, elderD (s : Int) d = true := fun n hn d hd => by
    obtain ⟨i, hi, rfl⟩ := List.getElem_of_mem hd
    rw [List.length_take] at hi
    rw [List.getElem_take, x.eld (List.getElem?_eq_getElem (by omega))]
    exact decide_eq_true (by omega)
  have ne : ∀ d, hs[s]? = some d → elderD (s : Int) d = false := fun d hd => by
    rw [x.eld hd]
    exact decide_eq_false (by omega)
  by_cases c : s ≤ ix
  · rw [if_pos c]
    obtain ⟨J, eJ⟩ : ∃ J, Hs[ix]? = some J := ⟨_, List.getElem?_eq_getElem (by omega)⟩
    obtain ⟨nm, p, os, g, hc⟩ := x.hg h1 h6 eJ
    obtain ⟨f1, f2⟩ := so.f ix J nm p os eJ (Nat.le_refl _) (.inl rfl) g hc
    have e1 : (hs.take ix ++ [sp] ++ hs.drop (ix + 1)).dropWhile (elderD (s : Int)) = (hs.drop s).take (ix - s) ++ (sp :: hs.drop (ix + 1)) := by
      rw [← drop_while _ _ s (by simp only [List.length_append, List.length_take, List.length_drop, List.length_cons, List.length_nil]; omega) (fun d hd => elt s (Nat.le_refl _) d ?_) (fun d hd => ?_)]
      · rw [List.append_assoc, List.drop_append_of_le_length (by rw [List.length_take]; omega), List.drop_take]
        rfl
      · rw [List.append_assoc, List.take_append_of_le_length (by rw [List.length_take]; omega), List.take_take, Nat.min_eq_left c] at hd
        exact hd
      · by_cases c2 : s < ix
        · rw [List.append_assoc, List.getElem?_append_left (by rw [List.length_take]; omega), List.getElem?_take, if_pos c2] at hd
          exact ne d hd
        · have : s = ix := by omega
          subst this
          rw [List.append_assoc, List.getElem?_append_right (by rw [List.length_take]; omega), List.length_take, Nat.min_eq_left (by omega), Nat.sub_self] at hd
          injection hd with hd
          subst hd
          exact so.e s (Nat.le_refl _)
    rw [e1]
    have st := Jd.stop (ns := ns) (ss := ss) (head := sp) (r := hs.drop (ix + 1)) g f2 f1
    have := x.run h6 eJ st (ix - s) s H (by omega) eH
    rw [List.append_nil] at this
    exact this
  · rw [if_neg c]
    by_cases ce : elderD (s : Int) sp = true
    · rw [if_pos ce]
      have e1 : (hs.take ix ++ [sp] ++ hs.drop (ix + 1)).dropWhile (elderD (s : Int)) = hs.drop s := by
        have len : (hs.take ix ++ [sp]).length = ix + 1 := by rw [List.length_append, List.length_take, Nat.min_eq_left (by omega)]; rfl
        have ed : (hs.take ix ++ [sp] ++ hs.drop (ix + 1)).drop s = hs.drop s := by
          rw [List.drop_append, len, List.drop_of_length_le (by omega), List.nil_append, List.drop_drop, show ix + 1 + (s - (ix + 1)) = s by omega]
        rw [← drop_while _ _ s (by rw [List.length_append, len, List.length_drop]; omega) (fun d hd => ?_) (fun d hd => ?_), ed]
        · rw [List.take_append, len] at hd
          rcases List.mem_append.mp hd with z | z
          · rw [List.take_of_length_le (by omega)] at z
            rcases List.mem_append.mp z with z | z
            · exact elt ix (by omega) d z
            · rw [List.mem_singleton.mp z]; exact ce
          · have : d ∈ hs.take s := by
              obtain ⟨i, hi, rfl⟩ := List.getElem_of_mem z
              rw [List.length_take, List.length_drop] at hi
              rw [List.getElem_take, List.getElem_drop]
              rw [List.mem_iff_getElem]
              exact ⟨ix + 1 + i, by rw [List.length_take]; omega, List.getElem_take⟩
            exact elt s (Nat.le_refl _) d this
        · rw [List.getElem?_append_right (by omega), len, List.getElem?_drop, show ix + 1 + (s - (ix + 1)) = s by omega] at hd
          exact ne d hd
      rw [e1]
      exact x.all h1 h6 eH
    · rw [if_neg ce]
      have ce' : elderD (s : Int) sp = false := by simpa using ce
      have e1 : (hs.take ix ++ [sp] ++ hs.drop (ix + 1)).dropWhile (elderD (s : Int)) = sp :: hs.drop (ix + 1) := by
        have tl : (hs.take ix).length = ix := by rw [List.length_take]; omega
        rw [← drop_while _ _ ix (by simp only [List.length_append, List.length_take, List.length_drop, List.length_cons, List.length_nil]; omega) (fun d hd => elt ix (by omega) d ?_) (fun d hd => ?_)]
        · rw [List.append_assoc, List.drop_append_of_le_length (by omega), List.drop_of_length_le (by omega)]
          rfl
        · rw [List.append_assoc, List.take_append_of_le_length (by omega), List.take_take, Nat.min_self] at hd
          exact hd
        · rw [List.append_assoc, List.getElem?_append_right (by omega), tl, Nat.sub_self] at hd
          injection hd with hd
          subst hd
          exact ce'
      rw [e1]
      obtain ⟨nm, p, os, g, hc⟩ := x.hg h1 h6 eH
      obtain ⟨f1, f2⟩ := so.f s H nm p os eH (by omega) (.inr ce') g hc
      exact .stop g f2 f1
end
section
variable {P : Program} {w : World} {K : PySem.W.Frag} {mg : Str → Option Value} {base : Heap} {aMANY_PLACES C_Registry C_Pen : Addr}

theorem spoilt_go {M : MH} {q p pd a b c lH lh : Addr} {ns ss : List (L2.Key × Dv)} {N ix : Nat} {Hs hs : List Dv} {Q : DK} (w : Wo C_Registry C_Pen M q p pd a b c ns ss N) (l : N ≤ 7000) (hH : M lH = some (.lst Hs)) (hh : M lh = some (.lst hs)) (n1 : lH ≠ q) (n2 : lh ≠ q) (ch : Ch ns ss Hs hs) (pn : Pn M pd Hs hs) (hix : ix < hs.length) (h6 : hs.length ≤ 6)
    (k : ∀ M' ns' ss' sp, Wo C_Registry C_Pen M' q p pd a b c ns' ss' (N + 40) → Ext M M' q pd ns ns' ss ss' → Spo ns' ss' Hs ix sp → Q sp M') : F_spoilt C_Registry C_Pen [.ref q, .ref p, .ref pd, .ref lH, .ref lh, .int (ix : Nat)] M Q := by
  unfold F_spoilt
  exact ⟨q, p, pd, a, b, c, ns, ss, N, lH, lh, Hs, hs, ix, rfl, w, l, hH, hh, n1, n2, ch, pn, hix, h6, k⟩
end
end Vk
set_option linter.unusedVariables false
set_option linter.unusedSimpArgs false
namespace Vk
open PySem PySem.Spec PyProof.Rows L2

theorem nil_shp : shp (.lst []) = true := rfl
theorem nil_eqv : PyData.eqv (toP (.lst [])) (toP (.lst [])) = true := by decide +kernel
theorem one_row {H v : Dv} {ns ss : List (L2.Key × Dv)} {h nm : Int} {os : List Int} (g : HG ns H h nm os) (r : List Dv) (e : elderD h v = false) (f : folD ns ss h nm os v = false) (p : Pre ns h nm os v) : Jd ns ss H ((v :: r).dropWhile (elderD h)) [] := by
  rw [List.dropWhile_cons, e]
  exact .stop g p f
theorem Wo.le {C_Registry C_Pen : Addr} {M M' : MH} {q p pd a b c : Addr} {ns ss : List (L2.Key × Dv)} {N : Nat} (w : Wo C_Registry C_Pen M q p pd a b c ns ss N) (le : MLe M M') : Wo C_Registry C_Pen M' q p pd a b c ns ss N := by
  obtain ⟨xs, hq, st⟩ := w.qq
  exact w.keep (fun u o h _ => le _ _ h) ⟨xs, le _ _ hq, st⟩
theorem Pn.le {M M' : MH} {pd : Addr} {Hs hs : List Dv} (pn : Pn M pd Hs hs) (k : ∀ o, PenAt M pd o → PenAt M' pd o) : Pn M' pd Hs hs := fun i H p' os hi e hc o ho => k o (pn i H p' os hi e hc o ho)
theorem pen_le {M M' : MH} (le : MLe M M') (pd : Addr) (o : Int) : PenAt M pd o → PenAt M' pd o := fun ⟨pns, d, e1, e2⟩ => ⟨pns, d, le _ _ e1, e2⟩
/-- a value of which nothing is taken -/
structure NoT (ns ss : List (L2.Key × Dv)) (H : Dv) (h : Int) (M : MH) (v : Dv) : Prop where
  k : knownD M v = true
  z : sizeD v ≤ 100000
  t : txtD v = true
  j : ∀ row, v = .tup row → plainD 0 v = true → Jd ns ss H (row.dropWhile (elderD h)) []
theorem de_key {A : DE} {env : DEnv} {M : MH} {Q : DK} (P : Dv → MH → Prop) (h : ∀ Q' : DK, (∀ d m, P d m → Q' d m) → A env M Q') (key : ∀ d m, P d m → Q d m) : A env M Q := h Q key
def isPD : Dv → Bool
  | .tup [own, _] => hdrD own
  | _ => false
theorem elder_isPD {h : Int} {sp : Dv} (e : isPD sp = false) : elderD h sp = false := by
  unfold elderD
  split
  · have e : hdrD _ = false := e
    rw [e, Bool.false_and]
  · rfl
theorem isPD_ex {sp : Dv} (e : isPD sp = true) : ∃ own y, sp = .tup [own, y] ∧ hdrD own = true := by
  unfold isPD at e
  split at e
  · exact ⟨_, _, rfl, e⟩
  · cases e
theorem Ch.junk {ns ss : List (L2.Key × Dv)} {Hs hs : List Dv} (x : Ch ns ss Hs hs) (h6 : hs.length ≤ 6) {s : Nat} {B cn : Dv} (gB : Gd 2000 4 B) (gC : Gd 2000 4 cn) :
    ∀ d ∈ [Dv.non, .tup [], .int 7, .str "head", .tup ([B, cn] ++ [.int 0]), .tup [.non, B]] ++ hs.drop (s + 1), Gd 5000 5 d ∧ elderD (s : Int) d = false ∧ ∀ nm os, folD ns ss (s : Int) nm os d = false ∧ Pre ns (s : Int) nm os d := fun d hd => by
  have np : ∀ {sp : Dv}, Gd 5000 5 sp → (∀ own x, sp = .tup [own, x] → hdrD own = false) → Gd 5000 5 sp ∧ elderD (s : Int) sp = false ∧ ∀ nm os, folD ns ss (s : Int) nm os sp = false ∧ Pre ns (s : Int) nm os sp := fun {sp} g h => ⟨g, (no_pair h _).1, fun nm os => (no_pair h _).2 ns ss nm os⟩
  rcases List.mem_append.mp hd with hd | hd
  · simp only [List.mem_cons, List.not_mem_nil, or_false] at hd
    rcases hd with rfl | rfl | rfl | rfl | rfl | rfl
    · exact np (Gd.non.mono (by decide) (by decide)) fun _ _ e => by cases e
    · exact np (Gd.tup (n := 0) (m := 0) (fun d hd => by cases hd) (by decide) (by decide)) fun _ _ e => by cases e
    · exact np ((Gd.int (by decide)).mono (by decide) (by decide)) fun _ _ e => by cases e
    · exact np ((Gd.txt (s := "head") (by decide +kernel) (by decide +kernel) (by decide +kernel)).mono (by decide) (by decide)) fun _ _ e => by cases e
    · refine np ((Gd.sum (n := 5000) (m := 4) (ds := [B, cn, .int 0]) (mem3 ⟨_, gB⟩ ⟨_, gC⟩ ⟨_, (Gd.int (i := 0) (by decide)).mono (Nat.le_refl _) (by decide)⟩) ?_).mono (Nat.le_refl _) (by decide)) fun _ _ e => by cases e
      have e1 := gB.s.e
      have e2 := gC.s.e
      have e3 := (Gd.int (i := 0) (by decide)).s.e
      simp only [encVs_cons, List.length_cons, List.length_nil]
      have : encVs [] = 0 := rfl
      omega
    · refine np (Gd.tup (n := 2000) (m := 4) (mem2 (Gd.non.mono (by decide) (by decide)) gB) (by show 2 * 2000 + 2 * 2 + 3 ≤ 5000; decide) (by decide)) fun own y e => ?_
      injection e with e
      injection e with e _
      subst e
      rfl
  · obtain ⟨i, hi, rfl⟩ := List.getElem_of_mem hd
    rw [List.length_drop] at hi
    rw [List.getElem_drop]
    have e := List.getElem?_eq_getElem (show s + 1 + i < hs.length by omega)
    refine ⟨x.gd h6 (List.getElem_mem _), ?_, fun nm os => x.off e (by omega)⟩
    rw [x.eld e]
    exact decide_eq_false (by omega)
def eldV : Dv → Dv
  | .tup [own, _] => .tup [own, .non]
  | d => d
theorem Ch.eldv {ns ss : List (L2.Key × Dv)} {Hs hs : List Dv} (x : Ch ns ss Hs hs) (h6 : hs.length ≤ 6) {i : Nat} {d : Dv} (e : hs[i]? = some d) : Gd 5000 5 (eldV d) ∧ (∀ h : Int, elderD h (eldV d) = decide (((i : Nat) : Int) + 1 ≤ h)) ∧ ∃ H cert, d = .tup [H, cert] := by
  have il := (List.getElem?_eq_some_iff.mp e).1
  obtain ⟨A, B, cert, e1, e2, rfl, l⟩ := x.c i d e
  obtain ⟨p, os, p', os', n, m, few, g1, g2, g3, _, g5⟩ := l.ex
  have hy := g2.yes
  refine ⟨Gd.tup (n := 2000) (m := 4) (mem2 (g2.gd (by omega)) (Gd.non.mono (by decide) (by decide))) (by show 2 * 2000 + 2 * 2 + 3 ≤ 5000; decide) (by decide), fun h => ?_, B, cert, rfl⟩
  obtain ⟨b, r, eH, _⟩ := g2.e
  simp only [eldV, elderD, hy, Bool.true_and]
  subst eH
  exact decide_eq_decide.mpr (by show ((i + 1 : Nat) : Int) ≤ h ↔ _; omega)
theorem Ch.elders {ns ss : List (L2.Key × Dv)} {Hs hs : List Dv} (x : Ch ns ss Hs hs) (h6 : hs.length ≤ 6) {s : Nat} (hs' : s ≤ hs.length) : ((hs.take s).map eldV ++ hs.drop s).dropWhile (elderD (s : Int)) = hs.drop s := by
  have ml : ((hs.take s).map eldV).length = s := by rw [List.length_map, List.length_take]; omega
  rw [← drop_while _ _ s (by rw [List.length_append, ml]; omega) (fun d hd => ?_) (fun d hd => ?_)]
  · rw [List.drop_append, ml, List.drop_of_length_le (by omega), Nat.sub_self, List.drop_zero]
    rfl
  · rw [List.take_append_of_le_length (by omega), List.take_of_length_le (by omega)] at hd
    obtain ⟨y, hy, rfl⟩ := List.mem_map.mp hd
    obtain ⟨i, hi, rfl⟩ := List.getElem_of_mem hy
    rw [List.length_take] at hi
    rw [List.getElem_take, (x.eldv h6 (List.getElem?_eq_getElem (by omega))).2.1]
    exact decide_eq_true (by omega)
  · rw [List.getElem?_append_right (by omega), ml, Nat.sub_self, List.getElem?_drop, Nat.add_zero] at hd
    rw [x.eld hd]
    exact decide_eq_false (by omega)
theorem txt_app : ∀ {xs : List Dv} {y : Dv}, txtDs xs = true → txtD y = true → txtDs (xs ++ [y]) = true
  | [], y, _, h => by simp [txtDs, h]
  | x :: xs, y, h, h2 => by
    have h' : txtD x = true ∧ txtDs xs = true := by simpa [txtDs] using h
    rw [List.cons_append, txtDs, h'.1, txt_app h'.2 h2]
    rfl
theorem lst_no {ns ss : List (L2.Key × Dv)} {H : Dv} {h : Int} {M : MH} {hs : List Dv} (gd : ∀ d ∈ hs, Gd 5000 5 d) (l : hs.length ≤ 12) : NoT ns ss H h M (.tup (hs ++ [.lst [.int 1]])) := by
  obtain ⟨r1, r2, r3, _⟩ := row_ok gd l M
  refine ⟨?_, ?_, ?_, fun row e pl => ?_⟩
  · rw [knownD_tup] at r1 ⊢
    rw [List.all_append, r1]
    rfl
  · have g : Gd 70000 6 (.tup hs) := Gd.tup gd (by omega) (by decide)
    have z := (okV_facts _ g.s.o).2.1
    have ge := g.s.e
    rw [sizeD_tup] at z ⊢
    rw [List.map_append, List.sum_append]
    show 1 + ((hs.map sizeD).sum + 1) ≤ 100000
    omega
  · have r3 : txtDs hs = true := r3
    show txtDs (hs ++ [.lst [.int 1]]) = true
    exact txt_app r3 rfl
  · rw [plainD_tup, List.all_append] at pl
    simp [plainD, atomD] at pl
theorem nine_no {ns ss : List (L2.Key × Dv)} {H : Dv} {nm : Int} {os : List Int} {M : MH} {pz : Addr} {hs : List Dv} (g : HG ns H 0 nm os) (hz : M pz = some (.dK [])) :
    ∀ v ∈ [Dv.non, .int 5, .str "heads", .lst hs, .ref pz, .lst [.str "ab"], .tup [], .tup [.non], .tup [.tup []]], NoT ns ss H 0 M v := fun v hv => by
  simp only [List.mem_cons, List.not_mem_nil, or_false] at hv
  have one : (1 : Nat) ≤ 100000 := by decide
  rcases hv with rfl | rfl | rfl | rfl | rfl | rfl | rfl | rfl | rfl
  · exact ⟨rfl, one, rfl, fun _ e => by cases e⟩
  · exact ⟨rfl, one, rfl, fun _ e => by cases e⟩
  · exact ⟨rfl, one, by decide +kernel, fun _ e => by cases e⟩
  · exact ⟨rfl, one, rfl, fun _ e => by cases e⟩
  · exact ⟨by simp only [knownD, hz], one, rfl, fun _ e => by cases e⟩
  · exact ⟨rfl, one, rfl, fun _ e => by cases e⟩
  · exact ⟨rfl, one, rfl, fun row e _ => by injection e with e; subst e; exact .nil g⟩
  · refine ⟨rfl, by decide, rfl, fun row e _ => by
      injection e with e
      subst e
      have np := no_pair (sp := .non) (fun _ _ z => by cases z) 0
      exact one_row g [] np.1 (np.2 ns ss nm os).1 (np.2 ns ss nm os).2⟩
  · refine ⟨rfl, by decide, rfl, fun row e _ => by
      injection e with e
      subst e
      have np := no_pair (sp := .tup []) (fun _ _ z => by cases z) 0
      exact one_row g [] np.1 (np.2 ns ss nm os).1 (np.2 ns ss nm os).2⟩
section
variable {P : Program} {w : World} {K : PySem.W.Frag} {mg : Str → Option Value} {base : Heap} {aMANY_PLACES C_Registry C_Pen : Addr}

theorem none_go {M : MH} {q p pd a b c : Addr} {ns ss : List (L2.Key × Dv)} {N : Nat} {H v : Dv} {h nm : Int} {os : List Int} {Q : DK} (w : Wo C_Registry C_Pen M q p pd a b c ns ss N) (l : N ≤ 10000) (g : HG ns H h nm os) (no : NoT ns ss H h M v) (k : ∀ M' l, MLe M M' → M' l = some (.lst []) → Q (.ref l) M') : F_judged_heads C_Registry C_Pen [.ref p, H, v] M Q := by
  obtain ⟨ps, pns, rg, _⟩ := w.ex
  exact judged_go (out := []) rg (w.ok l) g no.k no.z no.t (fun _ => rfl) no.j fun l hln => k _ l (MLe.up hln) mup_same
theorem neNil {M : MH} {l : Addr} {Q : DK} (h : M l = some (.lst [])) (q : Q (.bl false) M) : gEqL (fun b => !b) (.ref l) (.lst []) M Q := by
  refine neL_go (ds := []) (es := []) (by simp only [lsD, h]) rfl nil_shp nil_shp ?_
  rw [nil_eqv]
  exact q
def F_law : DF := fun ds M Q => ∃ ns, ds = [.scr ns] ∧ ns.length ≤ 63 ∧ M = (fun _ => none) ∧ Q (.bl true) M
theorem len_law : ∀ ds M R, F_law ds M R → ds.length = ["script"].length := by
  rintro _ _ _ ⟨ns, rfl, _⟩
  rfl
abbrev s_law : Stmt := top 36
theorem sc_law : FnScope ["script", "state", "registry", "pens", "headers", "heads", "bad", "turn", "index", "spoilt", "row", "is_pair", "start", "due", "junk", "front", "elder", "head"] ["script"] (defScope s_law) := ⟨rfl, rfl, rfl, by decide +kernel, rfl, by decide +kernel, by decide +kernel⟩
theorem ok_law {f : Addr} {fd : FuncData} (Fn : L2.Fun K "law" "law" s_law f fd) (T : Tx K mg aMANY_PLACES C_Registry C_Pen) (C_chain : DCal P w K mg base "_law_chain" 5 (F_chain C_Registry C_Pen)) (C_next : DCal P w K mg base "_law_next" 1 F_next) (C_asked : DCal P w K mg base "_law_asked" 8 (F_asked C_Registry C_Pen)) (C_judged_heads : DCal P w K mg base "judged_heads" 7 (F_judged_heads C_Registry C_Pen)) (C_spoilt : DCal P w K mg base "_law_spoilt" 5 (F_spoilt C_Registry C_Pen)) (C_elder_again : DCal P w K mg base "_law_elder_again" 8 (F_elder_again C_Registry C_Pen)) (C_is_header : DCal P w K mg base "is_header" 4 F_is_header) (K_Registry : DMk P w K mg base "Registry" C_Registry 1 (F_Registry_init C_Registry C_Pen)) : Gk P w K mg base 9 f fd ["script"] (spD K F_law) := by
  refine dfunG Fn sc_law (len_law) (fun cd A out s H E hg hr => ⟨_, _, (ss_cons (s_set (i := 1) sc_law.nd rfl (Or.inl rfl) (d_lstM (a_cons (d_cty (k_list (K := K)) (by rfl) T.list (by decide +kernel) (a_cons (dv 0) a_nil)) (a_cons d_int (a_cons d_int (a_cons d_int a_nil))))))
  (ss_cons (s_set (i := 2) sc_law.nd rfl (Or.inl rfl) (d_mk0 (K := K) hg K_Registry hr rfl))
  (ss_cons (s_asg (k_call (K := K) hg C_chain hr rfl (a_cons (dv 1) (a_cons (dv 2) a_nil))) (kg_tup (K := K) (n := 3) rfl (gs_cons (g_name 3 sc_law.nd) (gs_cons (g_name 4 sc_law.nd) (gs_cons (g_name 5 sc_law.nd) gs_nil)))))
  (ss_cons (s_if (t_not (t_val (k_call (K := K) hg C_asked hr rfl (a_cons (dv 2) (a_cons (dv 4) (a_cons (dv 5) (a_cons (d_cty (k_tuple (K := K)) (by rfl) T.tuple (by decide +kernel) (a_cons (dv 5) a_nil)) (a_cons (d_cb (k_len (K := K)) (by rfl) T.len (by decide +kernel) (a_cons (dv 5) a_nil)) a_nil)))))))) (ss_one (s_ret d_bl)) ss_nil)
  (ss_cons (s_for PassesOwn.never rfl (k_list_ (K := K) (d_lst (a_cons d_non (a_cons d_int (a_cons d_str (a_cons (d_cty (k_list (K := K)) (by rfl) T.list (by decide +kernel) (a_cons (dv 5) a_nil)) (a_cons d_dic0 (a_cons (d_lst (a_cons d_str a_nil)) (a_cons (d_tup a_nil) (a_cons (d_tup (a_cons d_non a_nil)) (a_cons (d_tup (a_cons (d_tup a_nil) a_nil)) a_nil))))))))))) (g_name 6 sc_law.nd)
  (ss_one (s_if (t_cmp (o_neL hr.units) (k_call (K := K) hg C_judged_heads hr rfl (a_cons (dv 2) (a_cons (k_ix (K := K) (dv 4) d_int) (a_cons (dv 6) a_nil)))) (d_lst a_nil) (nomark _)) (ss_one (s_ret d_bl)) ss_nil)))
  (ss_cons (s_if (t_cmp (o_neL hr.units) (k_call (K := K) hg C_judged_heads hr rfl (a_cons (dv 2) (a_cons (k_ix (K := K) (dv 4) d_int) (a_cons (d_op (k_add (K := K)) (d_cty (k_tuple (K := K)) (by rfl) T.tuple (by decide +kernel) (a_cons (dv 5) a_nil)) (d_tup (a_cons (d_lst (a_cons d_int a_nil)) a_nil))) a_nil)))) (d_lst a_nil) (nomark _)) (ss_one (s_ret d_bl)) ss_nil)
  (ss_cons (s_for PassesOwn.never rfl (w_range1 rfl T.range (a_cons d_int a_nil)) (g_name 7 sc_law.nd)
  (ss_cons (s_if (t_not (t_val (k_call (K := K) hg C_elder_again hr rfl (a_cons (dv 1) (a_cons (dv 2) (a_cons (dv 4) (a_cons (dv 5) a_nil))))))) (ss_one (s_ret d_bl)) ss_nil)
  (ss_cons (s_set (i := 8) sc_law.nd rfl (Or.inl rfl) (k_call (K := K) hg C_next hr rfl (a_cons (dv 1) (a_cons (d_cb (k_len (K := K)) (by rfl) T.len (by decide +kernel) (a_cons (dv 5) a_nil)) a_nil))))
  (ss_cons (s_set (i := 9) sc_law.nd rfl (Or.inl rfl) (k_call (K := K) hg C_spoilt hr rfl (a_cons (dv 1) (a_cons (dv 2) (a_cons (dv 3) (a_cons (dv 4) (a_cons (dv 5) (a_cons (dv 8) a_nil))))))))
  (ss_cons (s_set (i := 10) sc_law.nd rfl (Or.inl rfl) (d_op (k_add (K := K)) (d_op (k_add (K := K)) (d_cty (k_tuple (K := K)) (by rfl) T.tuple (by decide +kernel) (a_cons (k_slice (K := K) (dv 5) p_none (p_some (dv 8))) a_nil)) (d_tup (a_cons (dv 9) a_nil))) (d_cty (k_tuple (K := K)) (by rfl) T.tuple (by decide +kernel) (a_cons (k_slice (K := K) (dv 5) (p_some (d_op (k_add (K := K)) (dv 8) d_int)) p_none) a_nil))))
  (ss_cons (s_set (i := 11) sc_law.nd rfl (Or.inl rfl) (d_and (d_cb (k_isi (K := K)) (by rfl) T.isinstance (by decide +kernel) (a_cons (dv 9) (a_cons (d_tyname (n := "tuple") (by rfl) T.tuple (by decide +kernel)) a_nil))) (d_and (d_cmp (k_eq (K := K) hr.units) (d_cb (k_len (K := K)) (by rfl) T.len (by decide +kernel) (a_cons (dv 9) a_nil)) d_int (nomark _)) (d_one (k_call (K := K) hg C_is_header hr rfl (a_cons (k_ix (K := K) (dv 9) d_int) a_nil))))))
  (ss_cons (s_for PassesOwn.never rfl (w_range1 rfl T.range (a_cons (d_cb (k_len (K := K)) (by rfl) T.len (by decide +kernel) (a_cons (dv 4) a_nil)) a_nil)) (g_name 12 sc_law.nd)
  (ss_cons (s_set (i := 13) sc_law.nd rfl (Or.inl rfl) (k_slice (K := K) (dv 5) (p_some (dv 12)) (p_some (dv 8))))
  (ss_cons (s_if (Tw.ts (w_and (t_cmp o_gt (dv 12) (dv 8) (nomark _)) (w_and (k_truth (K := K) (dv 11)) (w_and1 (t_cmp o_le (k_ix (K := K) (k_ix (K := K) (dv 9) d_int) d_int) (dv 12) (nomark _)))))) (ss_one (s_set (i := 13) sc_law.nd rfl (Or.inl rfl) (k_slice (K := K) (dv 5) (p_some (dv 12)) p_none))) ss_nil)
  (ss_one (s_if (t_cmp (k_ne (K := K) hr.units) (d_cb (k_reprA (K := K) hg hr) (by rfl) T.repr (by decide +kernel) (a_cons (k_call (K := K) hg C_judged_heads hr rfl (a_cons (dv 2) (a_cons (k_ix (K := K) (dv 4) (dv 12)) (a_cons (dv 10) a_nil)))) a_nil)) (d_cb (k_reprA (K := K) hg hr) (by rfl) T.repr (by decide +kernel) (a_cons (dv 13) a_nil)) (nomark _)) (ss_one (s_ret d_bl)) ss_nil)))))
  (ss_cons (s_set (i := 12) sc_law.nd rfl (Or.inl rfl) (k_call (K := K) hg C_next hr rfl (a_cons (dv 1) (a_cons (d_cb (k_len (K := K)) (by rfl) T.len (by decide +kernel) (a_cons (dv 4) a_nil)) a_nil))))
  (ss_cons (s_set (i := 14) sc_law.nd rfl (Or.inl rfl) (d_op o_addL (d_lst (a_cons d_non (a_cons (d_tup a_nil) (a_cons d_int (a_cons d_str (a_cons (d_op (k_add (K := K)) (k_ix (K := K) (dv 5) (d_neg d_int)) (d_tup (a_cons d_int a_nil))) (a_cons (d_tup (a_cons d_non (a_cons (k_ix (K := K) (k_ix (K := K) (dv 5) (d_neg d_int)) d_int) a_nil))) a_nil))))))) (k_slice (K := K) (dv 5) (p_some (d_op (k_add (K := K)) (dv 12) d_int)) p_none)))
  (ss_cons (s_set (i := 15) sc_law.nd rfl (Or.inl rfl) (k_ix (K := K) (dv 14) (k_call (K := K) hg C_next hr rfl (a_cons (dv 1) (a_cons (d_cb (k_len (K := K)) (by rfl) T.len (by decide +kernel) (a_cons (dv 14) a_nil)) a_nil)))))
  (ss_one (s_if (t_cmp (o_neL hr.units) (k_call (K := K) hg C_judged_heads hr rfl (a_cons (dv 2) (a_cons (k_ix (K := K) (dv 4) (dv 12)) (a_cons (d_op (k_add (K := K)) (d_tup (a_cons (dv 15) a_nil)) (d_cty (k_tuple (K := K)) (by rfl) T.tuple (by decide +kernel) (a_cons (k_slice (K := K) (dv 5) (p_some (dv 12)) p_none) a_nil))) a_nil)))) (d_lst a_nil) (nomark _)) (ss_one (s_ret d_bl)) ss_nil))))))))))))
  (ss_cons (s_set (i := 12) sc_law.nd rfl (Or.inl rfl) (k_call (K := K) hg C_next hr rfl (a_cons (dv 1) (a_cons (d_cb (k_len (K := K)) (by rfl) T.len (by decide +kernel) (a_cons (dv 4) a_nil)) a_nil))))
  (ss_cons (s_setLc (i := 16) (own := [("head", 17)]) rfl sc_law.nd rfl rfl (sw_true rfl rfl rfl (by decide +kernel)) (k_list_ (K := K) (k_slice (K := K) (dv 5) p_none (p_some (dv 12)))) (blkOk_by (N := ["script", "state", "registry", "pens", "headers", "heads", "bad", "turn", "index", "spoilt", "row", "is_pair", "start", "due", "junk", "front", "elder", "head"]) (sc := defScope s_law) (by decide +kernel)) (fun _ _ _ _ _ => (g_name 17 sc_law.nd)) (fun _ _ _ _ _ => pts_nil) rt_yes (fun _ _ _ _ _ => (d_tup (a_cons (k_ix (K := K) (dv 17) d_int) (a_cons d_non a_nil)))))
  (ss_one (s_ret (d_cmp (k_eq (K := K) hr.units) (d_cb (k_reprA (K := K) hg hr) (by rfl) T.repr (by decide +kernel) (a_cons (k_call (K := K) hg C_judged_heads hr rfl (a_cons (dv 2) (a_cons (k_ix (K := K) (dv 4) (dv 12)) (a_cons (d_cty (k_tuple (K := K)) (by rfl) T.tuple (by decide +kernel) (a_cons (d_op o_addL (dv 16) (k_slice (K := K) (dv 5) (p_some (dv 12)) p_none)) a_nil)) a_nil)))) a_nil)) (d_cb (k_reprA (K := K) hg hr) (by rfl) T.repr (by decide +kernel) (a_cons (k_slice (K := K) (dv 5) (p_some (dv 12)) p_none) a_nil)) (nomark _))))))))))))), ?_⟩)
  rintro ds M R ⟨scr, rfl, hl, rfl, k⟩
  intro q hq
  have sz : (sizeLine : Nat) = 16777216 := by decide +kernel
  have st0 : StOk [.lst (scr.map .int), .int 0, .int 0, .int 1] := ⟨scr, 0, 0, 1, rfl, Nat.zero_le _, hl, by decide, by decide, by decide⟩
  intro p dx hp hdx hne
  refine ⟨p, dx, rfl, mup_same, fun a b c M2 m1 ma mb mc ab ac bc na nb nc keep => ⟨rfl, ?_⟩⟩
  obtain ⟨pq, _⟩ := mup_none hp
  obtain ⟨dq, _⟩ := mup_none hdx
  have hq2 : M2 q = some (.lst [.lst (scr.map .int), .int 0, .int 0, .int 1]) := keep q _ (by rw [mup_ne (Ne.symm pq), mup_ne (Ne.symm dq), mup_same]) (Ne.symm pq)
  have rg0 : RegAt C_Registry M2 p a b c [] [] [] := ⟨⟨dx, m1⟩, ma, mb, mc, ab, ac, bc⟩
  clear keep m1 ma mb mc ab ac bc na nb nc hp hdx hne hq pq dq
  refine ⟨q, p, a, b, c, _, rfl, rg0, hq2, st0, fun M3 pd lH lh ns ss Hs hs w hH hh n1 n2 n3 ch pn h1 h6 => ?_⟩
  clear rg0 hq2 st0
  refine ⟨rfl, ?_⟩
  have hl7 := ch.l
  show (match M3 lh with | some (.lst xs) => _ | _ => False)
  rw [hh]
  show (match M3 lh with | some (.lst xs) => _ | _ => False)
  rw [hh]
  obtain ⟨ps3, _, rg3, _⟩ := w.ex
  refine asked_go rg3 (w.ok (by decide)) hH hh ch h1 h6 fun M4 le4 => ?_
  -- a state in which all stands
  obtain ⟨xs3, hq3, st3⟩ := w.qq
  have w4 : Wo C_Registry C_Pen M4 q p pd a b c ns ss 300 := w.keep (fun u o h _ => le4 _ _ h) ⟨xs3, le4 _ _ hq3, st3⟩
  have hH4 := le4 _ _ hH
  have hh4 := le4 _ _ hh
  have pn4 : Pn M4 pd Hs hs := fun i H p' os hi e hc o ho => by
    obtain ⟨pns, d, e1, e2⟩ := pn i H p' os hi e hc o ho
    exact ⟨pns, d, le4 _ _ e1, e2⟩
  clear le4 w hH hh pn rg3 hq3 st3
  obtain ⟨H0, eH0⟩ : ∃ H, Hs[0]? = some H := ⟨_, List.getElem?_eq_getElem (by omega)⟩
  have a0 : atI Hs ((0 : Nat) : Int) = some H0 := atI_nat eH0
  obtain ⟨nm0, p0, os0, g0, _⟩ := ch.hg h1 h6 eH0
  -- the nine values
  show dFor _ _ _ _ _ _
  unfold dFor
  show (match M4 lh with | some (.lst xs) => _ | _ => False)
  rw [hh4]
  intro pz hpz
  have le5 : MLe M4 (mup M4 pz (.dK [])) := MLe.up hpz
  have hz : (mup M4 pz (.dK [])) pz = some (.dK []) := mup_same
  generalize mup M4 pz (.dK []) = M5 at le5 hz
  refine ⟨fun i env M' => ∃ x6, env = [some (.scr scr), some (.ref q), some (.ref p), some (.ref pd), some (.ref lH), some (.ref lh), x6, none, none, none, none, none, none, none, none, none, none, none] ∧ MLe M5 M', ⟨_, rfl, MLe.refl⟩, fun _ _ _ _ => trivial, ?_, ?_⟩
  · rintro i d env M' hd ⟨x6, rfl, le⟩
    refine ix_go (le _ _ (le5 _ _ hH4)) a0 _ ?_
    refine none_go ((w4.le le5).le le) (by decide) g0 (nine_no (hs := hs) g0 (le _ _ hz) d (List.mem_of_getElem? hd)) fun M6 l le6 hl => ?_
    refine neNil hl ?_
    exact ⟨_, rfl, MLe.trans le le6⟩
  · rintro env M' ⟨x6, rfl, le⟩
    have le' : MLe M4 M' := MLe.trans le5 le
    have w6 := w4.le le'
    have hH6 := le' _ _ hH4
    have hh6 := le' _ _ hh4
    have pn6 := pn4.le (pen_le le' pd)
    clear le le5 le' hz w4 hH4 hh4 pn4
    refine ix_go hH6 a0 _ ?_
    show (match M' lh with | some (.lst xs) => _ | _ => False)
    rw [hh6]
    refine ⟨by show _ + 1 ≤ sizeLine; omega, ?_⟩
    refine none_go w6 (by decide) g0 (lst_no (fun d hd => ch.gd h6 hd) (by omega)) fun M7 l7 le7 hl7' => ?_
    refine neNil hl7' ?_
    have w8 := w6.le le7
    have hH8 := le7 _ _ hH6
    have hh8 := le7 _ _ hh6
    have pn8 := pn6.le (pen_le le7 pd)
    clear le7 hl7' w6 hH6 hh6 pn6 g0 a0 eH0
    refine ⟨by decide, by decide, fun i env M' => ∃ (ns ss : List (L2.Key × Dv)) (x6 x7 x8 x9 x10 x11 x12 x13 x14 x15 : Option Dv), env = [some (.scr scr), some (.ref q), some (.ref p), some (.ref pd), some (.ref lH), some (.ref lh), x6, x7, x8, x9, x10, x11, x12, x13, x14, x15, none, none] ∧ Wo C_Registry C_Pen M' q p pd a b c ns ss (300 + 41 * i) ∧ M' lH = some (.lst Hs) ∧ M' lh = some (.lst hs) ∧ Ch ns ss Hs hs ∧ Pn M' pd Hs hs, ?_, fun _ _ _ _ => trivial, ?_, ?_⟩
    · exact ⟨ns, ss, _, _, _, _, _, _, _, _, _, _, rfl, w8, hH8, hh8, ch, pn8⟩
    · clear w8 hH8 hh8 pn8 ch hl7
      rintro i d env M' hd ⟨ns, ss, x6, x7, x8, x9, x10, x11, x12, x13, x14, x15, rfl, w, hH, hh, ch, pn⟩
      have hl7 := ch.l
      obtain ⟨rfl, hi⟩ := range_at hd
      have hi : i < 4 := hi
      obtain ⟨ps, _, rg, _⟩ := w.ex
      obtain ⟨xs, hq, st⟩ := w.qq
      refine elder_go rg (w.ok (by omega)) hH hh n1 n2 hq st ch h1 h6 fun M9 xs9 kp hq9 st9 => ?_
      have kq : ∀ u o, M' u = some o → (∀ xs, o ≠ .lst xs) → M9 u = some o := fun u o h nl => kp u o h (fun z => by subst z; rw [hq] at h; injection h with h; exact nl _ h.symm)
      have w9 := w.keep kq ⟨xs9, hq9, st9⟩
      have hH9 := kp _ _ hH n1
      have hh9 := kp _ _ hh n2
      have pn9 : Pn M9 pd Hs hs := pn.le fun o => fun ⟨pns, d, e1, e2⟩ => ⟨pns, d, kq _ _ e1 (fun _ z => by cases z), e2⟩
      clear kp kq w hH hh pn rg hq st
      show (match M9 lh with | some (.lst xs) => _ | _ => False)
      rw [hh9]
      refine ⟨q, ((hs.length : Nat) : Int), xs9, rfl, hq9, st9, by omega, by omega, fun v xs1 v0 v1 st1 => ?_⟩
      obtain ⟨w10, x10⟩ := w9.draw st1
      have hH10 := x10.k3 _ _ n1 hH9
      have hh10 := x10.k3 _ _ n2 hh9
      have pn10 := pn9.le x10.k4
      generalize mup M9 q (.lst xs1) = M10 at w10 x10 hH10 hh10 pn10
      obtain ⟨ix, rfl⟩ : ∃ ix : Nat, v = (ix : Int) := ⟨v.toNat, by omega⟩
      have hix : ix < hs.length := by omega
      refine spoilt_go w10 (by omega) hH10 hh10 n1 n2 ch pn10 hix h6 fun M11 ns' ss' sp w11 x11 so => ?_
      have ch' := ch.ext x11.k1 x11.k2
      have hH11 := x11.k3 _ _ n1 hH10
      have hh11 := x11.k3 _ _ n2 hh10
      have pn11 := pn10.le x11.k4
      clear w9 hH9 hh9 pn9 w10 x10 hH10 hh10 pn10 x11 ch hq9 st9
      have c1 : cutD hs none (some (ix : Int)) = hs.take ix := cut_to ix
      have c2 : cutD hs (some ((ix : Int) + 1)) none = hs.drop (ix + 1) := cut_from (ix + 1)
      show (match M11 lh with | some (.lst xs) => _ | _ => False)
      rw [hh11]
      refine ⟨by rw [c1, List.length_take]; show _ + 1 ≤ sizeLine; omega, ?_⟩
      show (match M11 lh with | some (.lst xs) => _ | _ => False)
      rw [hh11]
      refine ⟨by rw [c1, c2, List.length_append, List.length_take, List.length_drop]; show _ + 1 + _ ≤ sizeLine; omega, ?_⟩
      dsimp only
      rw [c1, c2]
      have spg := so.g
      obtain ⟨kn, sz2, tx⟩ := spg.s.known (by decide) M11
      dsimp only [dNext, dSeq, dSet]
      refine de_key (fun d m => d = .bl (isPD sp) ∧ m = M11) (fun Q' hk => ?_) ?_
      · obtain ⟨n, e1, e5⟩ := known_kit kn
        refine ⟨by decide, ?_⟩
        rw [e1]
        show (if kitv n "tuple" = true then _ else Q' (.bl false) M11)
        rw [e5]
        have pl : Pl 29 sp := ⟨⟨spg.l, by have := spg.s.p; omega⟩, by have := spg.s.p; omega, sz2⟩
        cases sp with
        | tup ds =>
          refine iteBT rfl ?_
          show (if decide (((ds.length : Nat) : Int) = 2) = true then _ else Q' (.bl false) M11)
          by_cases c : ds.length = 2
          · obtain ⟨own, y, rfl⟩ := len2 c
            refine iteBT rfl ?_
            have e0 : atI [own, y] ((0 : Nat) : Int) = some own := atI_nat (j := 0) rfl
            show (match atI [own, y] ((0 : Nat) : Int) with | some d => _ | none => False)
            rw [e0]
            have po : Pl 28 own := pl.mem (n := 28) (by simp)
            obtain ⟨k1, k2⟩ := po.known M11
            refine ⟨own, rfl, k1, po.z, k2, ?_⟩
            rw [po.plain (by decide), Bool.true_and]
            exact hk _ _ ⟨rfl, rfl⟩
          · refine iteBF (decide_eq_false (by omega)) (hk _ _ ⟨?_, rfl⟩)
            unfold isPD
            split
            · rename_i e
              injection e with e
              exact absurd (by rw [e]; rfl) c
            · rfl
        | _ => exact hk _ _ ⟨rfl, rfl⟩
      · rintro d m ⟨rfl, rfl⟩
        have rowg : ∀ d ∈ hs.take ix ++ [sp] ++ hs.drop (ix + 1), Gd 5000 5 d := fun d hd => by
          rcases List.mem_append.mp hd with z | z
          · rcases List.mem_append.mp z with z | z
            · exact ch'.gd h6 (List.mem_of_mem_take z)
            · rw [List.mem_singleton.mp z]; exact spg
          · exact ch'.gd h6 (List.mem_of_mem_drop z)
        have rowl : (hs.take ix ++ [sp] ++ hs.drop (ix + 1)).length ≤ 12 := by
          simp only [List.length_append, List.length_take, List.length_drop, List.length_cons, List.length_nil]
          omega
        have jds : ∀ (s : Nat) (H : Dv), Hs[s]? = some H → Jd ns' ss' H ((hs.take ix ++ [sp] ++ hs.drop (ix + 1)).dropWhile (elderD (s : Int))) (if s ≤ ix then (hs.drop s).take (ix - s) else if elderD (s : Int) sp = true then hs.drop s else []) := fun s H eH => ch'.spoilt h1 h6 hix so eH
        have pl : Pl 29 sp := ⟨⟨spg.l, by have := spg.s.p; omega⟩, by have := spg.s.p; omega, sz2⟩
        generalize hs.take ix ++ [sp] ++ hs.drop (ix + 1) = row at rowg rowl jds
        show (match m lH with | some (.lst xs) => _ | _ => False)
        rw [hH11]
        refine ⟨by omega, by omega, fun j env M' => ∃ (x12 x13 : Option Dv), env = [some (.scr scr), some (.ref q), some (.ref p), some (.ref pd), some (.ref lH), some (.ref lh), x6, some (.int (0 + (i : Int))), some (.int (ix : Int)), some sp, some (.tup row), some (.bl (isPD sp)), x12, x13, x14, x15, none, none] ∧ MLe m M', ⟨_, _, rfl, MLe.refl⟩, fun _ _ _ _ => trivial, ?_, ?_⟩
        · rintro s d env M' hd ⟨x12, x13, rfl, le⟩
          obtain ⟨rfl, hs'⟩ := range_at hd
          have hs' : s < Hs.length := by rw [Int.toNat_natCast] at hs'; exact hs'
          obtain ⟨H, eH⟩ : ∃ H, Hs[s]? = some H := ⟨_, List.getElem?_eq_getElem hs'⟩
          obtain ⟨nm, pp, os, g, hc⟩ := ch'.hg h1 h6 eH
          have ea : atI Hs (0 + (s : Int)) = some H := by rw [Int.zero_add]; exact atI_nat eH
          have hh' := le _ _ hh11
          have hH' := le _ _ hH11
          have cd : cutD hs (some (0 + (s : Int))) (some (ix : Int)) = if s ≤ ix then (hs.drop s).take (ix - s) else [] := by
            rw [Int.zero_add]
            split
            · exact cut_mid (by assumption) (by omega)
            · unfold cutD
              rw [HT.sIx_nat, HT.sIx_nat, Nat.min_eq_left (show s ≤ hs.length by omega), Nat.min_eq_left (show ix ≤ hs.length by omega), show ix - s = 0 by omega]
              rfl
          have c3 : cutD hs (some (0 + (s : Int))) none = hs.drop s := by rw [Int.zero_add]; exact cut_from s
          show (match M' lh with | some (.lst xs) => _ | _ => False)
          rw [hh']
          dsimp only
          rw [cd]
          refine ifS_key (fun e m' => e = [some (.scr scr), some (.ref q), some (.ref p), some (.ref pd), some (.ref lH), some (.ref lh), x6, some (.int (0 + (i : Int))), some (.int (ix : Int)), some sp, some (.tup row), some (.bl (isPD sp)), some (.int (0 + (s : Int))), some (.lst (if s ≤ ix then (hs.drop s).take (ix - s) else if elderD (s : Int) sp = true then hs.drop s else [])), x14, x15, none, none] ∧ m' = M') (fun nx key => ?_) ?_
          · show (if decide (0 + (s : Int) > (ix : Int)) = true then _ else _)
            by_cases c : s ≤ ix
            · refine iteBF (decide_eq_false (by omega)) ?_
              refine key _ _ ⟨?_, rfl⟩
              rw [if_pos c, if_pos c]
              rfl
            · refine iteBT (decide_eq_true (by omega)) ?_
              show (if isPD sp = true then _ else _)
              by_cases ep : isPD sp = true
              · refine iteBT ep ?_
                obtain ⟨own, y, rfl, hy⟩ := isPD_ex ep
                have po : Pl 28 own := pl.mem (n := 28) (by simp)
                obtain ⟨a', p', b', r', os', rfl, _⟩ := hdr_parts po.o hy
                have e0 : atI [hdrV a' p' b' r' os', y] ((0 : Nat) : Int) = some (hdrV a' p' b' r' os') := atI_nat (j := 0) rfl
                have e1 : atI (hdrL a' p' b' r' os') ((1 : Nat) : Int) = some (.int a') := atI_nat (j := 1) rfl
                show (match atI [hdrV a' p' b' r' os', y] ((0 : Nat) : Int) with | some d => _ | none => False)
                rw [e0]
                show (match atI (hdrL a' p' b' r' os') ((1 : Nat) : Int) with | some d => _ | none => False)
                rw [e1]
                have el : elderD (s : Int) (.tup [hdrV a' p' b' r' os', y]) = decide (a' ≤ (s : Int)) := by simp only [elderD, hy, Bool.true_and]; rfl
                show (if decide (a' ≤ 0 + (s : Int)) = true then _ else _)
                refine iteB (fun z => ?_) (fun z => ?_)
                · show (match M' lh with | some (.lst xs) => _ | _ => False)
                  rw [hh']
                  dsimp only
                  rw [c3]
                  refine key _ _ ⟨?_, rfl⟩
                  rw [if_neg c, if_neg c, el, if_pos (decide_eq_true (by have := of_decide_eq_true z; omega))]
                  rfl
                · refine key _ _ ⟨?_, rfl⟩
                  rw [if_neg c, if_neg c, el, if_neg (by rw [decide_eq_false (by have := of_decide_eq_false z; omega)]; decide)]
                  rfl
              · refine iteBF (by simpa using ep) ?_
                refine key _ _ ⟨?_, rfl⟩
                rw [if_neg c, if_neg c, elder_isPD (by simpa using ep), if_neg Bool.false_ne_true]
                rfl
          · rintro e m' ⟨rfl, rfl⟩
            obtain ⟨r1, r2, r3, r4⟩ := row_ok rowg rowl m'
            obtain ⟨ps, _, rg, _⟩ := (w11.le le).ex
            refine ix_go hH' ea _ ?_
            have jd := jds s H eH
            have ls : okR (.lst (if s ≤ ix then (hs.drop s).take (ix - s) else if elderD (s : Int) sp = true then hs.drop s else [])) = true ∧ (toP (.lst (if s ≤ ix then (hs.drop s).take (ix - s) else if elderD (s : Int) sp = true then hs.drop s else []))).depth ≤ 60 ∧ (toP (.lst (if s ≤ ix then (hs.drop s).take (ix - s) else if elderD (s : Int) sp = true then hs.drop s else []))).shown.length ≤ sizeLine := by
              refine list_show (fun d hd => ?_) ?_
              · split at hd
                · exact ch'.gd h6 (List.mem_of_mem_drop (List.mem_of_mem_take hd))
                · split at hd
                  · exact ch'.gd h6 (List.mem_of_mem_drop hd)
                  · cases hd
              · split
                · rw [List.length_take, List.length_drop]; omega
                · split
                  · rw [List.length_drop]; omega
                  · exact Nat.zero_le _
            refine judged_go (out := if s ≤ ix then (hs.drop s).take (ix - s) else if elderD (s : Int) sp = true then hs.drop s else []) rg (w11.ok (by omega)) g r1 r2 r3 (fun z => by rw [r4] at z; cases z) (fun row' e' _ => ?_) (fun l hln => ?_)
            · injection e' with e'
              subst e'
              exact jd
            · generalize (if s ≤ ix then (hs.drop s).take (ix - s) else if elderD (s : Int) sp = true then hs.drop s else []) = out at ls
              have le2 : MLe m (mup m' l (.lst out)) := fun u o h => MLe.up hln _ _ (le u o h)
              have ef : frozen (mup m' l (.lst out)) (.ref l) = .lst out := by unfold frozen; simp only [lsD, mup_same]
              generalize mup m' l (.lst out) = M3 at le2 ef
              refine ⟨by rw [ef]; exact ls, ?_⟩
              rw [ef]
              refine ⟨ls, ?_⟩
              show (if (!decide ((toP (.lst out)).shown = (toP (.lst out)).shown)) = true then _ else _)
              refine iteBF (by rw [decide_eq_true rfl]; rfl) ?_
              exact ⟨_, _, rfl, le2⟩
        · rintro env M' ⟨x12, x13, rfl, le⟩
          have w12 := w11.le le
          have hH12 := le _ _ hH11
          have hh12 := le _ _ hh11
          have pn12 := pn11.le (pen_le le pd)
          clear w11 hH11 hh11 pn11 le
          obtain ⟨xs12, hq12, st12⟩ := w12.qq
          show (match M' lH with | some (.lst xs) => _ | _ => False)
          rw [hH12]
          refine ⟨q, ((Hs.length : Nat) : Int), xs12, rfl, hq12, st12, by omega, by omega, fun v2 xs13 v20 v21 st13 => ?_⟩
          obtain ⟨w13, x13'⟩ := w12.draw st13
          have hH13 := x13'.k3 _ _ n1 hH12
          have hh13 := x13'.k3 _ _ n2 hh12
          have pn13 := pn12.le x13'.k4
          generalize mup M' q (.lst xs13) = M13 at w13 x13' hH13 hh13 pn13
          obtain ⟨s, rfl⟩ : ∃ s : Nat, v2 = (s : Int) := ⟨v2.toNat, by omega⟩
          obtain ⟨H, eH⟩ : ∃ H, Hs[s]? = some H := ⟨_, List.getElem?_eq_getElem (by omega)⟩
          obtain ⟨nm, pp, os, g, hc⟩ := ch'.hg h1 h6 eH
          obtain ⟨hi', la, ehs⟩ : ∃ hi' la, hs = hi' ++ [la] := by
            rcases List.eq_nil_or_concat hs with z | ⟨A, B, z⟩
            · rw [z] at h1; cases h1
            · exact ⟨A, B, by rw [z, List.concat_eq_append]⟩
          have ela : hs[hi'.length]? = some la := by rw [ehs, List.getElem?_append_right (Nat.le_refl _), Nat.sub_self]; rfl
          have alast : atI hs (-1) = some la := by rw [ehs]; exact at_last hi' la
          obtain ⟨A, B, cn, _, _, rfl, lk⟩ := ch'.c _ _ ela
          obtain ⟨p1, o1, p2, o2, n', m', few, g1, g2, _, rfl, md⟩ := lk.ex
          have hil : hi'.length < hs.length := by rw [ehs, List.length_append]; show _ < _ + 1; omega
          have hn := md.hn
          have jk := ch'.junk h6 (s := s) (g2.gd (by omega)) (cert_gd (n := n') (by omega) md.l fun o ho => g1.o.k.b o (md.s o ho))
          have e0 : atI [B, .tup [.str "certificate", .int n', .tup (few.map .int)]] ((0 : Nat) : Int) = some B := atI_nat (j := 0) rfl
          have cs : cutD hs (some ((s : Int) + 1)) none = hs.drop (s + 1) := cut_from (s + 1)
          have cs0 : cutD hs (some (s : Int)) none = hs.drop s := cut_from s
          refine ix_go hh13 alast _ ?_
          refine ⟨by show 2 + 1 ≤ sizeLine; omega, ?_⟩
          refine ix_go hh13 alast _ ?_
          show (match atI [B, .tup [.str "certificate", .int n', .tup (few.map .int)]] ((0 : Nat) : Int) with | some d => _ | none => False)
          rw [e0]
          show (match M13 lh with | some (.lst xs) => _ | _ => False)
          rw [hh13]
          dsimp only
          rw [cs]
          refine addL_go rfl rfl (by rw [List.length_drop]; show 6 + _ ≤ sizeLine; omega) ?_
          generalize hL : [Dv.non, .tup [], .int 7, .str "head", .tup ([B, .tup [.str "certificate", .int n', .tup (few.map .int)]] ++ [.int 0]), .tup [.non, B]] ++ hs.drop (s + 1) = L at jk ⊢
          have lL : 1 ≤ L.length ∧ L.length ≤ 12 := by
            rw [← hL, List.length_append, List.length_drop]
            show 1 ≤ 6 + _ ∧ 6 + _ ≤ 12
            omega
          obtain ⟨xs14, hq14, st14⟩ := w13.qq
          refine ⟨q, ((L.length : Nat) : Int), xs14, rfl, hq14, st14, by omega, by omega, fun v3 xs15 v30 v31 st15 => ?_⟩
          obtain ⟨w15, x15'⟩ := w13.draw st15
          have hH15 := x15'.k3 _ _ n1 hH13
          have hh15 := x15'.k3 _ _ n2 hh13
          have pn15 := pn13.le x15'.k4
          generalize mup M13 q (.lst xs15) = M15 at w15 x15' hH15 hh15 pn15
          obtain ⟨fr, ef, mf⟩ := atI_some (xs := L) (i := v3) v30 v31
          obtain ⟨f1, f2, f3⟩ := jk fr mf
          refine at_go ef _ ?_
          refine ix_go hH15 (atI_nat eH) _ ?_
          show (match M15 lh with | some (.lst xs) => _ | _ => False)
          rw [hh15]
          refine ⟨by rw [cs0, List.length_drop]; show 1 + _ ≤ sizeLine; omega, ?_⟩
          rw [cs0]
          have rg2 : ∀ d ∈ [fr] ++ hs.drop s, Gd 5000 5 d := fun d hd => by
            rcases List.mem_append.mp hd with z | z
            · rw [List.mem_singleton.mp z]; exact f1
            · exact ch'.gd h6 (List.mem_of_mem_drop z)
          obtain ⟨r1, r2, r3, _⟩ := row_ok rg2 (by rw [List.length_append, List.length_drop]; show 1 + _ ≤ 12; omega) M15
          refine none_go w15 (by omega) g ⟨r1, r2, r3, fun row e _ => ?_⟩ fun M16 l16 le16 hl16 => ?_
          · injection e with e
            subst e
            exact one_row g (hs.drop s) f2 (f3 nm os).1 (f3 nm os).2
          · refine neNil hl16 ?_
            exact ⟨ns', ss', _, _, _, _, _, _, _, _, _, _, rfl, (w15.le le16).mono (by omega), le16 _ _ hH15, le16 _ _ hh15, ch', pn15.le (pen_le le16 pd)⟩
    · clear w8 hH8 hh8 pn8 ch hl7
      rintro env M' ⟨ns, ss, x6, x7, x8, x9, x10, x11, x12, x13, x14, x15, rfl, w, hH, hh, ch, pn⟩
      have hl7 := ch.l
      obtain ⟨xs, hq, st⟩ := w.qq
      have w : Wo C_Registry C_Pen M' q p pd a b c ns ss (300 + 41 * 4) := w
      show (match M' lH with | some (.lst xs) => _ | _ => False)
      rw [hH]
      refine ⟨q, ((Hs.length : Nat) : Int), xs, rfl, hq, st, by omega, by omega, fun v xs1 v0 v1 st1 => ?_⟩
      obtain ⟨w1, x1⟩ := w.draw st1
      have hH1 := x1.k3 _ _ n1 hH
      have hh1 := x1.k3 _ _ n2 hh
      generalize mup M' q (.lst xs1) = M1 at w1 x1 hH1 hh1
      obtain ⟨s, rfl⟩ : ∃ s : Nat, v = (s : Int) := ⟨v.toNat, by omega⟩
      have c1 : cutD hs none (some (s : Int)) = hs.take s := cut_to s
      have c2 : cutD hs (some (s : Int)) none = hs.drop s := cut_from s
      obtain ⟨H, eH⟩ : ∃ H, Hs[s]? = some H := ⟨_, List.getElem?_eq_getElem (by omega)⟩
      obtain ⟨nm, pp, os, g, hc⟩ := ch.hg h1 h6 eH
      show dLc _ _ dYes _ _ _ _ _
      refine dLc_map (hs.take s) eldV tru (fun R h => ?_) (by rw [List.length_take]; omega) trivial (fun x hx R hR => ?_) ?_
      · show (match M1 lh with | some (.lst ds) => _ | _ => False)
        rw [hh1]
        show R (cutD hs none (some (s : Int))) tru M1
        rw [c1]
        exact h
      · obtain ⟨i, hi, rfl⟩ := List.getElem_of_mem hx
        rw [List.length_take] at hi
        rw [List.getElem_take] at hR ⊢
        obtain ⟨_, _, A, B, e⟩ := ch.eldv h6 (List.getElem?_eq_getElem (show i < hs.length by omega))
        rw [e] at hR ⊢
        have e0 : atI [A, B] ((0 : Nat) : Int) = some A := atI_nat (j := 0) rfl
        show (match atI [A, B] ((0 : Nat) : Int) with | some d => _ | none => False)
        rw [e0]
        exact hR
      · have rowg : ∀ d ∈ (hs.take s).map eldV ++ hs.drop s, Gd 5000 5 d := fun d hd => by
          rcases List.mem_append.mp hd with z | z
          · obtain ⟨y, hy, rfl⟩ := List.mem_map.mp z
            obtain ⟨i, hi, rfl⟩ := List.getElem_of_mem hy
            rw [List.length_take] at hi
            rw [List.getElem_take]
            exact (ch.eldv h6 (List.getElem?_eq_getElem (by omega))).1
          · exact ch.gd h6 (List.mem_of_mem_drop z)
        have rowl : ((hs.take s).map eldV ++ hs.drop s).length ≤ 12 := by
          rw [List.length_append, List.length_map, List.length_take, List.length_drop]
          omega
        obtain ⟨r1, r2, r3, r4⟩ := row_ok rowg rowl M1
        refine ix_go hH1 (atI_nat eH) _ ?_
        show (match M1 lh with | some (.lst ds) => _ | _ => False)
        rw [hh1]
        dsimp only
        rw [c2]
        refine addL_go rfl rfl (by rw [List.length_map, List.length_take, List.length_drop]; omega) ?_
        obtain ⟨ps, _, rg, _⟩ := w1.ex
        refine judged_go (out := hs.drop s) rg (w1.ok (by decide)) g r1 r2 r3 (fun z => by rw [r4] at z; cases z) (fun row e _ => ?_) (fun l hln => ?_)
        · injection e with e
          subst e
          rw [ch.elders h6 (by omega)]
          exact ch.all h1 h6 eH
        · have le2 : MLe M1 (mup M1 l (.lst (hs.drop s))) := MLe.up hln
          have ef : frozen (mup M1 l (.lst (hs.drop s))) (.ref l) = .lst (hs.drop s) := by unfold frozen; simp only [lsD, mup_same]
          have hh2 := le2 _ _ hh1
          generalize mup M1 l (.lst (hs.drop s)) = M2 at le2 ef hh2
          have ls := list_show (ds := hs.drop s) (fun d hd => ch.gd h6 (List.mem_of_mem_drop hd)) (by rw [List.length_drop]; omega)
          refine ⟨by rw [ef]; exact ls, ?_⟩
          rw [ef]
          show (match M2 lh with | some (.lst ds) => _ | _ => False)
          rw [hh2]
          dsimp only
          rw [c2]
          refine ⟨ls, ?_⟩
          refine ⟨fun _ => none, (fun _ _ z => by cases z), ?_⟩
          show R (.bl (decide ((toP (.lst (hs.drop s))).shown = (toP (.lst (hs.drop s))).shown))) _
          rw [decide_eq_true rfl]
          exact k
end
end Vk
set_option linter.unusedVariables false
set_option linter.unusedSimpArgs false
namespace Vk
open PySem PySem.Spec PyProof.Rows L2
theorem fun_mkD {K : PySem.W.Frag} {x qual : Str} {st : Stmt} {f : Addr} {oc : Value} {od : Option Addr} {kV doc pm : Value} {an : Option Addr} {cd ct : Value} {sl : Array (Option Value)} (l : K.lookup f = some ⟨oc, od, .func (PySem.W.fnOf x qual (defArgs st) (defBody st) (defScope st) .none kV doc pm an cd ct), sl⟩) (c : PySem.W.codeIn K cd qual = true) (k : PySem.W.keepIn K (.ref f) = true) : L2.Fun K x qual st f (PySem.W.fnOf x qual (defArgs st) (defBody st) (defScope st) .none kV doc pm an cd ct) := fun_mk l c k
def spLawD (K : PySem.W.Frag) : Sp := fun vs H Q _ => ∃ (a : Addr) (ns : List Int), vs = [.ref a] ∧ SqL K H a (ns.map V.int) ∧ ns.length ≤ 63 ∧ ∀ H', Q (.bl true) H'
theorem law_of {P : Program} {w : World} {K : PySem.W.Frag} {mg : Str → Option Value} {base : Heap} {k : Nat} {f : Addr} {fd : FuncData} (g : Gk P w K mg base k f fd ["script"] (spD K F_law)) : Gk P w K mg base k f fd ["script"] (spLawD K) := by
  refine Gk.weak (fun vs H Q E h => ?_) g
  obtain ⟨a, ns, rfl, hS, hl, q⟩ := h
  have e : hid (fun _ => false) (fun _ => none) H = H := by funext b; rfl
  refine ⟨fun _ => false, [.scr ns], fun _ => none, fun d _ => d = .bl true, .cons (.scr (by rw [e]; exact hS)) .nil, ⟨fun _ _ z => (by cases z), fun _ z => (by cases z)⟩, ⟨ns, rfl, hl, rfl, rfl⟩, ?_⟩
  rintro d M' v H' rfl g rd hr
  cases rd
  exact q H'
theorem all_mk {l : PySem.W.OpenLaw} {w : World} {K : PySem.W.Frag} {h : Heap} {mg : Str → Option Value} {fa f_is_plain f_atom f_is_integer f_is_at_least f_text f_is_owner f_are_owners f_is_header f_quorum f_is_certificate f_are_signers f_judged_heads f_behind_elder f_is_elder f_follows f_next f_owners f_pens f_certified f_chain f_spoilt f_asked f_elder_again f_law f_Registry_pen f_Pen_init f_Registry_name f_Pen_seal f_Registry_is_sealed f_Registry_init C_Registry C_Pen : Addr} (X : K.In h) (G : h.Ns mainGlobals mg) (hfa : mg "law" = some (.ref fa))
    {od_is_plain an_is_plain od_atom an_atom od_is_integer an_is_integer od_is_at_least an_is_at_least od_text an_text od_is_owner an_is_owner od_are_owners an_are_owners od_is_header an_is_header od_quorum an_quorum od_is_certificate an_is_certificate od_are_signers an_are_signers od_judged_heads an_judged_heads od_behind_elder an_behind_elder od_is_elder an_is_elder od_follows an_follows od_next an_next od_owners an_owners od_pens an_pens od_certified an_certified od_chain an_chain od_spoilt an_spoilt od_asked an_asked od_elder_again an_elder_again od_law an_law od_Registry_pen an_Registry_pen od_Pen_init an_Pen_init od_Registry_name an_Registry_name od_Pen_seal an_Pen_seal od_Registry_is_sealed an_Registry_is_sealed od_Registry_init an_Registry_init : Option Addr} {sl_is_plain sl_atom sl_is_integer sl_is_at_least sl_text sl_is_owner sl_are_owners sl_is_header sl_quorum sl_is_certificate sl_are_signers sl_judged_heads sl_behind_elder sl_is_elder sl_follows sl_next sl_owners sl_pens sl_certified sl_chain sl_spoilt sl_asked sl_elder_again sl_law sl_Registry_pen sl_Pen_init sl_Registry_name sl_Pen_seal sl_Registry_is_sealed sl_Registry_init : Array (Option Value)}
    {oc_is_plain kV_is_plain dc_is_plain pm_is_plain cd_is_plain ct_is_plain oc_atom kV_atom dc_atom pm_atom cd_atom ct_atom oc_is_integer kV_is_integer dc_is_integer pm_is_integer cd_is_integer ct_is_integer oc_is_at_least kV_is_at_least dc_is_at_least pm_is_at_least cd_is_at_least ct_is_at_least oc_text kV_text dc_text pm_text cd_text ct_text oc_is_owner kV_is_owner dc_is_owner pm_is_owner cd_is_owner ct_is_owner oc_are_owners kV_are_owners dc_are_owners pm_are_owners cd_are_owners ct_are_owners oc_is_header kV_is_header dc_is_header pm_is_header cd_is_header ct_is_header oc_quorum kV_quorum dc_quorum pm_quorum cd_quorum ct_quorum oc_is_certificate kV_is_certificate dc_is_certificate pm_is_certificate cd_is_certificate ct_is_certificate oc_are_signers kV_are_signers dc_are_signers pm_are_signers cd_are_signers ct_are_signers oc_judged_heads kV_judged_heads dc_judged_heads pm_judged_heads cd_judged_heads ct_judged_heads oc_behind_elder kV_behind_elder dc_behind_elder pm_behind_elder cd_behind_elder ct_behind_elder oc_is_elder kV_is_elder dc_is_elder pm_is_elder cd_is_elder ct_is_elder oc_follows kV_follows dc_follows pm_follows cd_follows ct_follows oc_next kV_next dc_next pm_next cd_next ct_next oc_owners kV_owners dc_owners pm_owners cd_owners ct_owners oc_pens kV_pens dc_pens pm_pens cd_pens ct_pens oc_certified kV_certified dc_certified pm_certified cd_certified ct_certified oc_chain kV_chain dc_chain pm_chain cd_chain ct_chain oc_spoilt kV_spoilt dc_spoilt pm_spoilt cd_spoilt ct_spoilt oc_asked kV_asked dc_asked pm_asked cd_asked ct_asked oc_elder_again kV_elder_again dc_elder_again pm_elder_again cd_elder_again ct_elder_again oc_law kV_law dc_law pm_law cd_law ct_law oc_Registry_pen kV_Registry_pen dc_Registry_pen pm_Registry_pen cd_Registry_pen ct_Registry_pen oc_Pen_init kV_Pen_init dc_Pen_init pm_Pen_init cd_Pen_init ct_Pen_init oc_Registry_name kV_Registry_name dc_Registry_name pm_Registry_name cd_Registry_name ct_Registry_name oc_Pen_seal kV_Pen_seal dc_Pen_seal pm_Pen_seal cd_Pen_seal ct_Pen_seal oc_Registry_is_sealed kV_Registry_is_sealed dc_Registry_is_sealed pm_Registry_is_sealed cd_Registry_is_sealed ct_Registry_is_sealed oc_Registry_init kV_Registry_init dc_Registry_init pm_Registry_init cd_Registry_init ct_Registry_init : Value}
    (a_is_plain : PySem.W.nsIn K mainGlobals "is_plain" = some (some (.ref f_is_plain)))
    (l_is_plain : K.lookup f_is_plain = some ⟨oc_is_plain, od_is_plain, .func (PySem.W.fnOf "is_plain" "is_plain" (defArgs s_is_plain) (defBody s_is_plain) (defScope s_is_plain) .none kV_is_plain dc_is_plain pm_is_plain an_is_plain cd_is_plain ct_is_plain), sl_is_plain⟩)
    (c_is_plain : PySem.W.codeIn K cd_is_plain "is_plain" = true) (k_is_plain : PySem.W.keepIn K (.ref f_is_plain) = true)
    (a_atom : PySem.W.nsIn K mainGlobals "_is_plain_atom" = some (some (.ref f_atom)))
    (l_atom : K.lookup f_atom = some ⟨oc_atom, od_atom, .func (PySem.W.fnOf "_is_plain_atom" "_is_plain_atom" (defArgs s_atom) (defBody s_atom) (defScope s_atom) .none kV_atom dc_atom pm_atom an_atom cd_atom ct_atom), sl_atom⟩)
    (c_atom : PySem.W.codeIn K cd_atom "_is_plain_atom" = true) (k_atom : PySem.W.keepIn K (.ref f_atom) = true)
    (a_is_integer : PySem.W.nsIn K mainGlobals "is_integer" = some (some (.ref f_is_integer)))
    (l_is_integer : K.lookup f_is_integer = some ⟨oc_is_integer, od_is_integer, .func (PySem.W.fnOf "is_integer" "is_integer" (defArgs s_is_integer) (defBody s_is_integer) (defScope s_is_integer) .none kV_is_integer dc_is_integer pm_is_integer an_is_integer cd_is_integer ct_is_integer), sl_is_integer⟩)
    (c_is_integer : PySem.W.codeIn K cd_is_integer "is_integer" = true) (k_is_integer : PySem.W.keepIn K (.ref f_is_integer) = true)
    (a_is_at_least : PySem.W.nsIn K mainGlobals "is_at_least" = some (some (.ref f_is_at_least)))
    (l_is_at_least : K.lookup f_is_at_least = some ⟨oc_is_at_least, od_is_at_least, .func (PySem.W.fnOf "is_at_least" "is_at_least" (defArgs s_is_at_least) (defBody s_is_at_least) (defScope s_is_at_least) .none kV_is_at_least dc_is_at_least pm_is_at_least an_is_at_least cd_is_at_least ct_is_at_least), sl_is_at_least⟩)
    (c_is_at_least : PySem.W.codeIn K cd_is_at_least "is_at_least" = true) (k_is_at_least : PySem.W.keepIn K (.ref f_is_at_least) = true)
    (a_text : PySem.W.nsIn K mainGlobals "_text" = some (some (.ref f_text)))
    (l_text : K.lookup f_text = some ⟨oc_text, od_text, .func (PySem.W.fnOf "_text" "_text" (defArgs s_text) (defBody s_text) (defScope s_text) .none kV_text dc_text pm_text an_text cd_text ct_text), sl_text⟩)
    (c_text : PySem.W.codeIn K cd_text "_text" = true) (k_text : PySem.W.keepIn K (.ref f_text) = true)
    (a_is_owner : PySem.W.nsIn K mainGlobals "is_owner" = some (some (.ref f_is_owner)))
    (l_is_owner : K.lookup f_is_owner = some ⟨oc_is_owner, od_is_owner, .func (PySem.W.fnOf "is_owner" "is_owner" (defArgs s_is_owner) (defBody s_is_owner) (defScope s_is_owner) .none kV_is_owner dc_is_owner pm_is_owner an_is_owner cd_is_owner ct_is_owner), sl_is_owner⟩)
    (c_is_owner : PySem.W.codeIn K cd_is_owner "is_owner" = true) (k_is_owner : PySem.W.keepIn K (.ref f_is_owner) = true)
    (a_are_owners : PySem.W.nsIn K mainGlobals "are_owners" = some (some (.ref f_are_owners)))
    (l_are_owners : K.lookup f_are_owners = some ⟨oc_are_owners, od_are_owners, .func (PySem.W.fnOf "are_owners" "are_owners" (defArgs s_are_owners) (defBody s_are_owners) (defScope s_are_owners) .none kV_are_owners dc_are_owners pm_are_owners an_are_owners cd_are_owners ct_are_owners), sl_are_owners⟩)
    (c_are_owners : PySem.W.codeIn K cd_are_owners "are_owners" = true) (k_are_owners : PySem.W.keepIn K (.ref f_are_owners) = true)
    (a_is_header : PySem.W.nsIn K mainGlobals "is_header" = some (some (.ref f_is_header)))
    (l_is_header : K.lookup f_is_header = some ⟨oc_is_header, od_is_header, .func (PySem.W.fnOf "is_header" "is_header" (defArgs s_is_header) (defBody s_is_header) (defScope s_is_header) .none kV_is_header dc_is_header pm_is_header an_is_header cd_is_header ct_is_header), sl_is_header⟩)
    (c_is_header : PySem.W.codeIn K cd_is_header "is_header" = true) (k_is_header : PySem.W.keepIn K (.ref f_is_header) = true)
    (a_quorum : PySem.W.nsIn K mainGlobals "quorum" = some (some (.ref f_quorum)))
    (l_quorum : K.lookup f_quorum = some ⟨oc_quorum, od_quorum, .func (PySem.W.fnOf "quorum" "quorum" (defArgs s_quorum) (defBody s_quorum) (defScope s_quorum) .none kV_quorum dc_quorum pm_quorum an_quorum cd_quorum ct_quorum), sl_quorum⟩)
    (c_quorum : PySem.W.codeIn K cd_quorum "quorum" = true) (k_quorum : PySem.W.keepIn K (.ref f_quorum) = true)
    (a_is_certificate : PySem.W.nsIn K mainGlobals "is_certificate" = some (some (.ref f_is_certificate)))
    (l_is_certificate : K.lookup f_is_certificate = some ⟨oc_is_certificate, od_is_certificate, .func (PySem.W.fnOf "is_certificate" "is_certificate" (defArgs s_is_certificate) (defBody s_is_certificate) (defScope s_is_certificate) .none kV_is_certificate dc_is_certificate pm_is_certificate an_is_certificate cd_is_certificate ct_is_certificate), sl_is_certificate⟩)
    (c_is_certificate : PySem.W.codeIn K cd_is_certificate "is_certificate" = true) (k_is_certificate : PySem.W.keepIn K (.ref f_is_certificate) = true)
    (a_are_signers : PySem.W.nsIn K mainGlobals "_are_signers" = some (some (.ref f_are_signers)))
    (l_are_signers : K.lookup f_are_signers = some ⟨oc_are_signers, od_are_signers, .func (PySem.W.fnOf "_are_signers" "_are_signers" (defArgs s_are_signers) (defBody s_are_signers) (defScope s_are_signers) .none kV_are_signers dc_are_signers pm_are_signers an_are_signers cd_are_signers ct_are_signers), sl_are_signers⟩)
    (c_are_signers : PySem.W.codeIn K cd_are_signers "_are_signers" = true) (k_are_signers : PySem.W.keepIn K (.ref f_are_signers) = true)
    (a_judged_heads : PySem.W.nsIn K mainGlobals "judged_heads" = some (some (.ref f_judged_heads)))
    (l_judged_heads : K.lookup f_judged_heads = some ⟨oc_judged_heads, od_judged_heads, .func (PySem.W.fnOf "judged_heads" "judged_heads" (defArgs s_judged_heads) (defBody s_judged_heads) (defScope s_judged_heads) .none kV_judged_heads dc_judged_heads pm_judged_heads an_judged_heads cd_judged_heads ct_judged_heads), sl_judged_heads⟩)
    (c_judged_heads : PySem.W.codeIn K cd_judged_heads "judged_heads" = true) (k_judged_heads : PySem.W.keepIn K (.ref f_judged_heads) = true)
    (a_behind_elder : PySem.W.nsIn K mainGlobals "_behind_elder" = some (some (.ref f_behind_elder)))
    (l_behind_elder : K.lookup f_behind_elder = some ⟨oc_behind_elder, od_behind_elder, .func (PySem.W.fnOf "_behind_elder" "_behind_elder" (defArgs s_behind_elder) (defBody s_behind_elder) (defScope s_behind_elder) .none kV_behind_elder dc_behind_elder pm_behind_elder an_behind_elder cd_behind_elder ct_behind_elder), sl_behind_elder⟩)
    (c_behind_elder : PySem.W.codeIn K cd_behind_elder "_behind_elder" = true) (k_behind_elder : PySem.W.keepIn K (.ref f_behind_elder) = true)
    (a_is_elder : PySem.W.nsIn K mainGlobals "_is_elder" = some (some (.ref f_is_elder)))
    (l_is_elder : K.lookup f_is_elder = some ⟨oc_is_elder, od_is_elder, .func (PySem.W.fnOf "_is_elder" "_is_elder" (defArgs s_is_elder) (defBody s_is_elder) (defScope s_is_elder) .none kV_is_elder dc_is_elder pm_is_elder an_is_elder cd_is_elder ct_is_elder), sl_is_elder⟩)
    (c_is_elder : PySem.W.codeIn K cd_is_elder "_is_elder" = true) (k_is_elder : PySem.W.keepIn K (.ref f_is_elder) = true)
    (a_follows : PySem.W.nsIn K mainGlobals "_follows" = some (some (.ref f_follows)))
    (l_follows : K.lookup f_follows = some ⟨oc_follows, od_follows, .func (PySem.W.fnOf "_follows" "_follows" (defArgs s_follows) (defBody s_follows) (defScope s_follows) .none kV_follows dc_follows pm_follows an_follows cd_follows ct_follows), sl_follows⟩)
    (c_follows : PySem.W.codeIn K cd_follows "_follows" = true) (k_follows : PySem.W.keepIn K (.ref f_follows) = true)
    (a_next : PySem.W.nsIn K mainGlobals "_law_next" = some (some (.ref f_next)))
    (l_next : K.lookup f_next = some ⟨oc_next, od_next, .func (PySem.W.fnOf "_law_next" "_law_next" (defArgs s_next) (defBody s_next) (defScope s_next) .none kV_next dc_next pm_next an_next cd_next ct_next), sl_next⟩)
    (c_next : PySem.W.codeIn K cd_next "_law_next" = true) (k_next : PySem.W.keepIn K (.ref f_next) = true)
    (a_owners : PySem.W.nsIn K mainGlobals "_law_owners" = some (some (.ref f_owners)))
    (l_owners : K.lookup f_owners = some ⟨oc_owners, od_owners, .func (PySem.W.fnOf "_law_owners" "_law_owners" (defArgs s_owners) (defBody s_owners) (defScope s_owners) .none kV_owners dc_owners pm_owners an_owners cd_owners ct_owners), sl_owners⟩)
    (c_owners : PySem.W.codeIn K cd_owners "_law_owners" = true) (k_owners : PySem.W.keepIn K (.ref f_owners) = true)
    (a_pens : PySem.W.nsIn K mainGlobals "_law_pens" = some (some (.ref f_pens)))
    (l_pens : K.lookup f_pens = some ⟨oc_pens, od_pens, .func (PySem.W.fnOf "_law_pens" "_law_pens" (defArgs s_pens) (defBody s_pens) (defScope s_pens) .none kV_pens dc_pens pm_pens an_pens cd_pens ct_pens), sl_pens⟩)
    (c_pens : PySem.W.codeIn K cd_pens "_law_pens" = true) (k_pens : PySem.W.keepIn K (.ref f_pens) = true)
    (a_certified : PySem.W.nsIn K mainGlobals "_law_certified" = some (some (.ref f_certified)))
    (l_certified : K.lookup f_certified = some ⟨oc_certified, od_certified, .func (PySem.W.fnOf "_law_certified" "_law_certified" (defArgs s_certified) (defBody s_certified) (defScope s_certified) .none kV_certified dc_certified pm_certified an_certified cd_certified ct_certified), sl_certified⟩)
    (c_certified : PySem.W.codeIn K cd_certified "_law_certified" = true) (k_certified : PySem.W.keepIn K (.ref f_certified) = true)
    (a_chain : PySem.W.nsIn K mainGlobals "_law_chain" = some (some (.ref f_chain)))
    (l_chain : K.lookup f_chain = some ⟨oc_chain, od_chain, .func (PySem.W.fnOf "_law_chain" "_law_chain" (defArgs s_chain) (defBody s_chain) (defScope s_chain) .none kV_chain dc_chain pm_chain an_chain cd_chain ct_chain), sl_chain⟩)
    (c_chain : PySem.W.codeIn K cd_chain "_law_chain" = true) (k_chain : PySem.W.keepIn K (.ref f_chain) = true)
    (a_spoilt : PySem.W.nsIn K mainGlobals "_law_spoilt" = some (some (.ref f_spoilt)))
    (l_spoilt : K.lookup f_spoilt = some ⟨oc_spoilt, od_spoilt, .func (PySem.W.fnOf "_law_spoilt" "_law_spoilt" (defArgs s_spoilt) (defBody s_spoilt) (defScope s_spoilt) .none kV_spoilt dc_spoilt pm_spoilt an_spoilt cd_spoilt ct_spoilt), sl_spoilt⟩)
    (c_spoilt : PySem.W.codeIn K cd_spoilt "_law_spoilt" = true) (k_spoilt : PySem.W.keepIn K (.ref f_spoilt) = true)
    (a_asked : PySem.W.nsIn K mainGlobals "_law_asked" = some (some (.ref f_asked)))
    (l_asked : K.lookup f_asked = some ⟨oc_asked, od_asked, .func (PySem.W.fnOf "_law_asked" "_law_asked" (defArgs s_asked) (defBody s_asked) (defScope s_asked) .none kV_asked dc_asked pm_asked an_asked cd_asked ct_asked), sl_asked⟩)
    (c_asked : PySem.W.codeIn K cd_asked "_law_asked" = true) (k_asked : PySem.W.keepIn K (.ref f_asked) = true)
    (a_elder_again : PySem.W.nsIn K mainGlobals "_law_elder_again" = some (some (.ref f_elder_again)))
    (l_elder_again : K.lookup f_elder_again = some ⟨oc_elder_again, od_elder_again, .func (PySem.W.fnOf "_law_elder_again" "_law_elder_again" (defArgs s_elder_again) (defBody s_elder_again) (defScope s_elder_again) .none kV_elder_again dc_elder_again pm_elder_again an_elder_again cd_elder_again ct_elder_again), sl_elder_again⟩)
    (c_elder_again : PySem.W.codeIn K cd_elder_again "_law_elder_again" = true) (k_elder_again : PySem.W.keepIn K (.ref f_elder_again) = true)
    (a_law : PySem.W.nsIn K mainGlobals "law" = some (some (.ref f_law)))
    (l_law : K.lookup f_law = some ⟨oc_law, od_law, .func (PySem.W.fnOf "law" "law" (defArgs s_law) (defBody s_law) (defScope s_law) .none kV_law dc_law pm_law an_law cd_law ct_law), sl_law⟩)
    (c_law : PySem.W.codeIn K cd_law "law" = true) (k_law : PySem.W.keepIn K (.ref f_law) = true)
    (a_Registry_pen : PySem.W.findIn K (.ref C_Registry) "pen" = some (some (.ref f_Registry_pen))) (i_Registry_pen : PySem.W.isFn K (.ref f_Registry_pen) = true)
    (l_Registry_pen : K.lookup f_Registry_pen = some ⟨oc_Registry_pen, od_Registry_pen, .func (PySem.W.fnOf "pen" "Registry.pen" (defArgs s_Registry_pen) (defBody s_Registry_pen) (defScope s_Registry_pen) .none kV_Registry_pen dc_Registry_pen pm_Registry_pen an_Registry_pen cd_Registry_pen ct_Registry_pen), sl_Registry_pen⟩)
    (c_Registry_pen : PySem.W.codeIn K cd_Registry_pen "Registry.pen" = true) (k_Registry_pen : PySem.W.keepIn K (.ref f_Registry_pen) = true)
    (a_Pen_init : PySem.W.findIn K (.ref C_Pen) "__init__" = some (some (.ref f_Pen_init))) (i_Pen_init : PySem.W.isFn K (.ref f_Pen_init) = true)
    (l_Pen_init : K.lookup f_Pen_init = some ⟨oc_Pen_init, od_Pen_init, .func (PySem.W.fnOf "__init__" "Pen.__init__" (defArgs s_Pen_init) (defBody s_Pen_init) (defScope s_Pen_init) .none kV_Pen_init dc_Pen_init pm_Pen_init an_Pen_init cd_Pen_init ct_Pen_init), sl_Pen_init⟩)
    (c_Pen_init : PySem.W.codeIn K cd_Pen_init "Pen.__init__" = true) (k_Pen_init : PySem.W.keepIn K (.ref f_Pen_init) = true)
    (a_Registry_name : PySem.W.findIn K (.ref C_Registry) "name" = some (some (.ref f_Registry_name))) (i_Registry_name : PySem.W.isFn K (.ref f_Registry_name) = true)
    (l_Registry_name : K.lookup f_Registry_name = some ⟨oc_Registry_name, od_Registry_name, .func (PySem.W.fnOf "name" "Registry.name" (defArgs s_Registry_name) (defBody s_Registry_name) (defScope s_Registry_name) .none kV_Registry_name dc_Registry_name pm_Registry_name an_Registry_name cd_Registry_name ct_Registry_name), sl_Registry_name⟩)
    (c_Registry_name : PySem.W.codeIn K cd_Registry_name "Registry.name" = true) (k_Registry_name : PySem.W.keepIn K (.ref f_Registry_name) = true)
    (a_Pen_seal : PySem.W.findIn K (.ref C_Pen) "seal" = some (some (.ref f_Pen_seal))) (i_Pen_seal : PySem.W.isFn K (.ref f_Pen_seal) = true)
    (l_Pen_seal : K.lookup f_Pen_seal = some ⟨oc_Pen_seal, od_Pen_seal, .func (PySem.W.fnOf "seal" "Pen.seal" (defArgs s_Pen_seal) (defBody s_Pen_seal) (defScope s_Pen_seal) .none kV_Pen_seal dc_Pen_seal pm_Pen_seal an_Pen_seal cd_Pen_seal ct_Pen_seal), sl_Pen_seal⟩)
    (c_Pen_seal : PySem.W.codeIn K cd_Pen_seal "Pen.seal" = true) (k_Pen_seal : PySem.W.keepIn K (.ref f_Pen_seal) = true)
    (a_Registry_is_sealed : PySem.W.findIn K (.ref C_Registry) "is_sealed" = some (some (.ref f_Registry_is_sealed))) (i_Registry_is_sealed : PySem.W.isFn K (.ref f_Registry_is_sealed) = true)
    (l_Registry_is_sealed : K.lookup f_Registry_is_sealed = some ⟨oc_Registry_is_sealed, od_Registry_is_sealed, .func (PySem.W.fnOf "is_sealed" "Registry.is_sealed" (defArgs s_Registry_is_sealed) (defBody s_Registry_is_sealed) (defScope s_Registry_is_sealed) .none kV_Registry_is_sealed dc_Registry_is_sealed pm_Registry_is_sealed an_Registry_is_sealed cd_Registry_is_sealed ct_Registry_is_sealed), sl_Registry_is_sealed⟩)
    (c_Registry_is_sealed : PySem.W.codeIn K cd_Registry_is_sealed "Registry.is_sealed" = true) (k_Registry_is_sealed : PySem.W.keepIn K (.ref f_Registry_is_sealed) = true)
    (a_Registry_init : PySem.W.findIn K (.ref C_Registry) "__init__" = some (some (.ref f_Registry_init))) (i_Registry_init : PySem.W.isFn K (.ref f_Registry_init) = true)
    (l_Registry_init : K.lookup f_Registry_init = some ⟨oc_Registry_init, od_Registry_init, .func (PySem.W.fnOf "__init__" "Registry.__init__" (defArgs s_Registry_init) (defBody s_Registry_init) (defScope s_Registry_init) .none kV_Registry_init dc_Registry_init pm_Registry_init an_Registry_init cd_Registry_init ct_Registry_init), sl_Registry_init⟩)
    (c_Registry_init : PySem.W.codeIn K cd_Registry_init "Registry.__init__" = true) (k_Registry_init : PySem.W.keepIn K (.ref f_Registry_init) = true)
    (ac_Registry : PySem.W.nsIn K mainGlobals "Registry" = some (some (.ref C_Registry)))
    (ac_Pen : PySem.W.nsIn K mainGlobals "Pen" = some (some (.ref C_Pen)))
    (pg_Registry : PySem.W.plainGet K C_Registry Str.empty = true) (hd_Registry : PySem.W.hasDictIn K C_Registry = true) (po_Registry : PySem.W.plainOver K C_Registry = true) (sa_Registry : PySem.W.findIn K (.ref C_Registry) "__setattr__" = some (some (.builtin "object.__setattr__"))) (mk_Registry : PySem.W.makesIn K C_Registry = true) (kc_Registry : PySem.W.keepIn K (.ref C_Registry) = true)
    (pg_Pen : PySem.W.plainGet K C_Pen Str.empty = true) (hd_Pen : PySem.W.hasDictIn K C_Pen = true) (po_Pen : PySem.W.plainOver K C_Pen = true) (sa_Pen : PySem.W.findIn K (.ref C_Pen) "__setattr__" = some (some (.builtin "object.__setattr__"))) (mk_Pen : PySem.W.makesIn K C_Pen = true) (kc_Pen : PySem.W.keepIn K (.ref C_Pen) = true)
    (nf_f_names : PySem.W.findIn K (.ref C_Registry) "_names" = some none)
    (nf_f_sealed : PySem.W.findIn K (.ref C_Registry) "_sealed" = some none)
    (nf_f_pens : PySem.W.findIn K (.ref C_Registry) "_pens" = some none)
    (nf_g_owner : PySem.W.findIn K (.ref C_Pen) "owner" = some none)
    (nf_g_sealed : PySem.W.findIn K (.ref C_Pen) "_sealed" = some none)
    {qt_INTEGER_BOUND : Tok} (a_INTEGER_BOUND : PySem.W.nsIn K mainGlobals "INTEGER_BOUND" = some (some (.int (10 ^ 60) qt_INTEGER_BOUND)))
    {qt_MOST_TUPLES : Tok} (a_MOST_TUPLES : PySem.W.nsIn K mainGlobals "MOST_TUPLES" = some (some (.int (30) qt_MOST_TUPLES)))
    {qt_LAST_OWNER : Tok} (a_LAST_OWNER : PySem.W.nsIn K mainGlobals "LAST_OWNER" = some (some (.int (999) qt_LAST_OWNER)))
    {q_MANY_PLACES : Addr} {qo_MANY_PLACES : Option Addr} {qm_MANY_PLACES : Nat} {qs_MANY_PLACES : Array (Option Value)} {qt_MANY_PLACES_0 qt_MANY_PLACES_1 qt_MANY_PLACES_2 : Tok}
    (a_MANY_PLACES : PySem.W.nsIn K mainGlobals "MANY_PLACES" = some (some (.ref q_MANY_PLACES)))
    (l_MANY_PLACES : K.lookup q_MANY_PLACES = some ⟨.type "tuple", qo_MANY_PLACES, .seq #[.int 4 qt_MANY_PLACES_0, .int 7 qt_MANY_PLACES_1, .int 10 qt_MANY_PLACES_2] qm_MANY_PLACES, qs_MANY_PLACES⟩)
    (z_repr : PySem.W.nsIn K mainGlobals "repr" = some none)
    (z_int : PySem.W.nsIn K mainGlobals "int" = some none)
    (z_bool : PySem.W.nsIn K mainGlobals "bool" = some none)
    (z_str : PySem.W.nsIn K mainGlobals "str" = some none)
    (z_tuple : PySem.W.nsIn K mainGlobals "tuple" = some none)
    (z_list : PySem.W.nsIn K mainGlobals "list" = some none)
    (z_type : PySem.W.nsIn K mainGlobals "type" = some none)
    (z_isinstance : PySem.W.nsIn K mainGlobals "isinstance" = some none)
    (z_len : PySem.W.nsIn K mainGlobals "len" = some none)
    (z_all : PySem.W.nsIn K mainGlobals "all" = some none)
    (z_range : PySem.W.nsIn K mainGlobals "range" = some none)
    (z_sorted : PySem.W.nsIn K mainGlobals "sorted" = some none)
    (z_zip : PySem.W.nsIn K mainGlobals "zip" = some none)
    (z_set : PySem.W.nsIn K mainGlobals "set" = some none)
    (z_max : PySem.W.nsIn K mainGlobals "max" = some none)
    : ∃ fd : FuncData, (∀ (s : Shared) (v : Value), BindsTo s fd ⟨[v], []⟩ [("script", v)]) ∧ ∀ base : Heap, K.In base → base.Ns mainGlobals mg → Gk l.prog w K mg base 9 fa fd ["script"] (spLawD K) := by
  have e := hfa.symm.trans (PySem.W.mg_of X G a_law)
  cases e
  have Fn_is_plain := fun_mkD (st := s_is_plain) l_is_plain c_is_plain k_is_plain
  have b_is_plain := Fn_is_plain.binds (ps := ["value"]) fun _ _ _ _ _ _ us hl => match us, hl with | [_], _ => rfl
  have Fn_atom := fun_mkD (st := s_atom) l_atom c_atom k_atom
  have b_atom := Fn_atom.binds (ps := ["value"]) fun _ _ _ _ _ _ us hl => match us, hl with | [_], _ => rfl
  have Fn_is_integer := fun_mkD (st := s_is_integer) l_is_integer c_is_integer k_is_integer
  have b_is_integer := Fn_is_integer.binds (ps := ["value"]) fun _ _ _ _ _ _ us hl => match us, hl with | [_], _ => rfl
  have Fn_is_at_least := fun_mkD (st := s_is_at_least) l_is_at_least c_is_at_least k_is_at_least
  have b_is_at_least := Fn_is_at_least.binds (ps := ["value", "least"]) fun _ _ _ _ _ _ us hl => match us, hl with | [_, _], _ => rfl
  have Fn_text := fun_mkD (st := s_text) l_text c_text k_text
  have b_text := Fn_text.binds (ps := ["value"]) fun _ _ _ _ _ _ us hl => match us, hl with | [_], _ => rfl
  have Fn_is_owner := fun_mkD (st := s_is_owner) l_is_owner c_is_owner k_is_owner
  have b_is_owner := Fn_is_owner.binds (ps := ["value"]) fun _ _ _ _ _ _ us hl => match us, hl with | [_], _ => rfl
  have Fn_are_owners := fun_mkD (st := s_are_owners) l_are_owners c_are_owners k_are_owners
  have b_are_owners := Fn_are_owners.binds (ps := ["value"]) fun _ _ _ _ _ _ us hl => match us, hl with | [_], _ => rfl
  have Fn_is_header := fun_mkD (st := s_is_header) l_is_header c_is_header k_is_header
  have b_is_header := Fn_is_header.binds (ps := ["value"]) fun _ _ _ _ _ _ us hl => match us, hl with | [_], _ => rfl
  have Fn_quorum := fun_mkD (st := s_quorum) l_quorum c_quorum k_quorum
  have b_quorum := Fn_quorum.binds (ps := ["owners"]) fun _ _ _ _ _ _ us hl => match us, hl with | [_], _ => rfl
  have Fn_is_certificate := fun_mkD (st := s_is_certificate) l_is_certificate c_is_certificate k_is_certificate
  have b_is_certificate := Fn_is_certificate.binds (ps := ["registry", "value", "header", "owners"]) fun _ _ _ _ _ _ us hl => match us, hl with | [_, _, _, _], _ => rfl
  have Fn_are_signers := fun_mkD (st := s_are_signers) l_are_signers c_are_signers k_are_signers
  have b_are_signers := Fn_are_signers.binds (ps := ["value", "owners"]) fun _ _ _ _ _ _ us hl => match us, hl with | [_, _], _ => rfl
  have Fn_judged_heads := fun_mkD (st := s_judged_heads) l_judged_heads c_judged_heads k_judged_heads
  have b_judged_heads := Fn_judged_heads.binds (ps := ["registry", "header", "heads"]) fun _ _ _ _ _ _ us hl => match us, hl with | [_, _, _], _ => rfl
  have Fn_behind_elder := fun_mkD (st := s_behind_elder) l_behind_elder c_behind_elder k_behind_elder
  have b_behind_elder := Fn_behind_elder.binds (ps := ["header", "heads"]) fun _ _ _ _ _ _ us hl => match us, hl with | [_, _], _ => rfl
  have Fn_is_elder := fun_mkD (st := s_is_elder) l_is_elder c_is_elder k_is_elder
  have b_is_elder := Fn_is_elder.binds (ps := ["header", "head"]) fun _ _ _ _ _ _ us hl => match us, hl with | [_, _], _ => rfl
  have Fn_follows := fun_mkD (st := s_follows) l_follows c_follows k_follows
  have b_follows := Fn_follows.binds (ps := ["registry", "header", "head"]) fun _ _ _ _ _ _ us hl => match us, hl with | [_, _, _], _ => rfl
  have Fn_next := fun_mkD (st := s_next) l_next c_next k_next
  have b_next := Fn_next.binds (ps := ["state", "limit"]) fun _ _ _ _ _ _ us hl => match us, hl with | [_, _], _ => rfl
  have Fn_owners := fun_mkD (st := s_owners) l_owners c_owners k_owners
  have b_owners := Fn_owners.binds (ps := ["state"]) fun _ _ _ _ _ _ us hl => match us, hl with | [_], _ => rfl
  have Fn_pens := fun_mkD (st := s_pens) l_pens c_pens k_pens
  have b_pens := Fn_pens.binds (ps := ["registry", "owners", "pens"]) fun _ _ _ _ _ _ us hl => match us, hl with | [_, _, _], _ => rfl
  have Fn_certified := fun_mkD (st := s_certified) l_certified c_certified k_certified
  have b_certified := Fn_certified.binds (ps := ["state", "registry", "pens", "header", "owners"]) fun _ _ _ _ _ _ us hl => match us, hl with | [_, _, _, _, _], _ => rfl
  have Fn_chain := fun_mkD (st := s_chain) l_chain c_chain k_chain
  have b_chain := Fn_chain.binds (ps := ["state", "registry"]) fun _ _ _ _ _ _ us hl => match us, hl with | [_, _], _ => rfl
  have Fn_spoilt := fun_mkD (st := s_spoilt) l_spoilt c_spoilt k_spoilt
  have b_spoilt := Fn_spoilt.binds (ps := ["state", "registry", "pens", "headers", "heads", "index"]) fun _ _ _ _ _ _ us hl => match us, hl with | [_, _, _, _, _, _], _ => rfl
  have Fn_asked := fun_mkD (st := s_asked) l_asked c_asked k_asked
  have b_asked := Fn_asked.binds (ps := ["registry", "headers", "heads", "row", "count"]) fun _ _ _ _ _ _ us hl => match us, hl with | [_, _, _, _, _], _ => rfl
  have Fn_elder_again := fun_mkD (st := s_elder_again) l_elder_again c_elder_again k_elder_again
  have b_elder_again := Fn_elder_again.binds (ps := ["state", "registry", "headers", "heads"]) fun _ _ _ _ _ _ us hl => match us, hl with | [_, _, _, _], _ => rfl
  have Fn_law := fun_mkD (st := s_law) l_law c_law k_law
  have Fn_Registry_pen := fun_mkD (st := s_Registry_pen) l_Registry_pen c_Registry_pen k_Registry_pen
  have b_Registry_pen := Fn_Registry_pen.binds (ps := ["self", "owner"]) fun _ _ _ _ _ _ us hl => match us, hl with | [_, _], _ => rfl
  have Fn_Pen_init := fun_mkD (st := s_Pen_init) l_Pen_init c_Pen_init k_Pen_init
  have b_Pen_init := Fn_Pen_init.binds (ps := ["self", "owner", "sealed"]) fun _ _ _ _ _ _ us hl => match us, hl with | [_, _, _], _ => rfl
  have Fn_Registry_name := fun_mkD (st := s_Registry_name) l_Registry_name c_Registry_name k_Registry_name
  have b_Registry_name := Fn_Registry_name.binds (ps := ["self", "value"]) fun _ _ _ _ _ _ us hl => match us, hl with | [_, _], _ => rfl
  have Fn_Pen_seal := fun_mkD (st := s_Pen_seal) l_Pen_seal c_Pen_seal k_Pen_seal
  have b_Pen_seal := Fn_Pen_seal.binds (ps := ["self", "body"]) fun _ _ _ _ _ _ us hl => match us, hl with | [_, _], _ => rfl
  have Fn_Registry_is_sealed := fun_mkD (st := s_Registry_is_sealed) l_Registry_is_sealed c_Registry_is_sealed k_Registry_is_sealed
  have b_Registry_is_sealed := Fn_Registry_is_sealed.binds (ps := ["self", "owner", "value"]) fun _ _ _ _ _ _ us hl => match us, hl with | [_, _, _], _ => rfl
  have Fn_Registry_init := fun_mkD (st := s_Registry_init) l_Registry_init c_Registry_init k_Registry_init
  have b_Registry_init := Fn_Registry_init.binds (ps := ["self"]) fun _ _ _ _ _ _ us hl => match us, hl with | [_], _ => rfl
  refine ⟨PySem.W.fnOf "law" "law" (defArgs s_law) (defBody s_law) (defScope s_law) .none kV_law dc_law pm_law an_law cd_law ct_law, fun s v => .of_eq rfl, fun base _ _ => ?_⟩
  have T : Tx K mg q_MANY_PLACES C_Registry C_Pen := { f_names := ⟨⟨pg_Registry, hd_Registry, po_Registry, sa_Registry⟩, nf_f_names⟩, f_sealed := ⟨⟨pg_Registry, hd_Registry, po_Registry, sa_Registry⟩, nf_f_sealed⟩, f_pens := ⟨⟨pg_Registry, hd_Registry, po_Registry, sa_Registry⟩, nf_f_pens⟩, g_owner := ⟨⟨pg_Pen, hd_Pen, po_Pen, sa_Pen⟩, nf_g_owner⟩, g_sealed := ⟨⟨pg_Pen, hd_Pen, po_Pen, sa_Pen⟩, nf_g_sealed⟩, mg_INTEGER_BOUND := ⟨_, PySem.W.mg_of X G a_INTEGER_BOUND⟩, mg_MOST_TUPLES := ⟨_, PySem.W.mg_of X G a_MOST_TUPLES⟩, mg_LAST_OWNER := ⟨_, PySem.W.mg_of X G a_LAST_OWNER⟩, mg_MANY_PLACES := PySem.W.mg_of X G a_MANY_PLACES, rd_MANY_PLACES := fun G' => rd_tupK (vs := [.int 4, .int 7, .int 10]) l_MANY_PLACES (by show 3 ≤ sizeLine; decide) (.cons ⟨_, rfl⟩ (.cons ⟨_, rfl⟩ (.cons ⟨_, rfl⟩ .nil))) G' (.cons (.int _) (.cons (.int _) (.cons (.int _) .nil))), repr := PySem.W.mg_none_of X G z_repr, int := PySem.W.mg_none_of X G z_int, bool := PySem.W.mg_none_of X G z_bool, str := PySem.W.mg_none_of X G z_str, tuple := PySem.W.mg_none_of X G z_tuple, list := PySem.W.mg_none_of X G z_list, type := PySem.W.mg_none_of X G z_type, isinstance := PySem.W.mg_none_of X G z_isinstance, len := PySem.W.mg_none_of X G z_len, all := PySem.W.mg_none_of X G z_all, range := PySem.W.mg_none_of X G z_range, sorted := PySem.W.mg_none_of X G z_sorted, zip := PySem.W.mg_none_of X G z_zip, set := PySem.W.mg_none_of X G z_set, max := PySem.W.mg_none_of X G z_max }
  have C_is_integer : DCal l.prog w K mg base "is_integer" 1 F_is_integer := ⟨f_is_integer, _, _, ok_is_integer Fn_is_integer T, PySem.W.mg_of X G a_is_integer, k_is_integer, b_is_integer⟩
  have C_is_plain_atom : DCal l.prog w K mg base "_is_plain_atom" 2 F_atom := ⟨f_atom, _, _, ok_atom Fn_atom T C_is_integer, PySem.W.mg_of X G a_atom, k_atom, b_atom⟩
  have C_is_plain : DCal l.prog w K mg base "is_plain" 3 F_is_plain := ⟨f_is_plain, _, _, ok_is_plain Fn_is_plain T C_is_plain_atom, PySem.W.mg_of X G a_is_plain, k_is_plain, b_is_plain⟩
  have C_is_at_least : DCal l.prog w K mg base "is_at_least" 2 F_is_at_least := ⟨f_is_at_least, _, _, ok_is_at_least Fn_is_at_least T C_is_integer, PySem.W.mg_of X G a_is_at_least, k_is_at_least, b_is_at_least⟩
  have C_text : DCal l.prog w K mg base "_text" 1 F_text := ⟨f_text, _, _, ok_text Fn_text T, PySem.W.mg_of X G a_text, k_text, b_text⟩
  have C_is_owner : DCal l.prog w K mg base "is_owner" 2 F_is_owner := ⟨f_is_owner, _, _, ok_is_owner Fn_is_owner T C_is_integer, PySem.W.mg_of X G a_is_owner, k_is_owner, b_is_owner⟩
  have C_are_owners : DCal l.prog w K mg base "are_owners" 3 F_are_owners := ⟨f_are_owners, _, _, ok_are_owners Fn_are_owners T C_is_owner, PySem.W.mg_of X G a_are_owners, k_are_owners, b_are_owners⟩
  have C_is_header : DCal l.prog w K mg base "is_header" 4 F_is_header := ⟨f_is_header, _, _, ok_is_header Fn_is_header T C_is_plain C_are_owners C_is_at_least, PySem.W.mg_of X G a_is_header, k_is_header, b_is_header⟩
  have C_quorum : DCal l.prog w K mg base "quorum" 1 F_quorum := ⟨f_quorum, _, _, ok_quorum Fn_quorum T, PySem.W.mg_of X G a_quorum, k_quorum, b_quorum⟩
  have C_are_signers : DCal l.prog w K mg base "_are_signers" 2 F_are_signers := ⟨f_are_signers, _, _, ok_are_signers Fn_are_signers T C_quorum C_is_integer, PySem.W.mg_of X G a_are_signers, k_are_signers, b_are_signers⟩
  have M_Registry_name : DMeth l.prog w K mg base C_Registry "name" 2 (F_Registry_name C_Registry C_Pen) := ⟨f_Registry_name, _, _, ⟨pg_Registry, hd_Registry, po_Registry, sa_Registry⟩, ⟨a_Registry_name, i_Registry_name, k_Registry_name⟩, ok_Registry_name Fn_Registry_name T C_text, b_Registry_name⟩
  have M_Registry_is_sealed : DMeth l.prog w K mg base C_Registry "is_sealed" 2 (F_Registry_is_sealed C_Registry C_Pen) := ⟨f_Registry_is_sealed, _, _, ⟨pg_Registry, hd_Registry, po_Registry, sa_Registry⟩, ⟨a_Registry_is_sealed, i_Registry_is_sealed, k_Registry_is_sealed⟩, ok_Registry_is_sealed Fn_Registry_is_sealed T C_text, b_Registry_is_sealed⟩
  have C_is_certificate : DCal l.prog w K mg base "is_certificate" 4 (F_is_certificate C_Registry C_Pen) := ⟨f_is_certificate, _, _, ok_is_certificate Fn_is_certificate T C_is_plain C_is_at_least C_are_signers M_Registry_name M_Registry_is_sealed, PySem.W.mg_of X G a_is_certificate, k_is_certificate, b_is_certificate⟩
  have C_is_elder : DCal l.prog w K mg base "_is_elder" 5 F_is_elder := ⟨f_is_elder, _, _, ok_is_elder Fn_is_elder T C_is_header, PySem.W.mg_of X G a_is_elder, k_is_elder, b_is_elder⟩
  have C_behind_elder : DCal l.prog w K mg base "_behind_elder" 6 F_behind_elder := ⟨f_behind_elder, _, _, ok_behind_elder Fn_behind_elder T C_is_elder, PySem.W.mg_of X G a_behind_elder, k_behind_elder, b_behind_elder⟩
  have C_follows : DCal l.prog w K mg base "_follows" 5 (F_follows C_Registry C_Pen) := ⟨f_follows, _, _, ok_follows Fn_follows T C_is_certificate C_is_header M_Registry_name, PySem.W.mg_of X G a_follows, k_follows, b_follows⟩
  have C_judged_heads : DCal l.prog w K mg base "judged_heads" 7 (F_judged_heads C_Registry C_Pen) := ⟨f_judged_heads, _, _, ok_judged_heads Fn_judged_heads T C_behind_elder C_is_plain C_follows, PySem.W.mg_of X G a_judged_heads, k_judged_heads, b_judged_heads⟩
  have C_next : DCal l.prog w K mg base "_law_next" 1 F_next := ⟨f_next, _, _, ok_next Fn_next T, PySem.W.mg_of X G a_next, k_next, b_next⟩
  have C_owners : DCal l.prog w K mg base "_law_owners" 2 F_owners := ⟨f_owners, _, _, ok_owners Fn_owners T C_next, PySem.W.mg_of X G a_owners, k_owners, b_owners⟩
  have K_Pen : DMk l.prog w K mg base "Pen" C_Pen 1 (F_Pen_init C_Registry C_Pen) := ⟨f_Pen_init, _, _, ⟨mk_Pen, a_Pen_init, i_Pen_init, kc_Pen⟩, PySem.W.mg_of X G ac_Pen, ok_Pen_init Fn_Pen_init T, b_Pen_init⟩
  have M_Registry_pen : DMeth l.prog w K mg base C_Registry "pen" 3 (F_Registry_pen C_Registry C_Pen) := ⟨f_Registry_pen, _, _, ⟨pg_Registry, hd_Registry, po_Registry, sa_Registry⟩, ⟨a_Registry_pen, i_Registry_pen, k_Registry_pen⟩, ok_Registry_pen Fn_Registry_pen T K_Pen, b_Registry_pen⟩
  have C_pens : DCal l.prog w K mg base "_law_pens" 4 (F_pens C_Registry C_Pen) := ⟨f_pens, _, _, ok_pens Fn_pens T M_Registry_pen, PySem.W.mg_of X G a_pens, k_pens, b_pens⟩
  have M_Pen_seal : DMeth l.prog w K mg base C_Pen "seal" 2 (F_Pen_seal C_Registry C_Pen) := ⟨f_Pen_seal, _, _, ⟨pg_Pen, hd_Pen, po_Pen, sa_Pen⟩, ⟨a_Pen_seal, i_Pen_seal, k_Pen_seal⟩, ok_Pen_seal Fn_Pen_seal T C_text, b_Pen_seal⟩
  have C_certified : DCal l.prog w K mg base "_law_certified" 3 (F_certified C_Registry C_Pen) := ⟨f_certified, _, _, ok_certified Fn_certified T C_next M_Registry_name M_Pen_seal, PySem.W.mg_of X G a_certified, k_certified, b_certified⟩
  have C_chain : DCal l.prog w K mg base "_law_chain" 5 (F_chain C_Registry C_Pen) := ⟨f_chain, _, _, ok_chain Fn_chain T C_pens C_owners C_next C_certified M_Registry_name, PySem.W.mg_of X G a_chain, k_chain, b_chain⟩
  have C_spoilt : DCal l.prog w K mg base "_law_spoilt" 5 (F_spoilt C_Registry C_Pen) := ⟨f_spoilt, _, _, ok_spoilt Fn_spoilt T C_next C_pens C_certified, PySem.W.mg_of X G a_spoilt, k_spoilt, b_spoilt⟩
  have C_asked : DCal l.prog w K mg base "_law_asked" 8 (F_asked C_Registry C_Pen) := ⟨f_asked, _, _, ok_asked Fn_asked T C_judged_heads, PySem.W.mg_of X G a_asked, k_asked, b_asked⟩
  have C_elder_again : DCal l.prog w K mg base "_law_elder_again" 8 (F_elder_again C_Registry C_Pen) := ⟨f_elder_again, _, _, ok_elder_again Fn_elder_again T C_next C_judged_heads, PySem.W.mg_of X G a_elder_again, k_elder_again, b_elder_again⟩
  have K_Registry : DMk l.prog w K mg base "Registry" C_Registry 1 (F_Registry_init C_Registry C_Pen) := ⟨f_Registry_init, _, _, ⟨mk_Registry, a_Registry_init, i_Registry_init, kc_Registry⟩, PySem.W.mg_of X G ac_Registry, ok_Registry_init Fn_Registry_init T, b_Registry_init⟩
  exact law_of (ok_law Fn_law T C_chain C_next C_asked C_judged_heads C_spoilt C_elder_again C_is_header K_Registry)
theorem walk {l : PySem.W.OpenLaw} {q : Program} {loose : List Str} {XP : (Str → Option Value) → Heap → Prop} {YP : World → Heap → Prop} {d : DefRec} {K : Params → PySem.W.Frag} (hn : l.most = some 63) (hdf : d.params.defaults = [])
    (hY : ∀ (w : World) (h : Heap), YP w h → (K w.params).In h)
    (F : ∀ (w : World) (mg : Str → Option Value) (fa : Addr) (h : Heap), (K w.params).In h → h.Ns mainGlobals mg → mg d.name = some (.ref fa) →
      ∃ fd : FuncData, (∀ (s : Shared) (u : Value), BindsTo s fd ⟨[u], []⟩ [("script", u)]) ∧ ∀ base : Heap, (K w.params).In base → base.Ns mainGlobals mg → Gk l.prog w (K w.params) mg base 9 fa fd ["script"] (spLawD (K w.params))) :
    PySem.W.WalkO q loose XP YP l.row.toRowW d [] (fun f vs => PySem.call f vs) :=
  walkG (n := 63) (k := 9) (x := "script") (sp := fun w => spLawD (K w.params)) hn (by decide) hdf ⟨rfl, by decide, by decide⟩ hY F (fun _ _ a ns hl _ hS => ⟨a, ns, rfl, hS, hl, fun _ => rfl⟩)
end Vk
open PySem PySem.W PyProof.Rows
set_option maxRecDepth 100000 in
set_option maxHeartbeats 0 in
theorem PySem.Challenge.cw_trothbase_k21_judged_heads_holds : PySem.Challenge.rw_trothbase_k21_judged_heads.Holds := by
  w_on; o_law; k_head; (case hw => w_witness2)
  k_fill
  refine Vk.walk (l := PySem.Challenge.rw_trothbase_k21_judged_heads) rfl rfl (fun w h Y => PySem.W.kIn_of Y) ?F
  case F =>
    intro w mg fa h KX G hmg
    refine' Vk.all_mk KX G hmg ?a_is_plain ?l_is_plain ?c_is_plain ?k_is_plain ?a_atom ?l_atom ?c_atom ?k_atom ?a_is_integer ?l_is_integer ?c_is_integer ?k_is_integer ?a_is_at_least ?l_is_at_least ?c_is_at_least ?k_is_at_least ?a_text ?l_text ?c_text ?k_text ?a_is_owner ?l_is_owner ?c_is_owner ?k_is_owner ?a_are_owners ?l_are_owners ?c_are_owners ?k_are_owners ?a_is_header ?l_is_header ?c_is_header ?k_is_header ?a_quorum ?l_quorum ?c_quorum ?k_quorum ?a_is_certificate ?l_is_certificate ?c_is_certificate ?k_is_certificate ?a_are_signers ?l_are_signers ?c_are_signers ?k_are_signers ?a_judged_heads ?l_judged_heads ?c_judged_heads ?k_judged_heads ?a_behind_elder ?l_behind_elder ?c_behind_elder ?k_behind_elder ?a_is_elder ?l_is_elder ?c_is_elder ?k_is_elder ?a_follows ?l_follows ?c_follows ?k_follows ?a_next ?l_next ?c_next ?k_next ?a_owners ?l_owners ?c_owners ?k_owners ?a_pens ?l_pens ?c_pens ?k_pens ?a_certified ?l_certified ?c_certified ?k_certified ?a_chain ?l_chain ?c_chain ?k_chain ?a_spoilt ?l_spoilt ?c_spoilt ?k_spoilt ?a_asked ?l_asked ?c_asked ?k_asked ?a_elder_again ?l_elder_again ?c_elder_again ?k_elder_again ?a_law ?l_law ?c_law ?k_law ?a_Registry_pen ?i_Registry_pen ?l_Registry_pen ?c_Registry_pen ?k_Registry_pen ?a_Pen_init ?i_Pen_init ?l_Pen_init ?c_Pen_init ?k_Pen_init ?a_Registry_name ?i_Registry_name ?l_Registry_name ?c_Registry_name ?k_Registry_name ?a_Pen_seal ?i_Pen_seal ?l_Pen_seal ?c_Pen_seal ?k_Pen_seal ?a_Registry_is_sealed ?i_Registry_is_sealed ?l_Registry_is_sealed ?c_Registry_is_sealed ?k_Registry_is_sealed ?a_Registry_init ?i_Registry_init ?l_Registry_init ?c_Registry_init ?k_Registry_init ?ac_Registry ?ac_Pen ?pg_Registry ?hd_Registry ?po_Registry ?sa_Registry ?mk_Registry ?kc_Registry ?pg_Pen ?hd_Pen ?po_Pen ?sa_Pen ?mk_Pen ?kc_Pen ?nf_f_names ?nf_f_sealed ?nf_f_pens ?nf_g_owner ?nf_g_sealed ?a_INTEGER_BOUND ?a_MOST_TUPLES ?a_LAST_OWNER ?a_MANY_PLACES ?l_MANY_PLACES ?z_repr ?z_int ?z_bool ?z_str ?z_tuple ?z_list ?z_type ?z_isinstance ?z_len ?z_all ?z_range ?z_sorted ?z_zip ?z_set ?z_max
    (case ac_Registry => k_is)
    (case ac_Pen => k_is)
    (case a_is_plain => k_is)
    (case l_is_plain => k_is)
    (case c_is_plain => k_is)
    (case k_is_plain => k_is)
    (case a_atom => k_is)
    (case l_atom => k_is)
    (case c_atom => k_is)
    (case k_atom => k_is)
    (case a_is_integer => k_is)
    (case l_is_integer => k_is)
    (case c_is_integer => k_is)
    (case k_is_integer => k_is)
    (case a_is_at_least => k_is)
    (case l_is_at_least => k_is)
    (case c_is_at_least => k_is)
    (case k_is_at_least => k_is)
    (case a_text => k_is)
    (case l_text => k_is)
    (case c_text => k_is)
    (case k_text => k_is)
    (case a_is_owner => k_is)
    (case l_is_owner => k_is)
    (case c_is_owner => k_is)
    (case k_is_owner => k_is)
    (case a_are_owners => k_is)
    (case l_are_owners => k_is)
    (case c_are_owners => k_is)
    (case k_are_owners => k_is)
    (case a_is_header => k_is)
    (case l_is_header => k_is)
    (case c_is_header => k_is)
    (case k_is_header => k_is)
    (case a_quorum => k_is)
    (case l_quorum => k_is)
    (case c_quorum => k_is)
    (case k_quorum => k_is)
    (case a_is_certificate => k_is)
    (case l_is_certificate => k_is)
    (case c_is_certificate => k_is)
    (case k_is_certificate => k_is)
    (case a_are_signers => k_is)
    (case l_are_signers => k_is)
    (case c_are_signers => k_is)
    (case k_are_signers => k_is)
    (case a_judged_heads => k_is)
    (case l_judged_heads => k_is)
    (case c_judged_heads => k_is)
    (case k_judged_heads => k_is)
    (case a_behind_elder => k_is)
    (case l_behind_elder => k_is)
    (case c_behind_elder => k_is)
    (case k_behind_elder => k_is)
    (case a_is_elder => k_is)
    (case l_is_elder => k_is)
    (case c_is_elder => k_is)
    (case k_is_elder => k_is)
    (case a_follows => k_is)
    (case l_follows => k_is)
    (case c_follows => k_is)
    (case k_follows => k_is)
    (case a_next => k_is)
    (case l_next => k_is)
    (case c_next => k_is)
    (case k_next => k_is)
    (case a_owners => k_is)
    (case l_owners => k_is)
    (case c_owners => k_is)
    (case k_owners => k_is)
    (case a_pens => k_is)
    (case l_pens => k_is)
    (case c_pens => k_is)
    (case k_pens => k_is)
    (case a_certified => k_is)
    (case l_certified => k_is)
    (case c_certified => k_is)
    (case k_certified => k_is)
    (case a_chain => k_is)
    (case l_chain => k_is)
    (case c_chain => k_is)
    (case k_chain => k_is)
    (case a_spoilt => k_is)
    (case l_spoilt => k_is)
    (case c_spoilt => k_is)
    (case k_spoilt => k_is)
    (case a_asked => k_is)
    (case l_asked => k_is)
    (case c_asked => k_is)
    (case k_asked => k_is)
    (case a_elder_again => k_is)
    (case l_elder_again => k_is)
    (case c_elder_again => k_is)
    (case k_elder_again => k_is)
    (case a_law => k_is)
    (case l_law => k_is)
    (case c_law => k_is)
    (case k_law => k_is)
    (case a_Registry_pen => k_is)
    (case i_Registry_pen => k_is)
    (case l_Registry_pen => k_is)
    (case c_Registry_pen => k_is)
    (case k_Registry_pen => k_is)
    (case a_Pen_init => k_is)
    (case i_Pen_init => k_is)
    (case l_Pen_init => k_is)
    (case c_Pen_init => k_is)
    (case k_Pen_init => k_is)
    (case a_Registry_name => k_is)
    (case i_Registry_name => k_is)
    (case l_Registry_name => k_is)
    (case c_Registry_name => k_is)
    (case k_Registry_name => k_is)
    (case a_Pen_seal => k_is)
    (case i_Pen_seal => k_is)
    (case l_Pen_seal => k_is)
    (case c_Pen_seal => k_is)
    (case k_Pen_seal => k_is)
    (case a_Registry_is_sealed => k_is)
    (case i_Registry_is_sealed => k_is)
    (case l_Registry_is_sealed => k_is)
    (case c_Registry_is_sealed => k_is)
    (case k_Registry_is_sealed => k_is)
    (case a_Registry_init => k_is)
    (case i_Registry_init => k_is)
    (case l_Registry_init => k_is)
    (case c_Registry_init => k_is)
    (case k_Registry_init => k_is)
    (case pg_Registry => k_is)
    (case hd_Registry => k_is)
    (case po_Registry => k_is)
    (case sa_Registry => k_is)
    (case mk_Registry => k_is)
    (case kc_Registry => k_is)
    (case pg_Pen => k_is)
    (case hd_Pen => k_is)
    (case po_Pen => k_is)
    (case sa_Pen => k_is)
    (case mk_Pen => k_is)
    (case kc_Pen => k_is)
    (case nf_f_names => k_is)
    (case nf_f_sealed => k_is)
    (case nf_f_pens => k_is)
    (case nf_g_owner => k_is)
    (case nf_g_sealed => k_is)
    (case a_INTEGER_BOUND => k_is)
    (case a_MOST_TUPLES => k_is)
    (case a_LAST_OWNER => k_is)
    (case a_MANY_PLACES => k_is)
    (case l_MANY_PLACES => k_is)
    (case z_repr => k_is)
    (case z_int => k_is)
    (case z_bool => k_is)
    (case z_str => k_is)
    (case z_tuple => k_is)
    (case z_list => k_is)
    (case z_type => k_is)
    (case z_isinstance => k_is)
    (case z_len => k_is)
    (case z_all => k_is)
    (case z_range => k_is)
    (case z_sorted => k_is)
    (case z_zip => k_is)
    (case z_set => k_is)
    (case z_max => k_is)
#print axioms PySem.Challenge.cw_trothbase_k21_judged_heads_holds
