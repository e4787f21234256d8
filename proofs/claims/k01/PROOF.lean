import PyProof.Rows.All
import Wide.All
import OpenK.AllK
import Wide.FinOn
import PyProof.ReprReads
import PyProof.Rows.StrIntSpec
import HandS.Base
import HandS.Call
import HandS.List
import HandS.Dict
import HandS.Ends
import HandS.Words
import HandS.WordsList
import HandS.WordsDict
import PyProof.ReprRoads
import HandS.IsInst
import HandS.Zip0
import HandS.Zip
import KE.KDictZip
import KE.KDictItemsList
import HandS.Comp
import HandS.More
import HandS.Codes
import PySem.Challenge.RW_trothbase_k01_plain_and_same
set_option Elab.async false
set_option maxRecDepth 100000
set_option maxHeartbeats 4000000
namespace Vk
open PySem
/-! # The text of a plain value tells the value: no two have one text -/
/-! ## integers -/
def intL (i : Int) : List Nat := (Str.ofString (toString i)).cps.toList
theorem ofString_codes (x : String) : (Str.ofString x).cps.toList = x.toList.map Char.toNat := by
  simp [Str.ofString_eq_toList]
theorem codes_inj : ∀ {a b : List Char}, a.map Char.toNat = b.map Char.toNat → a = b
  | [], [], _ => rfl
  | [], _ :: _, h => by cases h
  | _ :: _, [], h => by cases h
  | x :: a, y :: b, h => by
    injection h with h1 h2
    have e : x = y := Char.ext (UInt32.toNat_inj.mp h1)
    rw [e, codes_inj h2]
theorem intL_inj {i j : Int} (h : intL i = intL j) : i = j := by
  unfold intL at h
  rw [ofString_codes, ofString_codes] at h
  have e := codes_inj h
  have e2 : toString i = toString j := String.ext e
  exact Int.repr_inj.mp e2
theorem digits_are (m : Nat) : ∀ c ∈ (Nat.toDigits 10 m).map Char.toNat, 48 ≤ c ∧ c ≤ 57 := by
  intro c hc
  obtain ⟨d, hd, rfl⟩ := List.mem_map.mp hc
  have z := Nat.isDigit_of_mem_toDigits (b := 10) (by decide) (by decide) hd
  simp only [Char.isDigit, Bool.and_eq_true, decide_eq_true_eq, UInt32.le_iff_toNat_le] at z
  exact z
theorem intL_mem (i : Int) : ∀ c ∈ intL i, c = 45 ∨ (48 ≤ c ∧ c ≤ 57) := by
  intro c hc
  cases i with
  | ofNat m =>
    unfold intL at hc
    rw [PyProof.Rows.text_ofNat] at hc
    exact .inr (digits_are m c (by simpa using hc))
  | negSucc m =>
    have e : intL (Int.negSucc m) = 45 :: (Nat.toDigits 10 (m + 1)).map Char.toNat := by
      unfold intL
      rw [ofString_codes]
      show ("-" ++ Nat.repr (m + 1)).toList.map Char.toNat = _
      rw [String.toList_append, List.map_append]
      show [45] ++ (Nat.repr (m + 1)).toList.map Char.toNat = _
      have e2 : (Nat.repr (m + 1)).toList = Nat.toDigits 10 (m + 1) := by
        unfold Nat.repr
        exact String.toList_ofList
      rw [e2]
      rfl
    rw [e] at hc
    rcases List.mem_cons.mp hc with h | h
    · exact .inl h
    · exact .inr (digits_are _ c h)
theorem intL_ne (i : Int) : intL i ≠ [] := by
  intro h
  have e : toString i = "" := by
    unfold intL at h
    rw [ofString_codes] at h
    exact String.ext (List.map_eq_nil_iff.mp h)
  cases i with
  | ofNat m =>
    have len := Nat.length_toDigits_pos (b := 10) (n := m)
    have e2 : Nat.repr m = "" := e
    have e3 : (Nat.repr m).toList = Nat.toDigits 10 m := by
      unfold Nat.repr
      exact String.toList_ofList
    rw [e2] at e3
    rw [← e3] at len
    exact absurd len (by decide)
  | negSucc m =>
    have e2 : "-" ++ Nat.repr (m + 1) = "" := e
    have e3 := congrArg String.toList e2
    rw [String.toList_append] at e3
    cases e3
/-! ## texts -/
/-- signs from the space to ~ -/
def okS (x : Str) : Bool := x.cps.all fun c => decide (32 ≤ c) && decide (c ≤ 126)
theorem okS_mem {x : Str} (h : okS x = true) : ∀ c ∈ x.cps.toList, 32 ≤ c ∧ c ≤ 126 := by
  intro c hc
  unfold okS at h
  rw [Array.all_eq_true'] at h
  have z := h c (Array.mem_toList_iff.mp hc)
  simpa using z
theorem print_ascii : ∀ c : Nat, c < 127 → 32 ≤ c → Unicode.isPrintable c = true := by
  have z : (List.range 127).all (fun c => !decide (32 ≤ c) || Unicode.isPrintable c) = true := by decide +kernel
  intro c h1 h2
  have y := List.all_eq_true.mp z c (List.mem_range.mpr h1)
  simpa [h2] using y
theorem repr_ascii {q c : Nat} (h1 : 32 ≤ c) (h2 : c ≤ 126) : Builtin.Str.reprChar q c = if c = q ∨ c = 92 then [92, c] else [c] := by
  unfold Builtin.Str.reprChar
  by_cases h : c = q ∨ c = 92
  · rw [if_pos h]
    have e : (c == q || c == 92) = true := by
      rcases h with h | h <;> simp [h]
    simp only [e, if_true]
  · rw [if_neg h]
    have e : (c == q || c == 92) = false := by
      simp only [Bool.or_eq_false_iff, beq_eq_false_iff_ne]
      exact ⟨fun z => h (.inl z), fun z => h (.inr z)⟩
    have e1 : (c == 10) = false := beq_eq_false_iff_ne.mpr (by omega)
    have e2 : (c == 13) = false := beq_eq_false_iff_ne.mpr (by omega)
    have e3 : (c == 9) = false := beq_eq_false_iff_ne.mpr (by omega)
    simp [e, e1, e2, e3, print_ascii c (by omega) h1]
def body (q : Nat) : List Nat → List Nat
  | [] => []
  | c :: r => (if c = q ∨ c = 92 then [92, c] else [c]) ++ body q r
theorem body_inj (q : Nat) (hq : q ≠ 92) : ∀ (a b r1 r2 : List Nat), body q a ++ q :: r1 = body q b ++ q :: r2 → a = b ∧ r1 = r2
  | [], [], r1, r2, h => ⟨rfl, by injection h⟩
  | [], c :: b, r1, r2, h => by
    exfalso
    simp only [body] at h
    split at h
    · injection h with h1 _
      exact hq h1
    · rename_i n
      injection h with h1 _
      exact n (.inl h1.symm)
  | c :: a, [], r1, r2, h => by
    exfalso
    simp only [body] at h
    split at h
    · injection h with h1 _
      exact hq h1.symm
    · rename_i n
      injection h with h1 _
      exact n (.inl h1)
  | c :: a, d :: b, r1, r2, h => by
    simp only [body] at h
    split at h <;> split at h
    · simp only [List.cons_append, List.nil_append, List.append_assoc] at h
      injection h with _ h
      injection h with h1 h
      obtain ⟨e1, e2⟩ := body_inj q hq a b r1 r2 h
      exact ⟨by rw [h1, e1], e2⟩
    · rename_i n
      simp only [List.cons_append, List.nil_append] at h
      injection h with h1 _
      exact absurd (.inr h1.symm) n
    · rename_i n _
      simp only [List.cons_append, List.nil_append] at h
      injection h with h1 _
      exact absurd (.inr h1) n
    · simp only [List.cons_append, List.nil_append, List.append_assoc] at h
      injection h with h1 h
      obtain ⟨e1, e2⟩ := body_inj q hq a b r1 r2 h
      exact ⟨by rw [h1, e1], e2⟩
def strL (x : Str) : List Nat := (reprText x).cps.toList
theorem foldl_codes (q : Nat) : ∀ (l : List Nat) (acc : Array Nat), (∀ c ∈ l, 32 ≤ c ∧ c ≤ 126) → (l.foldl (fun out c => out ++ (Builtin.Str.reprChar q c).toArray) acc).toList = acc.toList ++ body q l
  | [], acc, _ => by simp [body]
  | c :: l, acc, h => by
    obtain ⟨h1, h2⟩ := h c List.mem_cons_self
    rw [List.foldl_cons, foldl_codes q l _ (fun d hd => h d (List.mem_cons_of_mem _ hd)), repr_ascii h1 h2]
    simp [body]
theorem quote_is (x : Str) : reprQuote x = 34 ∨ reprQuote x = 39 := by
  unfold reprQuote
  split
  · exact .inl rfl
  · exact .inr rfl
theorem strL_eq {x : Str} (h : okS x = true) : strL x = reprQuote x :: (body (reprQuote x) x.cps.toList ++ [reprQuote x]) := by
  unfold strL reprText
  rw [Array.toList_push, ← Array.foldl_toList, foldl_codes _ _ _ (okS_mem h)]
  simp
theorem strL_inj {x y : Str} (hx : okS x = true) (hy : okS y = true) {r1 r2 : List Nat} (h : strL x ++ r1 = strL y ++ r2) : x = y ∧ r1 = r2 := by
  rw [strL_eq hx, strL_eq hy] at h
  simp only [List.cons_append, List.append_assoc, List.nil_append] at h
  injection h with hq h
  rw [← hq] at h
  obtain ⟨e1, e2⟩ := body_inj (reprQuote x) (by rcases quote_is x with e | e <;> rw [e] <;> decide) _ _ _ _ h
  refine ⟨?_, e2⟩
  cases x
  cases y
  congr
  exact Array.toList_inj.mp e1
end Vk
namespace Vk
open PySem
/-! ## whole values -/
mutual
/-- plain, of signs that are written as they are, of integers that are not too long -/
def okD : PyData → Bool
  | .none => true
  | .bool _ => true
  | .int i => decide (i.natAbs.log2 < 1920)
  | .str x => okS x
  | .tuple xs => okDs xs
  | .list _ => false
  | .dict _ => false
def okDs : List PyData → Bool
  | [] => true
  | x :: xs => okD x && okDs xs
end
def joinL : List (List Nat) → List Nat
  | [] => []
  | [x] => x
  | x :: y :: r => x ++ (44 :: 32 :: joinL (y :: r))
def closeL (n : Nat) : List Nat := if n = 1 then [44, 41] else [41]
mutual
def encD : PyData → List Nat
  | .none => [78, 111, 110, 101]
  | .bool true => [84, 114, 117, 101]
  | .bool false => [70, 97, 108, 115, 101]
  | .int i => intL i
  | .str x => strL x
  | .tuple xs => 40 :: (joinL (encDs xs) ++ closeL xs.length)
  | .list _ => []
  | .dict _ => []
def encDs : List PyData → List (List Nat)
  | [] => []
  | x :: xs => encD x :: encDs xs
end
theorem app_codes (a b : Str) : (a ++ b).cps.toList = a.cps.toList ++ b.cps.toList := by
  show (a.cps ++ b.cps).toList = _
  simp
theorem join_codes (f : PyData → List Nat) : ∀ ts : List Str, (Str.join ", " ts).cps.toList = joinL (ts.map fun t => t.cps.toList)
  | [] => rfl
  | [x] => rfl
  | x :: y :: r => by
    have ih := join_codes f (y :: r)
    show (x ++ ", " ++ Str.join ", " (y :: r)).cps.toList = _
    rw [app_codes, app_codes, ih, ofString_codes]
    simp [joinL]
theorem encDs_len : ∀ xs : List PyData, (encDs xs).length = xs.length
  | [] => rfl
  | x :: xs => by simp [encDs, encDs_len xs]
theorem shownAll_len : ∀ xs : List PyData, (PyData.shownAll xs).length = xs.length
  | [] => rfl
  | x :: xs => by simp [PyData.shownAll, shownAll_len xs]
mutual
theorem shown_codes : ∀ d : PyData, okD d = true → (PyData.shown d).cps.toList = encD d
  | .none, _ => by rw [PyData.shown, encD]; decide +kernel
  | .bool true, _ => by rw [PyData.shown, encD]; decide +kernel
  | .bool false, _ => by rw [PyData.shown, encD]; decide +kernel
  | .int i, _ => by rw [PyData.shown, encD]; rfl
  | .str x, _ => by rw [PyData.shown, encD]; rfl
  | .tuple xs, h => by
    have h' : okDs xs = true := by simpa [okD] using h
    rw [PyData.shown, encD]
    unfold tupleText
    rw [app_codes, app_codes, join_codes encD, shown_codesAll xs h', shownAll_len]
    by_cases e : xs.length = 1
    · simp only [e, closeL, if_true, beq_self_eq_true]
      rw [ofString_codes, ofString_codes]
      simp
    · have e2 : (xs.length == 1) = false := beq_eq_false_iff_ne.mpr e
      simp only [e, e2, closeL, if_false, Bool.false_eq_true]
      rw [ofString_codes, ofString_codes]
      simp
  | .list _, h => by simp [okD] at h
  | .dict _, h => by simp [okD] at h
theorem shown_codesAll : ∀ xs : List PyData, okDs xs = true → (PyData.shownAll xs).map (fun t => t.cps.toList) = encDs xs
  | [], _ => rfl
  | x :: xs, h => by
    have h' : okD x = true ∧ okDs xs = true := by simpa [okDs] using h
    simp only [PyData.shownAll, List.map_cons, encDs, shown_codes x h'.1, shown_codesAll xs h'.2]
end
/-- the kind of a value, by its first sign -/
def kindOf (c : Nat) : Nat := if c = 78 then 0 else if c = 84 ∨ c = 70 then 1 else if c = 34 ∨ c = 39 then 3 else if c = 40 then 4 else 2
def kindD : PyData → Nat
  | .none => 0
  | .bool _ => 1
  | .int _ => 2
  | .str _ => 3
  | .tuple _ => 4
  | .list _ => 5
  | .dict _ => 5
theorem first_sign : ∀ d : PyData, okD d = true → ∃ c t, encD d = c :: t ∧ kindOf c = kindD d ∧ c ≠ 41 ∧ c ≠ 44
  | .none, _ => ⟨78, [111, 110, 101], rfl, rfl, by decide, by decide⟩
  | .bool true, _ => ⟨84, _, rfl, rfl, by decide, by decide⟩
  | .bool false, _ => ⟨70, _, rfl, rfl, by decide, by decide⟩
  | .int i, _ => by
    have m := intL_mem i
    cases e : intL i with
    | nil => exact absurd e (intL_ne i)
    | cons c t =>
      have z := m c (by rw [e]; exact List.mem_cons_self)
      refine ⟨c, t, by rw [encD]; exact e, ?_, by omega, by omega⟩
      show kindOf c = 2
      unfold kindOf
      rw [if_neg (by omega), if_neg (by omega), if_neg (by omega), if_neg (by omega)]
  | .str x, h => by
    have e := strL_eq (x := x) h
    refine ⟨reprQuote x, _, by rw [encD]; exact e, ?_, ?_, ?_⟩
    · rcases quote_is x with z | z <;> rw [z] <;> rfl
    · rcases quote_is x with z | z <;> rw [z] <;> decide
    · rcases quote_is x with z | z <;> rw [z] <;> decide
  | .tuple xs, _ => ⟨40, _, by rw [encD], rfl, by decide, by decide⟩
  | .list _, h => by simp [okD] at h
  | .dict _, h => by simp [okD] at h
def Stop (r : List Nat) : Prop := r = [] ∨ ∃ c t, r = c :: t ∧ (c = 41 ∨ c = 44)
/-- two rows of signs, each behind it a stop: cut at the first stop -/
theorem cut_stop : ∀ (a b r1 r2 : List Nat), (∀ c ∈ a, c ≠ 41 ∧ c ≠ 44) → (∀ c ∈ b, c ≠ 41 ∧ c ≠ 44) → Stop r1 → Stop r2 → a ++ r1 = b ++ r2 → a = b ∧ r1 = r2
  | [], [], _, _, _, _, _, _, h => ⟨rfl, h⟩
  | [], d :: b, r1, r2, _, hb, s1, _, h => by
    exfalso
    have z := hb d List.mem_cons_self
    rcases s1 with rfl | ⟨c, t, rfl, hc⟩
    · cases h
    · injection h with h1 _
      omega
  | c :: a, [], r1, r2, ha, _, _, s2, h => by
    exfalso
    have z := ha c List.mem_cons_self
    rcases s2 with rfl | ⟨d, t, rfl, hc⟩
    · cases h
    · injection h with h1 _
      omega
  | c :: a, d :: b, r1, r2, ha, hb, s1, s2, h => by
    injection h with h1 h
    obtain ⟨e1, e2⟩ := cut_stop a b r1 r2 (fun x hx => ha x (List.mem_cons_of_mem _ hx)) (fun x hx => hb x (List.mem_cons_of_mem _ hx)) s1 s2 h
    exact ⟨by rw [h1, e1], e2⟩
theorem close_stop (n : Nat) (r : List Nat) : Stop (closeL n ++ r) := by
  unfold closeL
  split
  · exact .inr ⟨44, _, rfl, .inr rfl⟩
  · exact .inr ⟨41, _, rfl, .inl rfl⟩
theorem kind_same {d e : PyData} (hd : okD d = true) (he : okD e = true) {r1 r2 : List Nat} (h : encD d ++ r1 = encD e ++ r2) : kindD d = kindD e := by
  obtain ⟨c, t, e1, k1, _⟩ := first_sign d hd
  obtain ⟨c', t', e2, k2, _⟩ := first_sign e he
  rw [e1, e2] at h
  injection h with h1 _
  rw [← k1, ← k2, h1]
mutual
theorem enc_inj : ∀ (d e : PyData) (r1 r2 : List Nat), okD d = true → okD e = true → Stop r1 → Stop r2 → encD d ++ r1 = encD e ++ r2 → d = e ∧ r1 = r2
  | .none, e, r1, r2, hd, he, s1, s2, h => by
    have k := kind_same hd he h
    cases e with
    | none => exact ⟨rfl, List.append_cancel_left h⟩
    | _ => simp [kindD] at k
  | .bool b, e, r1, r2, hd, he, s1, s2, h => by
    have k := kind_same hd he h
    cases e with
    | bool b' =>
      cases b <;> cases b'
      · exact ⟨rfl, List.append_cancel_left h⟩
      · simp [encD] at h
      · simp [encD] at h
      · exact ⟨rfl, List.append_cancel_left h⟩
    | _ => simp [kindD] at k
  | .int i, e, r1, r2, hd, he, s1, s2, h => by
    have k := kind_same hd he h
    cases e with
    | int j =>
      rw [encD, encD] at h
      obtain ⟨e1, e2⟩ := cut_stop _ _ _ _ (fun c hc => by have z := intL_mem i c hc; omega) (fun c hc => by have z := intL_mem j c hc; omega) s1 s2 h
      exact ⟨by rw [intL_inj e1], e2⟩
    | _ => simp [kindD] at k
  | .str x, e, r1, r2, hd, he, s1, s2, h => by
    have k := kind_same hd he h
    cases e with
    | str y =>
      rw [encD, encD] at h
      obtain ⟨e1, e2⟩ := strL_inj (x := x) (y := y) (by simpa [okD] using hd) (by simpa [okD] using he) h
      exact ⟨by rw [e1], e2⟩
    | _ => simp [kindD] at k
  | .tuple xs, e, r1, r2, hd, he, s1, s2, h => by
    have k := kind_same hd he h
    cases e with
    | tuple ys =>
      rw [encD, encD] at h
      simp only [List.cons_append, List.append_assoc] at h
      injection h with _ h
      have hx : okDs xs = true := by simpa [okD] using hd
      have hy : okDs ys = true := by simpa [okD] using he
      cases xs with
      | nil =>
        cases ys with
        | nil => exact ⟨rfl, List.append_cancel_left h⟩
        | cons y ys =>
          exfalso
          have hy' : okD y = true := by simp [okDs] at hy; exact hy.1
          obtain ⟨c, t, e1, _, n1, n2⟩ := first_sign y hy'
          have e2 : ∃ t', joinL (encDs (y :: ys)) = c :: t' := by
            cases ys with
            | nil => exact ⟨t, e1⟩
            | cons z zs => exact ⟨_, by simp only [encDs, joinL, e1]; rfl⟩
          obtain ⟨t', e2⟩ := e2
          rw [e2] at h
          injection h with h1 _
          exact n1 h1.symm
      | cons x xs =>
        cases ys with
        | nil =>
          exfalso
          have hx' : okD x = true := by simp [okDs] at hx; exact hx.1
          obtain ⟨c, t, e1, _, n1, n2⟩ := first_sign x hx'
          have e2 : ∃ t', joinL (encDs (x :: xs)) = c :: t' := by
            cases xs with
            | nil => exact ⟨t, e1⟩
            | cons z zs => exact ⟨_, by simp only [encDs, joinL, e1]; rfl⟩
          obtain ⟨t', e2⟩ := e2
          rw [e2] at h
          injection h with h1 _
          exact n1 h1
        | cons y ys =>
          obtain ⟨e1, e2⟩ := enc_injs (x :: xs) y ys _ _ r1 r2 hx hy h
          exact ⟨by rw [e1], e2⟩
    | _ => simp [kindD] at k
  | .list _, _, _, _, h, _, _, _, _ => by simp [okD] at h
  | .dict _, _, _, _, h, _, _, _, _ => by simp [okD] at h
theorem enc_injs : ∀ (l : List PyData) (y : PyData) (ys : List PyData) (n m : Nat) (r1 r2 : List Nat), okDs l = true → okDs (y :: ys) = true →
    joinL (encDs l) ++ (closeL n ++ r1) = joinL (encDs (y :: ys)) ++ (closeL m ++ r2) → l = y :: ys ∧ r1 = r2
  | [], y, ys, n, m, r1, r2, _, hy, h => by
    exfalso
    have hy' : okD y = true := by simp [okDs] at hy; exact hy.1
    obtain ⟨c, t, e1, _, n1, n2⟩ := first_sign y hy'
    have e2 : ∃ t', joinL (encDs (y :: ys)) = c :: t' := by
      cases ys with
      | nil => exact ⟨t, e1⟩
      | cons z zs => exact ⟨_, by simp only [encDs, joinL, e1]; rfl⟩
    obtain ⟨t', e2⟩ := e2
    rw [e2] at h
    simp only [encDs, joinL, List.nil_append] at h
    unfold closeL at h
    split at h <;> (injection h with h1 _; omega)
  | [x], y, ys, n, m, r1, r2, hx, hy, h => by
    have hx' : okD x = true := by simp [okDs] at hx; exact hx
    have hy' : okD y = true := by simp [okDs] at hy; exact hy.1
    cases ys with
    | nil =>
      simp only [encDs, joinL] at h
      obtain ⟨e1, e2⟩ := enc_inj x y _ _ hx' hy' (close_stop n r1) (close_stop m r2) h
      refine ⟨by rw [e1], ?_⟩
      unfold closeL at e2
      split at e2 <;> split at e2
      · simpa using e2
      · injection e2 with z _; cases z
      · injection e2 with z _; cases z
      · simpa using e2
    | cons z zs =>
      exfalso
      simp only [encDs, joinL, List.append_assoc, List.cons_append] at h
      obtain ⟨e1, e2⟩ := enc_inj x y _ _ hx' hy' (close_stop n r1) (.inr ⟨44, _, rfl, .inr rfl⟩) h
      unfold closeL at e2
      split at e2
      · injection e2 with _ z
        injection z with z _
        cases z
      · injection e2 with z _
        cases z
  | x :: x2 :: l, y, ys, n, m, r1, r2, hx, hy, h => by
    have hx' : okD x = true ∧ okDs (x2 :: l) = true := by
      have z : (okD x && okDs (x2 :: l)) = true := by rw [okDs] at hx; exact hx
      exact Bool.and_eq_true_iff.mp z
    have hy' : okD y = true := by simp [okDs] at hy; exact hy.1
    cases ys with
    | nil =>
      exfalso
      simp only [encDs, joinL, List.append_assoc, List.cons_append] at h
      obtain ⟨e1, e2⟩ := enc_inj x y _ _ hx'.1 hy' (.inr ⟨44, _, rfl, .inr rfl⟩) (close_stop m r2) h
      rcases (show closeL m = [44, 41] ∨ closeL m = [41] by unfold closeL; split <;> simp) with cm | cm
      · rw [cm] at e2
        injection e2 with _ z
        injection z with z _
        cases z
      · rw [cm] at e2
        injection e2 with z _
        cases z
    | cons z zs =>
      have hz : okDs (z :: zs) = true := by
        have q : (okD y && okDs (z :: zs)) = true := by rw [okDs] at hy; exact hy
        exact (Bool.and_eq_true_iff.mp q).2
      have h2 : encD x ++ (44 :: 32 :: (joinL (encDs (x2 :: l)) ++ (closeL n ++ r1))) = encD y ++ (44 :: 32 :: (joinL (encDs (z :: zs)) ++ (closeL m ++ r2))) := by
        simpa only [encDs, joinL, List.append_assoc, List.cons_append] using h
      obtain ⟨e1, e2⟩ := enc_inj x y _ _ hx'.1 hy' (.inr ⟨44, _, rfl, .inr rfl⟩) (.inr ⟨44, _, rfl, .inr rfl⟩) h2
      injection e2 with _ e2
      injection e2 with _ e2
      obtain ⟨e3, e4⟩ := enc_injs (x2 :: l) z zs n m r1 r2 hx'.2 hz e2
      exact ⟨by rw [e1, e3], e4⟩
end
theorem shown_inj {d e : PyData} (hd : okD d = true) (he : okD e = true) (h : PyData.shown d = PyData.shown e) : d = e := by
  have z : encD d ++ [] = encD e ++ [] := by
    rw [List.append_nil, List.append_nil, ← shown_codes d hd, ← shown_codes e he, h]
  exact (enc_inj d e [] [] hd he (.inl rfl) (.inl rfl) z).1
mutual
theorem okD_show : ∀ d : PyData, okD d = true → PyData.showable d = true
  | .none, _ => rfl
  | .bool _, _ => rfl
  | .int i, h => by simpa [okD, PyData.showable] using h
  | .str _, _ => rfl
  | .tuple xs, h => by
    rw [PyData.showable]
    exact okDs_show xs (by simpa [okD] using h)
  | .list _, h => by simp [okD] at h
  | .dict _, h => by simp [okD] at h
theorem okDs_show : ∀ xs : List PyData, okDs xs = true → PyData.showableAll xs = true
  | [], _ => rfl
  | x :: xs, h => by
    have h' : okD x = true ∧ okDs xs = true := by simpa [okDs] using h
    rw [PyData.showableAll, okD_show x h'.1, okDs_show xs h'.2]
    rfl
end
mutual
theorem okD_noDict : ∀ d : PyData, okD d = true → PyData.hasDict d = false
  | .none, _ => rfl
  | .bool _, _ => rfl
  | .int i, _ => rfl
  | .str _, _ => rfl
  | .tuple xs, h => by
    rw [PyData.hasDict]
    exact okDs_noDict xs (by simpa [okD] using h)
  | .list _, h => by simp [okD] at h
  | .dict _, h => by simp [okD] at h
theorem okDs_noDict : ∀ xs : List PyData, okDs xs = true → PyData.hasDictAll xs = false
  | [], _ => rfl
  | x :: xs, h => by
    have h' : okD x = true ∧ okDs xs = true := by simpa [okDs] using h
    rw [PyData.hasDictAll, okD_noDict x h'.1, okDs_noDict xs h'.2]
    rfl
end
end Vk
namespace Vk
open PySem PySem.Spec PyProof.Rows L2
/-! # Defs that write values as texts: they are called where no text of a value is being written (no guard) -/
/-- a def's promise, wherever no guard stands -/
structure Gk (P : Program) (w : World) (K : PySem.W.Frag) (mg : Str → Option Value) (base : Heap) (k : Nat) (f : Addr) (fd : FuncData) (ps : List Str) (sp : Sp) : Prop where
  len : ∀ vs H Q E, sp vs H Q E → vs.length = ps.length
  go : ∀ {A : Around} {out : List Env} {s : Shared} {H : Hp} {args : Args} {us : List Value} {vs : List V} {Q : VK} {E : XK},
    A.guards = some [] → Room k A → Env0 P w K mg base A out s H → BindsTo s fd args (ps.zip us) → Vals vs us → sp vs H Q E →
      codeAny (model P w) A (.call (.ref f) args) (CR CX0 out P w H s Q E) s
section
variable {P : Program} {w : World} {K : PySem.W.Frag} {mg : Str → Option Value} {base : Heap} {k : Nat} {f : Addr} {fd : FuncData} {ps : List Str} {sp : Sp}
theorem Gk.of (F : FnOk P w K mg base CX0 k f fd ps sp) : Gk P w K mg base k f fd ps sp :=
  ⟨F.len, fun {A out s H args us vs Q E} _ r e b v h => F.run A out s H args us vs Q E r e b v h⟩
theorem deeper_guards {A : Around} (env : Env) (h : A.guards = some []) : (A.deeper env).guards = some [] := h
/-- the rule for a def that is called where no guard stands: its body as a term, and the reading of it -/
theorem okG {x qual : Str} {st : Stmt} {N : List Str} (F : Fun K x qual st f fd) (S : FnScope N ps (defScope st))
    (len : ∀ vs H Q E, sp vs H Q E → vs.length = ps.length)
    (bodyOk : ∀ (cd : Value) (A : Around) (out : List Env) (s : Shared) (H : Hp) (vs : List V) (Q : VK) (E : XK),
      (A.deeper (envOfC qual (defScope st) s.heap.objs.size f cd)).guards = some [] →
      Room k (A.deeper (envOfC qual (defScope st) s.heap.objs.size f cd)) → sp vs H Q E →
      ∃ t, PSs (cxOf CX0 P w K mg base N qual (defScope st) f cd A out s H E).nox (defBody st) t ∧
        t { nx := fun _ H' => Q .non H', rt := Q } (start N vs) H) : Gk P w K mg base (k + 1) f fd ps sp := by
  obtain ⟨oc, od, kV, doc, pm, an, cd, ct, sl, rfl, look, code⟩ := F.ex
  refine ⟨len, fun {A out s H args us vs Q E} hg room en bind vals want => ?_⟩
  have n1 := len _ _ _ _ want
  have inK : K.In s.heap := en.mod.kin.keeps (fun b o e => (en.bs b o e).1)
  have noLim : s.heap.NoLimit := en.mod.nolimit.keeps (fun b o e => (en.bs b o e).1)
  have kinds : ∀ y ∈ ps.zip us, (defScope st).names.lookup y.1 = some .local ∨
      ((defScope st).names.lookup y.1 = some .cell ∧ ((cellsFrom (s.heap.objs.size + 1) (defScope st).names []).lookup y.1).isSome = true) := by
    rintro ⟨n, u⟩ hy
    cases S.par n (List.of_mem_zip hy).1 with
    | inl q => exact Or.inl q
    | inr q => exact Or.inr ⟨q, PySem.W.cellsFrom_some _ _ _ (Or.inl q)⟩
  refine codeAny_call_function room.depth (inK _ _ look) rfl S.co S.gen rfl (PySem.W.codeRec_of inK code) (bind _ _ _ _ ?_)
  refine wpAny_newFunctionEnv_cells S.kind kinds (fun env he st1 inCall => ?_)
  cases he
  refine ⟨noLim.keeps inCall.toInCall.keep, codeAny_func ?_⟩
  obtain ⟨t, ht, hq⟩ := bodyOk cd A out s H vs Q E hg (room.deeper _) want
  have inv : Inv (cxOf CX0 P w K mg base N qual (defScope st) f cd A out s H E) [] (start N vs) H st1 := inv_start S room.hd en n1 vals inCall
  refine wpAny_mono (ht.nox.run [] st1 _ H _ inv hq) (fun fl s2 h2 => ?_) (fun e s2 h2 => h2)
  have fin : ∀ {σ : L2.St} {H2 : Hp} {v : V} {u : Value}, Inv (cxOf CX0 P w K mg base N qual (defScope st) f cd A out s H E) [] σ H2 s2 → RelV v u → Q v H2 → CE out P w H s Q u s2 :=
    fun {σ H2 v u} J r q => ⟨v, H2, J.os, J.bare, J.base, J.hok, r, q⟩
  match fl, h2 with
  | .ret u, ⟨v, σ, H2, J, r, q⟩ => exact fin J r q
  | .next, ⟨σ, H2, J, q⟩ => exact fin (v := V.non) (u := Value.none) J rfl q
  | .brk, ⟨_, _, _, q⟩ => exact q.elim
  | .cont, ⟨_, _, _, q⟩ => exact q.elim
end
section
variable {X : Cx} {k : Nat} {f C : Addr} {fd : FuncData} {ps : List Str} {sp : Sp} {x m : Str} {p pos apos : Pos} {e o : Expr} {es : List Expr} {ta : TE} {t : TA}
theorem runG {pins : List (Addr × Obj)} {σ : L2.St} {H : Hp} {s : Shared} {Q : VK} {us : List Value} {vs : List V} (hg : X.A.guards = some []) (F : Gk X.prog X.w X.K X.mg X.base k f fd ps sp) (room : Room k X.A) (B : Binds X.K fd ps [])
    (I : Inv X pins σ H s) (vals : Vals vs us) (want : sp vs H Q E0) : wpAny (model X.prog X.w) X.A (call (.ref f) us) (EP X pins σ Q) X.xe s := by
  have n1 : us.length = ps.length := by
    rw [← vals.length]
    exact F.len _ _ _ _ want
  have bind := B s us I.kIn (by rw [List.append_nil]; exact n1)
  rw [List.append_nil] at bind
  refine wpAny_call (codeAny_mono (F.go (args := ⟨us, []⟩) hg room I.env0 bind vals want) (fun r s2 h2 => ?_))
  match r, h2 with
  | .error _, h => exact h.elim
  | .ok (.ret u), h => exact I.after h
  | .ok .next, h => exact h.elim
  | .ok .brk, h => exact h.elim
  | .ok .cont, h => exact h.elim
/-- f(e, ..) -/
theorem pe_callG (hg : X.A.guards = some []) (F : Gk X.prog X.w X.K X.mg X.base k f fd ps sp) (room : Room k X.A) (gl : Gl X x) (hm : X.mg x = some (.ref f)) (kp : PySem.W.keepIn X.K (.ref f) = true) (B : Binds X.K fd ps [])
    (ha : PA X (e :: es) t) (dbg : (x == ("__debug__" : Str)) = false := by decide)
    (st : starEach (e :: es) X.env = (false, eval e X.env) :: starEach es X.env := by rfl)
    (pl : (backTo pos (starEach es X.env)).any (·.1) = false := by rfl) :
    PE X (.Call (.Name x p) (e :: es) [] pos) (tCall sp [] E0 t) := by
  constructor
  intro pins s σ H Q I h
  refine wpAny_Call_Name_kw (ld_glob I gl hm ?_ dbg)
  refine PySem.W.callWith_K (h₀ := X.base) I.ok.mod.kin kp (thn (ha.run pos pins s σ H _ I h) ?_) st pl
  rintro us s1 ⟨vs, H1, I1, r, q⟩
  rw [List.append_nil] at q
  exact ⟨I1.kIn, runG hg F room B I1 r q⟩
/-- o.m(e, ..) -/
theorem pe_methG {pl : Sem Bool} (hg : X.A.guards = some []) (he : PE X o ta) (c : Cls X.K C) (hm : Meth X.K C m f) (F : Gk X.prog X.w X.K X.mg X.base k f fd ps sp) (room : Room k X.A) (B : Binds X.K fd ps [])
    (ha : PA X (e :: es) t)
    (st : starEach (e :: es) X.env = (false, eval e X.env) :: starEach es X.env := by rfl)
    (pb : (backTo pos (starEach es X.env)).any (·.1) = false := by rfl)
    (ht : eval (.Call (.Attribute o m apos) (e :: es) [] pos) X.env = (do
        let ov ← eval o X.env
        standAt apos.atName
        let fm ← holding [ov] (getMethod ov m pl)
        callWith pos fm.1 fm.2 (backTo pos (starEach (e :: es) X.env)) (backToKw pos (keywordEach [] X.env))) := by rfl) :
    PE X (.Call (.Attribute o m apos) (e :: es) [] pos) (tMeth C m sp [] E0 ta t) := by
  constructor
  intro pins s σ H Q I h
  refine PySem.W.methodCall_KW (pl := pl) (thn (he.run pins s σ H _ I h) ?_) ht
  rintro u s1 ⟨v, H1, I1, rv, a, dx, fs, ev, ea, lo, q⟩
  cases ev
  cases (show u = Value.ref a from rv)
  refine getmeth_ok I1 ea c hm lo ?_
  refine PySem.W.callWith_K (first := [.ref a]) (h₀ := X.base) I.ok.mod.kin hm.kp (thn (ha.run pos pins s1 σ H1 _ I1 q) ?_) st pb
  rintro us s2 ⟨vs, H2, I2, r, q2⟩
  rw [List.append_nil] at q2
  exact ⟨I2.kIn, runG (us := .ref a :: us) (vs := .ref a :: vs) hg F room B I2 (.cons rfl r) q2⟩
/-- repr of a plain value -/
def rRepr (K : PySem.W.Frag) : List V → Hp → VK → Prop := fun xs H Q => ∃ x d, xs = [x] ∧ Dp K H x d ∧ okD d = true ∧ d.depth ≤ 60 ∧ d.shown.length ≤ sizeLine ∧ Q (.str d.shown) H
theorem call_reprD (hg : X.A.guards = some []) (room : Room k X.A) : CallR X (.builtin "repr") (rRepr X.K) := by
  intro pins s σ H xs us Q I r h
  obtain ⟨x, d, rfl, hd, ok, dep, len, q⟩ := h
  obtain ⟨u, rfl, rx⟩ := vals1 r
  have hu := room.units
  cases d with
  | none =>
    cases hd
    cases rx
    exact PySem.P.repr_of_none ⟨.str _, H, I.tok _, ⟨_, rfl⟩, q⟩
  | bool b =>
    cases hd
    cases rx
    exact PySem.P.repr_of_bool ⟨.str _, H, I.tok _, ⟨_, rfl⟩, q⟩
  | int i =>
    cases hd
    obtain ⟨t, rfl⟩ := rx
    exact PySem.P.repr_of_int (by simpa [okD] using ok) ⟨.str _, H, I.tok _, ⟨_, rfl⟩, q⟩
  | str y =>
    cases hd
    obtain ⟨t, rfl⟩ := rx
    exact PySem.P.repr_of_str ⟨.str _, H, I.tok _, ⟨_, rfl⟩, q⟩ (by simpa [PyData.shown] using len)
  | tuple xs =>
    obtain ⟨as, rd⟩ := Dp.reads I _ _ _ hd rx
    cases hd
    cases rx
    refine PySem.repr_of_reads' rd (okD_show _ ok) (fun z => ?_) hg (by omega) (fun _ _ e => e) (fun h' u tk kp => ?_) len
    · rw [okD_noDict _ ok] at z
      cases z
    · exact ⟨.str _, H, I.kept (t' := tk) kp, ⟨u, rfl⟩, q⟩
  | list _ => simp [okD] at ok
  | dict _ => simp [okD] at ok
end
/-! ## the law's own call -/
theorem callG {P : Program} {w : World} {K : PySem.W.Frag} {mg mb : Str → Option Value} {k : Nat} {fa a : Addr} {fd : FuncData} {x : Str} {sp : Sp} {st : Shared} {us : List Value} {ns : List Int}
    (inK : K.In st.heap) (nsM : st.heap.Ns mainGlobals mg) (nsB : st.heap.Ns builtinsNs mb) (boot : ∀ x : Str, x ≠ "__name__" → mb x = bootBuiltins x) (noLim : st.heap.NoLimit) (noGen : st.gens = #[])
    (atA : st.heap.get? a = some { cls := .type "list", data := .seq us.toArray }) (intsA : IntsAre us ns) (len : ns.length ≤ sizeLine) (room : Room k callerA)
    (F : ∀ base : Heap, K.In base → base.Ns mainGlobals mg → Gk P w K mg base k fa fd [x] sp) (bind : ∀ (s : Shared) (u : Value), BindsTo s fd ⟨[u], []⟩ [(x, u)])
    (want : ∀ H : Hp, Only H → SqL K H a (ns.map V.int) → sp [.ref a] H (fun v _ => v = .bl true) fun _ _ _ => False) :
    codeAny (model P w) callerA (.call (.ref fa) ⟨[.ref a], []⟩) (fun r s' => r = .ok (.ret (.bool true)) ∧ OldK st.heap s'.heap ∧ s'.os = st.os ∧ AllBare s'.gens) st := by
  have valsA : Vals (ns.map V.int) us := vals_ints intsA
  have sizes := intsA.length
  have main : ∀ H : Hp, Only H → SqL K H a (ns.map V.int) → HOk P w H st.heap → (∀ b, H b ≠ none → b = a) → (H a ≠ none → K.lookup a = none) →
      codeAny (model P w) callerA (.call (.ref fa) ⟨[.ref a], []⟩) (fun r s' => r = .ok (.ret (.bool true)) ∧ OldK st.heap s'.heap ∧ s'.os = st.os ∧ AllBare s'.gens) st := by
    intro H only sq ok atMost apart
    have dictFree : ∀ {b : Addr} {o : Obj} {es : Array DictEntry} {ep : Nat}, st.heap.get? b = some o → o.data = .dict es ep → H b = none := by
      intro b o es ep e d
      cases hb : H b with
      | none => rfl
      | some u =>
        cases atMost b (by rw [hb]; exact fun z => nomatch z)
        rw [atA] at e
        cases e
        exact nomatch (show Data.seq us.toArray _ = Data.dict es ep from d)
    have nsH : ∀ {b : Addr} {m : Str → Option Value}, st.heap.Ns b m → (hidT st.heap H).Ns b m := by
      rintro b m ⟨o, es, ep, e, d, rest⟩
      exact ⟨o, es, ep, hidT_get e (dictFree e d), d, rest⟩
    have inH : K.In (hidT st.heap H) := by
      intro b o e
      refine hidT_get (inK b o e) ?_
      cases hb : H b with
      | none => rfl
      | some u =>
        have eb := atMost b (by rw [hb]; exact fun z => nomatch z)
        rw [eb] at e hb
        rw [apart (by rw [hb]; exact fun z => nomatch z)] at e
        cases e
    have modH : Mod K mg (hidT st.heap H) := by
      obtain ⟨mc, z1, z2⟩ := id noLim
      exact ⟨inH, nsH nsM, ⟨mb, nsH nsB, boot⟩, ⟨mc, nsH z1, z2⟩⟩
    have en : Env0 P w K mg (hidT st.heap H) callerA [] st H :=
      { frames := rfl, mod := modH, bs := fun b o e => of_hidT e, bsz := Nat.le_of_eq (hidT_size _ _), funs := trivial, frf := (fun b hb => nomatch hb), hok := ok, bare := .of_eq noGen }
    have run := (F _ inH (nsH nsM)).go (out := []) (args := ⟨[.ref a], []⟩) (us := [.ref a]) (vs := [.ref a]) rfl room en (bind st (.ref a)) (.cons rfl .nil) (want H only sq)
    refine codeAny_mono run (fun r s2 h2 => ?_)
    match r, h2 with
    | .error _, h => exact h.elim
    | .ok .next, h => exact h.elim
    | .ok .brk, h => exact h.elim
    | .ok .cont, h => exact h.elim
    | .ok (.ret u), ⟨v, H2, osE, bareE, un, ok2, rv, q⟩ =>
      cases (show v = .bl true from q)
      cases (show u = Value.bool true from rv)
      refine ⟨rfl, OldK.of_keep (fun b o e => ?_), osE, bareE⟩
      cases hb : H b with
      | none => exact un.keep b o e hb (fun z => nomatch z) (fun z => nomatch z)
      | some u =>
        rcases only b with z | ⟨ob, xs, z⟩
        · rw [hb] at z
          cases z
        · have y1 := (ok b _ z).1
          have y2 := (ok2 b _ (un.frzs b ob _ z)).1
          rw [e] at y1
          cases y1
          exact y2
  cases known : K.lookup a with
  | some o =>
    have e := inK a o known
    rw [atA] at e
    cases e
    refine main (fun _ => none) (fun _ => Or.inl rfl) (Or.inr ⟨_, us.toArray, _, known, rfl, rfl, rfl, ?_, by simpa using valsA⟩) (fun b u z => nomatch z) (fun b z => absurd rfl z) (fun z => absurd rfl z)
    rw [List.size_toArray, sizes]
    exact len
  | none =>
    have at1 : ∀ {b : Addr} {o : HO}, (if b = a then some (HO.frz { cls := .type "list", data := .seq us.toArray } (.lst (ns.map V.int))) else none) = some o → b = a ∧ o = HO.frz { cls := .type "list", data := .seq us.toArray } (.lst (ns.map V.int)) := by
      intro b o z
      by_cases hb : b = a
      · rw [if_pos hb] at z
        exact ⟨hb, (Option.some.inj z).symm⟩
      · rw [if_neg hb] at z
        cases z
    refine main (fun b => if b = a then some (.frz { cls := .type "list", data := .seq us.toArray } (.lst (ns.map V.int))) else none) (fun b => ?_) (Or.inl (Or.inr ⟨_, if_pos rfl⟩)) (fun b u z => ?_) (fun b z => ?_) (fun _ => known)
    · by_cases hb : b = a
      · exact Or.inr ⟨_, _, if_pos hb⟩
      · exact Or.inl (if_neg hb)
    · obtain ⟨e1, e2⟩ := at1 z
      subst e1 e2
      exact ⟨atA, by rw [List.length_map]; exact len, us, _, valsA, atA⟩
    · by_cases hb : b = a
      · exact hb
      · exact absurd (if_neg hb) z
theorem walkG {l : PySem.W.OpenLaw} {n k : Nat} {q : Program} {loose : List Str} {XP : (Str → Option Value) → Heap → Prop} {YP : World → Heap → Prop} {d : DefRec} {K : Params → PySem.W.Frag} {sp : World → Sp} {x : Str}
    (most : l.most = some n) (small : n ≤ sizeLine) (plain : d.params.defaults = []) (room : Room k callerA)
    (atK : ∀ (w : World) (h : Heap), YP w h → (K w.params).In h)
    (F : ∀ (w : World) (mg : Str → Option Value) (fa : Addr) (h : Heap), (K w.params).In h → h.Ns mainGlobals mg → mg d.name = some (.ref fa) →
      ∃ fd : FuncData, (∀ (s : Shared) (u : Value), BindsTo s fd ⟨[u], []⟩ [(x, u)]) ∧
        ∀ base : Heap, (K w.params).In base → base.Ns mainGlobals mg → Gk l.prog w (K w.params) mg base k fa fd [x] (sp w))
    (want : ∀ (w : World) (H : Hp) (a : Addr) (ns : List Int), ns.length ≤ n → Only H → SqL (K w.params) H a (ns.map V.int) → sp w [.ref a] H (fun v _ => v = .bl true) fun _ _ _ => False) :
    PySem.W.WalkO q loose XP YP l.row.toRowW d [] (fun f vs => PySem.call f vs) := by
  refine Att.attach_call most plain (fun w s0 st mg mb fa o pm cd doc a us ns G Y hO hD cdo atMg atObj intsA len noGen => ?_)
  have inK := atK w _ Y
  obtain ⟨fd, bind, hF⟩ := F w mg fa _ inK G.T.g atMg
  exact callG inK G.T.g G.T.b G.T.builtins G.T.nolimit noGen atObj intsA (Nat.le_trans len small) room hF bind (fun H hO2 hS => want w H a ns len hO2 hS)
end Vk
namespace Vk
open PySem PySem.Spec PyProof.Rows L2
/-! # Plain data on the heap -/
def KeepT (H H' : Hp) : Prop := ∀ a o, (∃ xs, o = .tup xs ∨ ∃ ob, o = .frz ob (.tup xs)) → H a = some o → H' a = some o
theorem keepT_of {H H' : Hp} (s : Same H H') : KeepT H H' := fun a o _ h => s a o h
theorem KeepT.seq {K : PySem.W.Frag} {H H' : Hp} {a : Addr} {xs : List V} (k : KeepT H H') (h : SqT K H a xs) : SqT K H' a xs := by
  rcases h with (h | ⟨o, h⟩) | h
  · exact .inl (.inl (k _ _ ⟨xs, .inl rfl⟩ h))
  · exact .inl (.inr ⟨o, k _ _ ⟨xs, .inr ⟨o, rfl⟩⟩ h⟩)
  · exact .inr h
theorem KeepT.refl (H : Hp) : KeepT H H := fun _ _ _ h => h
theorem KeepT.trans {H H1 H2 : Hp} (a : KeepT H H1) (b : KeepT H1 H2) : KeepT H H2 := fun c o t h => b c o t (a c o t h)
theorem KeepT.new {H : Hp} {p : Addr} {o : HO} (h : H p = none) : KeepT H (upd H p o) := fun a u _ e => by
  rw [upd_ne (ne_of_none e h)]
  exact e
/-- an object that is no tuple is changed -/
theorem KeepT.put {H : Hp} {p : Addr} {u o : HO} (h : H p = some u) (nt : ∀ xs, u ≠ .tup xs) (nf : ∀ ob xs, u ≠ .frz ob (.tup xs)) : KeepT H (upd H p o) := fun a v t e => by
  have ne : a ≠ p := by
    intro z
    subst z
    rw [h] at e
    cases e
    obtain ⟨ys, t | ⟨ob, t⟩⟩ := t
    · exact nt _ t
    · exact nf _ _ t
  rw [upd_ne ne]
  exact e
theorem KeepT.lst {H : Hp} {p : Addr} {xs : List V} {o : HO} (h : H p = some (.lst xs)) : KeepT H (upd H p o) := KeepT.put h (fun _ z => nomatch z) (fun _ _ z => nomatch z)
theorem KeepT.dK {H : Hp} {p : Addr} {kvs : List (Key × V)} {o : HO} (h : H p = some (.dK kvs)) : KeepT H (upd H p o) := KeepT.put h (fun _ z => nomatch z) (fun _ _ z => nomatch z)
mutual
theorem dp_keep {K : PySem.W.Frag} {H H' : Hp} (k : KeepT H H') : ∀ (d : PyData) (v : V), okD d = true → Dp K H v d → Dp K H' v d
  | .none, _, _, h => by cases h; exact .non
  | .bool b, _, _, h => by cases h; exact .bl b
  | .int i, _, _, h => by cases h; exact .int i
  | .str x, _, _, h => by cases h; exact .str x
  | .list ds, _, n, _ => by simp [okD] at n
  | .dict ds, _, n, _ => by simp [okD] at n
  | .tuple ds, _, n, h => by
    cases h with
    | tup hs ha => exact .tup (k.seq hs) (dp_keepAll k ds _ (by simpa [okD] using n) ha)
theorem dp_keepAll {K : PySem.W.Frag} {H H' : Hp} (k : KeepT H H') : ∀ (ds : List PyData) (vs : List V), okDs ds = true → DpAll K H vs ds → DpAll K H' vs ds
  | [], _, _, h => by cases h; exact .nil
  | d :: ds, _, n, h => by
    have n' : okD d = true ∧ okDs ds = true := by simpa [okDs] using n
    cases h with
    | cons h1 h2 => exact .cons (dp_keep k d _ n'.1 h1) (dp_keepAll k ds _ n'.2 h2)
end
theorem dp_app {K : PySem.W.Frag} {H : Hp} : ∀ {xs ys : List V} {ds es : List PyData}, DpAll K H xs ds → DpAll K H ys es → DpAll K H (xs ++ ys) (ds ++ es)
  | _, _, _, _, .nil, h => h
  | _, _, _, _, .cons a b, h => .cons a (dp_app b h)
theorem dp_len {K : PySem.W.Frag} {H : Hp} : ∀ {xs : List V} {ds : List PyData}, DpAll K H xs ds → xs.length = ds.length
  | _, _, .nil => rfl
  | _, _, .cons _ b => congrArg Nat.succ (dp_len b)
theorem dp_at {K : PySem.W.Frag} {H : Hp} : ∀ {xs : List V} {ds : List PyData} {i : Nat} {d : PyData}, DpAll K H xs ds → ds[i]? = some d → ∃ v, xs[i]? = some v ∧ Dp K H v d
  | _, _, _, _, .nil, h => by simp at h
  | _, _, 0, _, .cons a _, h => by simp at h; subst h; exact ⟨_, rfl, a⟩
  | _, _, i + 1, _, .cons _ b, h => by
    obtain ⟨v, e, q⟩ := dp_at (i := i) b (by simpa using h)
    exact ⟨v, by simpa using e, q⟩
theorem dp_at' {K : PySem.W.Frag} {H : Hp} : ∀ {xs : List V} {ds : List PyData} {i : Nat} {v : V}, DpAll K H xs ds → xs[i]? = some v → ∃ d, ds[i]? = some d ∧ Dp K H v d
  | _, _, _, _, .nil, h => by simp at h
  | _, _, 0, _, .cons a _, h => by simp at h; subst h; exact ⟨_, rfl, a⟩
  | _, _, i + 1, _, .cons _ b, h => by
    obtain ⟨d, e, q⟩ := dp_at' (i := i) b (by simpa using h)
    exact ⟨d, by simpa using e, q⟩
theorem okDs_at : ∀ {ds : List PyData} {i : Nat} {d : PyData}, okDs ds = true → ds[i]? = some d → okD d = true
  | [], _, _, _, h => by simp at h
  | x :: xs, 0, d, o, h => by
    have o' : okD x = true ∧ okDs xs = true := by simpa [okDs] using o
    simp at h; subst h; exact o'.1
  | x :: xs, i + 1, d, o, h => by
    have o' : okD x = true ∧ okDs xs = true := by simpa [okDs] using o
    exact okDs_at (i := i) o'.2 (by simpa using h)
theorem okDs_app : ∀ {ds es : List PyData}, okDs ds = true → okDs es = true → okDs (ds ++ es) = true
  | [], _, _, h => h
  | x :: xs, es, o, h => by
    have o' : okD x = true ∧ okDs xs = true := by simpa [okDs] using o
    simp only [List.cons_append, okDs, o'.1, okDs_app o'.2 h, Bool.and_self]
theorem okDs_all : ∀ {ds : List PyData}, (∀ d ∈ ds, okD d = true) → okDs ds = true
  | [], _ => rfl
  | x :: xs, h => by
    simp only [okDs, h x List.mem_cons_self, okDs_all (ds := xs) fun d hd => h d (List.mem_cons_of_mem _ hd), Bool.and_self]
theorem depth_at : ∀ {ds : List PyData} {i : Nat} {d : PyData}, ds[i]? = some d → d.depth ≤ PyData.depthAll ds
  | [], _, _, h => by simp at h
  | x :: xs, 0, d, h => by
    simp at h; subst h
    simp only [PyData.depthAll]
    omega
  | x :: xs, i + 1, d, h => by
    have z := depth_at (ds := xs) (i := i) (d := d) (by simpa using h)
    simp only [PyData.depthAll]
    omega
/-! ## kinds -/
def tyD : PyData → String
  | .none => "NoneType"
  | .bool _ => "bool"
  | .int _ => "int"
  | .str _ => "str"
  | .tuple _ => "tuple"
  | .list _ => "list"
  | .dict _ => "dict"
theorem sqT_ty {K : PySem.W.Frag} {H : Hp} {a : Addr} {xs : List V} (h : SqT K H a xs) : TyX K H (.ref a) (.type "tuple") := by
  rcases h with (h | ⟨o, h⟩) | ⟨o, its, n, h1, h2, _⟩
  · exact .base (.tup h)
  · exact .fTuple h
  · exact .kTuple h1 h2
theorem dp_ty {K : PySem.W.Frag} {H : Hp} {v : V} {d : PyData} (h : Dp K H v d) (ok : okD d = true) : TyX K H v (.type (tyD d)) := by
  cases h with
  | non => exact .base .non
  | bl b => exact .base (.bl b)
  | int i => exact .base (.int i)
  | str x => exact .base (.str x)
  | lst _ _ => simp [okD] at ok
  | tup hs _ => exact sqT_ty hs
def isTupD : PyData → Bool
  | .tuple _ => true
  | _ => false
def isBoolD : PyData → Bool
  | .bool _ => true
  | _ => false
theorem kit_tup {K : PySem.W.Frag} {d : PyData} (ok : okD d = true) : PySem.W.kitOne K (.type (tyD d)) (.type "tuple") = some (isTupD d) := by
  cases d with
  | none => exact kit_ty (a := "NoneType") (r := false) (by decide +kernel)
  | bool b => exact kit_ty (a := "bool") (r := false) (by decide +kernel)
  | int i => exact kit_ty (a := "int") (r := false) (by decide +kernel)
  | str x => exact kit_ty (a := "str") (r := false) (by decide +kernel)
  | tuple xs => exact kit_ty (a := "tuple") (r := true) (by decide +kernel)
  | list _ => simp [okD] at ok
  | dict _ => simp [okD] at ok
theorem kit_bool {K : PySem.W.Frag} {d : PyData} (ok : okD d = true) : PySem.W.kitOne K (.type (tyD d)) (.type "bool") = some (isBoolD d) := by
  cases d with
  | none => exact kit_ty (a := "NoneType") (r := false) (by decide +kernel)
  | bool b => exact kit_ty (a := "bool") (r := true) (by decide +kernel)
  | int i => exact kit_ty (a := "int") (r := false) (by decide +kernel)
  | str x => exact kit_ty (a := "str") (r := false) (by decide +kernel)
  | tuple xs => exact kit_ty (a := "tuple") (r := false) (by decide +kernel)
  | list _ => simp [okD] at ok
  | dict _ => simp [okD] at ok
/-! ## two values are one -/
mutual
def eqD : PyData → PyData → Bool
  | .none, .none => true
  | .bool a, .bool b => decide (a = b)
  | .int a, .int b => decide (a = b)
  | .str a, .str b => decide (a = b)
  | .tuple xs, .tuple ys => eqDs xs ys
  | _, _ => false
def eqDs : List PyData → List PyData → Bool
  | [], [] => true
  | x :: xs, y :: ys => eqD x y && eqDs xs ys
  | _, _ => false
end
mutual
theorem eqD_iff : ∀ d e : PyData, okD d = true → (eqD d e = true ↔ d = e)
  | .none, e, _ => by cases e <;> simp [eqD]
  | .bool a, e, _ => by cases e <;> simp [eqD]
  | .int a, e, _ => by cases e <;> simp [eqD]
  | .str a, e, _ => by cases e <;> simp [eqD]
  | .tuple xs, e, h => by
    have h' : okDs xs = true := by simpa [okD] using h
    cases e with
    | tuple ys => simp only [eqD, PyData.tuple.injEq]; exact eqDs_iff xs ys h'
    | _ => simp [eqD]
  | .list _, _, h => by simp [okD] at h
  | .dict _, _, h => by simp [okD] at h
theorem eqDs_iff : ∀ xs ys : List PyData, okDs xs = true → (eqDs xs ys = true ↔ xs = ys)
  | [], [], _ => by simp [eqDs]
  | [], _ :: _, _ => by simp [eqDs]
  | _ :: _, [], _ => by simp [eqDs]
  | x :: xs, y :: ys, h => by
    have h' : okD x = true ∧ okDs xs = true := by simpa [okDs] using h
    simp only [eqDs, Bool.and_eq_true, List.cons.injEq, eqD_iff x y h'.1, eqDs_iff xs ys h'.2]
end
theorem eqDs_at : ∀ (xs ys : List PyData), xs.length = ys.length → (eqDs xs ys = true ↔ ∀ (i : Nat) (x y : PyData), xs[i]? = some x → ys[i]? = some y → eqD x y = true)
  | [], [], _ => by simp [eqDs]
  | [], _ :: _, h => by cases h
  | _ :: _, [], h => by cases h
  | x :: xs, y :: ys, h => by
    have ih := eqDs_at xs ys (Nat.succ.inj h)
    simp only [eqDs, Bool.and_eq_true, ih]
    constructor
    · rintro ⟨h1, h2⟩ i a b ha hb
      cases i with
      | zero => simp at ha hb; subst ha hb; exact h1
      | succ i => exact h2 i a b (by simpa using ha) (by simpa using hb)
    · intro h3
      exact ⟨h3 0 x y rfl rfl, fun i a b ha hb => h3 (i + 1) a b (by simpa using ha) (by simpa using hb)⟩
theorem eqDs_len : ∀ (xs ys : List PyData), xs.length ≠ ys.length → eqDs xs ys = false
  | [], [], h => absurd rfl h
  | [], _ :: _, _ => by simp [eqDs]
  | _ :: _, [], _ => by simp [eqDs]
  | x :: xs, y :: ys, h => by
    have ih := eqDs_len xs ys (fun z => h (congrArg Nat.succ z))
    simp [eqDs, ih]
/-! ## lengths of texts -/
theorem enc_one (d : PyData) : (encD (.tuple [d])).length = (encD d).length + 3 := by
  simp only [encD, encDs, joinL, closeL]
  simp
theorem enc_two (d e : PyData) : (encD (.tuple [d, e])).length = (encD d).length + (encD e).length + 4 := by
  simp only [encD, encDs, joinL, closeL]
  simp
  omega
theorem shown_length {d : PyData} (h : okD d = true) : (PyData.shown d).length = (encD d).length := by
  rw [← shown_codes d h]
  show (PyData.shown d).cps.size = _
  simp
theorem intL_len {i : Int} {k : Nat} (hk : 1 ≤ k) (h : i.natAbs < 10 ^ k) : (intL i).length ≤ k + 1 := by
  cases i with
  | ofNat m =>
    unfold intL
    rw [text_ofNat]
    have z := digits10_le hk (n := m) h
    simp
    omega
  | negSucc m =>
    have e : intL (Int.negSucc m) = 45 :: (Nat.toDigits 10 (m + 1)).map Char.toNat := by
      unfold intL
      rw [ofString_codes]
      show ("-" ++ Nat.repr (m + 1)).toList.map Char.toNat = _
      rw [String.toList_append, List.map_append]
      show [45] ++ (Nat.repr (m + 1)).toList.map Char.toNat = _
      have e2 : (Nat.repr (m + 1)).toList = Nat.toDigits 10 (m + 1) := by
        unfold Nat.repr
        exact String.toList_ofList
      rw [e2]
      rfl
    rw [e]
    have z := digits10_le hk (n := m + 1) h
    simp
    omega
theorem int_ok {i : Int} {k : Nat} (h : i.natAbs < 2 ^ k) (hk : k ≤ 1920) (h0 : 0 < k) : okD (.int i) = true := by
  simp only [okD]
  refine decide_eq_true ?_
  by_cases z : i.natAbs = 0
  · rw [z]
    decide
  · exact Nat.lt_of_lt_of_le ((Nat.log2_lt z).mpr h) hk
theorem atI_some {α : Type} {xs : List α} {i : Int} (h0 : 0 ≤ i) (h1 : i < xs.length) : ∃ v, atI xs i = some v ∧ v ∈ xs := by
  have e : i = ((i.toNat : Nat) : Int) := by omega
  have hl : i.toNat < xs.length := by omega
  have z : atI xs ((i.toNat : Nat) : Int) = some xs[i.toNat] := atI_nat (List.getElem?_eq_getElem hl)
  rw [← e] at z
  exact ⟨_, z, List.getElem_mem hl⟩
theorem take_next {α : Type} {l : List α} {i : Nat} {x : α} (h : l[i]? = some x) : l.take (i + 1) = l.take i ++ [x] := by
  rw [List.take_add_one, h]
  rfl
theorem same_new {H : Hp} {p : Addr} {o : HO} (h : H p = none) : Same H (upd H p o) := fun b u e => by
  rw [upd_ne (ne_of_none e h)]
  exact e
theorem ifT {c : Bool} {A B : Prop} (h : c = true) (x : A) : if c = true then A else B := by
  rw [if_pos h]
  exact x
theorem ifF {c : Bool} {A B : Prop} (h : c = false) (x : B) : if c = true then A else B := by
  rw [h, if_neg Bool.false_ne_true]
  exact x
theorem bo_len : bootBuiltins "len" = some (.builtin "len") := by decide +kernel
theorem bo_int : bootBuiltins "int" = some (.type "int") := by decide +kernel
theorem bo_tuple : bootBuiltins "tuple" = some (.type "tuple") := by decide +kernel
theorem bo_list : bootBuiltins "list" = some (.type "list") := by decide +kernel
theorem bo_str : bootBuiltins "str" = some (.type "str") := by decide +kernel
theorem bo_type : bootBuiltins "type" = some (.type "type") := by decide +kernel
theorem bo_isinstance : bootBuiltins "isinstance" = some (.builtin "isinstance") := by decide +kernel
theorem bo_repr : bootBuiltins "repr" = some (.builtin "repr") := by decide +kernel
theorem bo_max : bootBuiltins "max" = some (.builtin "max") := by decide +kernel
theorem bo_min : bootBuiltins "min" = some (.builtin "min") := by decide +kernel
/-- a def that is called: what it promises, where it stands -/
structure Cal (P : Program) (w : World) (K : PySem.W.Frag) (mg : Str → Option Value) (base : Heap) (x : Str) (k : Nat) (f : Addr) (fd : FuncData) (ps : List Str) (sp : Sp) : Prop where
  G : FnOk P w K mg base CX0 k f fd ps sp
  mg : mg x = some (.ref f)
  kp : PySem.W.keepIn K (.ref f) = true
  B : Binds K fd ps []
structure CalG (P : Program) (w : World) (K : PySem.W.Frag) (mg : Str → Option Value) (base : Heap) (x : Str) (k : Nat) (f : Addr) (fd : FuncData) (ps : List Str) (sp : Sp) : Prop where
  G : Gk P w K mg base k f fd ps sp
  mg : mg x = some (.ref f)
  kp : PySem.W.keepIn K (.ref f) = true
  B : Binds K fd ps []
/-- a method that is called -/
structure CalM (P : Program) (w : World) (K : PySem.W.Frag) (mg : Str → Option Value) (base : Heap) (C : Addr) (x : Str) (k : Nat) (f : Addr) (fd : FuncData) (ps : List Str) (sp : Sp) : Prop where
  G : Gk P w K mg base k f fd ps sp
  cl : Cls K C
  mt : Meth K C x f
  B : Binds K fd ps []
end Vk
namespace Vz
open PySem PySem.W
/-! # list(zip(t, u)) of two tuples of one length -/
section
variable {prog : Program} {w : World} {A : Around} {E : Value → Shared → Prop} {s : Shared}
/-- the next pair, while the one that was given out is kept -/
theorem heldNext {z TI TO T i1 i2 l1 l2 : Addr} {f : Bool} {oT : Obj} {k : Nat} {xs ys : Array Value} {x y : Value} {Q : Value → Shared → Prop} (D : ZipApart z TI TO i1 i2 l1 l2)
    (hz : IsZipHeld s.heap z TI TO T f) (hT : s.heap.get? T = some oT) (hTI : IsPair s.heap TI (.ref i1) (.ref i2))
    (a1 : s.heap.IsTupleIter i1 l1 k) (a2 : s.heap.IsTupleIter i2 l2 k) (b1 : s.heap.IsTuple l1 xs) (b2 : s.heap.IsTuple l2 ys) (ex : xs[k]? = some x) (ey : ys[k]? = some y)
    (fin : ∀ h', IsZipHeld h' z TI TO T true → h'.IsTupleIter i1 l1 (k + 1) → h'.IsTupleIter i2 l2 (k + 1) → IsPair h' s.heap.objs.size x y → h'.objs.size = s.heap.objs.size + 1 →
      (∀ c o, c ≠ z → c ≠ i1 → c ≠ i2 → s.heap.get? c = some o → h'.get? c = some o) → Q (.ref s.heap.objs.size) { s with heap := h' }) :
    wpAny (model prog w) A (Builtin.«zip.__next__» ⟨[.ref z], []⟩) (fun r s' => ∃ v, r = .done (.ret v) ∧ Q v s') E s := by
  show wpAny _ _ (field (.ref z) 2 >>= _) _ _ _
  refine wpAny_bind (wpAny_field hz rfl (x := .bool false) rfl ?_)
  show wpAny _ _ (field (.ref z) 3 >>= _) _ _ _
  refine wpAny_bind (wpAny_field hz rfl (x := .ref TI) rfl ?_)
  refine wpAny_bind (wpAny_seqItems hTI rfl ?_)
  show wpAny _ _ (Builtin.SmallTypes.ownedTupleIsFree (.ref z) >>= _) _ _ _
  refine wpAny_bind (wpAny_tupleHeld_zip hz hT fun g1 zg1 sb1 => ?_)
  simp only [Bool.false_eq_true, if_false]
  refine wpAny_bind ?_
  rw [← Array.forIn_toList]
  simp only [List.forIn_cons, List.forIn_nil]
  refine wpAny_bind (wpAny_bind (wpAny_holding ?_))
  show wpAny _ _ (Builtin.SmallTypes.nextOf (.ref i1) >>= _) _ _ _
  refine wpAny_bind (RZ.nextOf_tuple_item (s := { s with heap := g1 }) (a1.extBut sb1.extBut D.i1z) (b1.extBut sb1.extBut D.l1z) ex fun g2 it1 sb2 => ?_)
  refine wpAny_pure (wpAny_pure ?_)
  refine wpAny_bind (wpAny_bind (wpAny_holding ?_))
  show wpAny _ _ (Builtin.SmallTypes.nextOf (.ref i2) >>= _) _ _ _
  refine wpAny_bind (RZ.nextOf_tuple_item (s := { s with heap := g2 }) ((a2.extBut sb1.extBut D.i2z).extBut sb2.extBut D.i12.symm) ((b2.extBut sb1.extBut D.l2z).extBut sb2.extBut D.l2i1) ey fun g3 it2 sb3 => ?_)
  refine wpAny_pure (wpAny_pure (wpAny_pure ?_))
  show wpAny _ _ (newTuple [x, y] >>= _) _ _ _
  refine wpAny_bind (wpAny_newTuple ?_)
  have size3 : g3.objs.size = s.heap.objs.size := by rw [sb3.1, sb2.1, sb1.1]
  have zip3 : IsZipHeld g3 z TI TO T true := sb3.extBut _ _ D.i2z.symm (sb2.extBut _ _ D.i1z.symm zg1)
  have keep3 : ∀ c o, c ≠ z → c ≠ i1 → c ≠ i2 → s.heap.get? c = some o → g3.get? c = some o := fun c o n1 n2 n3 e => sb3.extBut _ _ n3 (sb2.extBut _ _ n2 (sb1.extBut _ _ n1 e))
  have it13 : g3.IsTupleIter i1 l1 (k + 1) := it1.extBut sb3.extBut D.i12
  refine wpAny_pure ⟨_, rfl, ?_⟩
  show Q (.ref g3.objs.size) _
  have pr : IsPair (g3.push { cls := .type "tuple", data := .seq #[x, y] }) g3.objs.size x y := Heap.get?_push_size _ rfl
  have size4 : (g3.push { cls := .type "tuple", data := .seq #[x, y] }).objs.size = g3.objs.size + 1 := Heap.size_push ..
  rw [size3] at pr size4 ⊢
  exact fin _ (Heap.get?_push_of_some _ zip3) (it13.at fun o e => Heap.get?_push_of_some _ e) (it2.at fun o e => Heap.get?_push_of_some _ e) pr size4 (fun c o n1 n2 n3 e => Heap.get?_push_of_some _ (keep3 c o n1 n2 n3 e))
/-- no further pair, while the one that was given out is kept -/
theorem heldEnd {z TI TO T i1 i2 l1 l2 : Addr} {f : Bool} {oT : Obj} {k : Nat} {xs : Array Value} {Q : Fin → Shared → Prop} (hh : A.handled = none) (D : ZipApart z TI TO i1 i2 l1 l2)
    (hz : IsZipHeld s.heap z TI TO T f) (hT : s.heap.get? T = some oT) (hTI : IsPair s.heap TI (.ref i1) (.ref i2))
    (a1 : s.heap.IsTupleIter i1 l1 k) (b1 : s.heap.IsTuple l1 xs) (ex : xs[k]? = none)
    (fin : ∀ h' e, (∀ c o, c ≠ z → c ≠ i1 → c ≠ i2 → s.heap.get? c = some o → h'.get? c = some o) → (∃ o, h'.get? e = some o ∧ o.cls = .type "StopIteration") → E (.ref e) { s with heap := h' }) :
    wpAny (model prog w) A (Builtin.«zip.__next__» ⟨[.ref z], []⟩) Q E s := by
  show wpAny _ _ (field (.ref z) 2 >>= _) _ _ _
  refine wpAny_bind (wpAny_field hz rfl (x := .bool false) rfl ?_)
  show wpAny _ _ (field (.ref z) 3 >>= _) _ _ _
  refine wpAny_bind (wpAny_field hz rfl (x := .ref TI) rfl ?_)
  refine wpAny_bind (wpAny_seqItems hTI rfl ?_)
  show wpAny _ _ (Builtin.SmallTypes.ownedTupleIsFree (.ref z) >>= _) _ _ _
  refine wpAny_bind (wpAny_tupleHeld_zip hz hT fun g1 zg1 sb1 => ?_)
  simp only [Bool.false_eq_true, if_false]
  refine wpAny_bind ?_
  rw [← Array.forIn_toList]
  simp only [List.forIn_cons, List.forIn_nil]
  refine wpAny_bind (wpAny_bind (wpAny_holding ?_))
  show wpAny _ _ (Builtin.SmallTypes.nextOf (.ref i1) >>= _) _ _ _
  refine wpAny_bind (RZ.nextOf_tuple_end (s := { s with heap := g1 }) hh (a1.extBut sb1.extBut D.i1z) (b1.extBut sb1.extBut D.l1z) ex fun g2 e sb2 stop => ?_)
  exact fin g2 e (fun c o n1 n2 _ v => sb2 _ _ n2 (sb1.extBut _ _ n1 v)) stop
/-- a zip of the tuples at l1, l2, ahead of pair k: fresh, or with the pair that it gave out kept -/
structure ZSt (h : Heap) (z TI TO i1 i2 l1 l2 S : Addr) (xs ys : Array Value) (k : Nat) : Prop where
  zip : (IsZip h z TI TO .none ∧ ∃ a b, IsPair h TO a b) ∨ ∃ T oT f, IsZipHeld h z TI TO T f ∧ h.get? T = some oT ∧ T ≠ S
  ti : IsPair h TI (.ref i1) (.ref i2)
  a1 : h.IsTupleIter i1 l1 k
  a2 : h.IsTupleIter i2 l2 k
  b1 : h.IsTuple l1 xs
  b2 : h.IsTuple l2 ys
theorem nextItem {z TI TO i1 i2 l1 l2 S : Addr} {k : Nat} {xs ys : Array Value} {x y : Value} {Q : Option Value → Shared → Prop} (D : ZipApart z TI TO i1 i2 l1 l2) (St : ZSt s.heap z TI TO i1 i2 l1 l2 S xs ys k) (hS : S < s.heap.objs.size)
    (ex : xs[k]? = some x) (ey : ys[k]? = some y)
    (fin : ∀ h', ZSt h' z TI TO i1 i2 l1 l2 S xs ys (k + 1) → IsPair h' s.heap.objs.size x y → h'.objs.size = s.heap.objs.size + 1 →
      (∀ c o, c ≠ z → c ≠ TO → c ≠ i1 → c ≠ i2 → s.heap.get? c = some o → h'.get? c = some o) → Q (some (.ref s.heap.objs.size)) { s with heap := h' }) :
    wpAny (model prog w) A (pyNext (.ref z)) Q E s := by
  obtain ⟨o1, e1, t1, n1, d1⟩ := id St.b1
  obtain ⟨o2, e2, t2, n2, d2⟩ := id St.b2
  rcases St.zip with ⟨hz, a, b, hTO⟩ | ⟨T, oT, f, hz, hT, hTS⟩
  · refine RZ.pyNext_zipT_item D hz St.ti hTO St.a1 St.a2 St.b1 St.b2 ex ey fun h' z' _ j1 j2 pr sz kp => ?_
    exact fin h' ⟨.inr ⟨_, _, false, z', pr, Nat.ne_of_gt hS⟩, kp _ _ D.TIz D.TITO D.TIi1 D.TIi2 St.ti, j1, j2, ⟨o1, kp _ _ D.l1z D.l1TO D.l1i1 D.l1i2 e1, t1, n1, d1⟩, ⟨o2, kp _ _ D.l2z D.l2TO D.l2i1 D.l2i2 e2, t2, n2, d2⟩⟩ pr sz kp
  · have hTy : s.TypeIs (.ref z) "zip" := ⟨_, hz, rfl⟩
    unfold pyNext
    refine wpAny_bind (wpAny_attempt (wpAny_callSpecial?_slot (name := Str.ofString "__next__") hTy F.slot_zip_next (wpAny_call_entry F.slot_zip_next hTy F.entry_zip_next (heldNext D hz hT St.ti St.a1 St.a2 St.b1 St.b2 ex ey ?_) (F.args_zip_next_1 _))))
    intro h' z' j1 j2 pr sz kp
    refine wpAny_pure ?_
    have hT' : ∃ o, h'.get? T = some o := by
      by_cases c1 : T = z
      · exact ⟨_, by rw [c1]; exact z'⟩
      by_cases c2 : T = i1
      · obtain ⟨o, q, _⟩ := j1
        exact ⟨o, by rw [c2]; exact q⟩
      by_cases c3 : T = i2
      · obtain ⟨o, q, _⟩ := j2
        exact ⟨o, by rw [c3]; exact q⟩
      exact ⟨_, kp _ _ c1 c2 c3 hT⟩
    obtain ⟨oT', hT'⟩ := hT'
    exact fin h' ⟨.inr ⟨T, oT', true, z', hT', hTS⟩, kp _ _ D.TIz D.TIi1 D.TIi2 St.ti, j1, j2, ⟨o1, kp _ _ D.l1z D.l1i1 D.l1i2 e1, t1, n1, d1⟩, ⟨o2, kp _ _ D.l2z D.l2i1 D.l2i2 e2, t2, n2, d2⟩⟩ pr sz (fun c o n1 _ n3 n4 e => kp c o n1 n3 n4 e)
theorem nextEnd {z TI TO i1 i2 l1 l2 S : Addr} {k : Nat} {xs ys : Array Value} {Q : Option Value → Shared → Prop} (hh : A.handled = none) (D : ZipApart z TI TO i1 i2 l1 l2) (St : ZSt s.heap z TI TO i1 i2 l1 l2 S xs ys k) (ex : xs[k]? = none)
    (fin : ∀ h', (∀ c o, c ≠ z → c ≠ TO → c ≠ i1 → c ≠ i2 → s.heap.get? c = some o → h'.get? c = some o) → Q none { s with heap := h' }) :
    wpAny (model prog w) A (pyNext (.ref z)) Q E s := by
  rcases St.zip with ⟨hz, a, b, hTO⟩ | ⟨T, oT, f, hz, hT, hTS⟩
  · exact RZ.pyNext_zipT_end hh D hz St.ti hTO St.a1 St.a2 St.b1 St.b2 (.inl ex) fin
  · have hTy : s.TypeIs (.ref z) "zip" := ⟨_, hz, rfl⟩
    unfold pyNext
    refine wpAny_bind (wpAny_attempt (wpAny_callSpecial?_slot (name := Str.ofString "__next__") hTy F.slot_zip_next (wpAny_call_entry F.slot_zip_next hTy F.entry_zip_next (heldEnd hh D hz hT St.ti St.a1 St.b1 ex ?_) (F.args_zip_next_1 _))))
    intro h' e kp ⟨o, ho, hc⟩
    refine wpAny_bind (wpAny_isInstance (T := "StopIteration") (b := true) ⟨o, ho, hc⟩ isSubtype_stop ?_)
    exact wpAny_pure (fin _ (fun c o n1 _ n3 n4 v => kp c o n1 n3 n4 v))
/-- the pairs so far: each new, above S, at its place -/
structure Prs (xs ys : Array Value) (S : Addr) (h : Heap) (as : List Addr) : Prop where
  up : as.Pairwise (· < ·)
  hi : ∀ a ∈ as, S < a
  at' : ∀ (j : Nat) (a : Addr), as[j]? = some a → ∃ x y, xs[j]? = some x ∧ ys[j]? = some y ∧ IsPair h a x y
theorem loopZ {z TI TO i1 i2 l1 l2 S : Addr} {xs ys : Array Value} {R : Result → Shared → Prop} (hh : A.handled = none) (D : ZipApart z TI TO i1 i2 l1 l2) (same : xs.size = ys.size) (small : xs.size ≤ sizeLine)
    (lo : ∀ c, (c = z ∨ c = TI ∨ c = TO ∨ c = i1 ∨ c = i2 ∨ c = l1 ∨ c = l2) → c < S) (res : Value) {h0 : Heap}
    (fin : ∀ h' tk acc c as, (∀ b o, b ≠ S → b ≠ z → b ≠ TO → b ≠ i1 → b ≠ i2 → h0.get? b = some o → h'.get? b = some o) → h'.get? S = some { cls := .type "list", dict := none, data := .seq acc c, slots := #[] } → as.length = xs.size → Prs xs ys S h' as →
      acc.toList = as.map Value.ref → R (.ok (.ret res)) { s with heap := h', toks := tk }) :
    ∀ (n k : Nat) (h : Heap) (tk c : Nat) (acc : Array Value) (as : List Addr), xs.size - k = n → k ≤ xs.size → ZSt h z TI TO i1 i2 l1 l2 S xs ys k →
      (∀ b o, b ≠ S → b ≠ z → b ≠ TO → b ≠ i1 → b ≠ i2 → h0.get? b = some o → h.get? b = some o) → h.get? S = some { cls := .type "list", dict := none, data := .seq acc c, slots := #[] } →
      acc.toList = as.map Value.ref → as.length = k → Prs xs ys S h as →
      codeAny (model prog w) A (.builtin "list.extend.loop" ⟨[.ref S, .ref z, res], []⟩) R { s with heap := h, toks := tk } := by
  have zS : z ≠ S := Nat.ne_of_lt (lo z (.inl rfl))
  have TIS : TI ≠ S := Nat.ne_of_lt (lo TI (.inr (.inl rfl)))
  have TOS : TO ≠ S := Nat.ne_of_lt (lo TO (.inr (.inr (.inl rfl))))
  have i1S : i1 ≠ S := Nat.ne_of_lt (lo i1 (.inr (.inr (.inr (.inl rfl)))))
  have i2S : i2 ≠ S := Nat.ne_of_lt (lo i2 (.inr (.inr (.inr (.inr (.inl rfl))))))
  have l1S : l1 ≠ S := Nat.ne_of_lt (lo l1 (.inr (.inr (.inr (.inr (.inr (.inl rfl)))))))
  have l2S : l2 ≠ S := Nat.ne_of_lt (lo l2 (.inr (.inr (.inr (.inr (.inr (.inr rfl)))))))
  have above : ∀ a, S < a → a ≠ z ∧ a ≠ TO ∧ a ≠ i1 ∧ a ≠ i2 := fun a ha => ⟨Nat.ne_of_gt (Nat.lt_trans (lo z (.inl rfl)) ha), Nat.ne_of_gt (Nat.lt_trans (lo TO (.inr (.inr (.inl rfl)))) ha),
    Nat.ne_of_gt (Nat.lt_trans (lo i1 (.inr (.inr (.inr (.inl rfl))))) ha), Nat.ne_of_gt (Nat.lt_trans (lo i2 (.inr (.inr (.inr (.inr (.inl rfl)))))) ha)⟩
  intro n
  induction n with
  | zero =>
    intro k h tk c acc as hk hle St kp hS hacc hal G
    have full : k = xs.size := by omega
    refine codeAny_builtin PySem.F.entry_extend_loop ?_
    rw [Around.under_plainId PySem.F.plain_extend_loop _]
    show wpAny _ A.in1 (pyNext (.ref z) >>= _) _ _ _
    refine wpAny_bind (nextEnd (s := { s with heap := h, toks := tk }) (A := A.in1) hh D St (by rw [full]; simp) fun h' kp' => ?_)
    refine wpAny_pure (fin h' tk acc c as (fun b o n1 n2 n3 n4 n5 e => kp' b o n2 n3 n4 n5 (kp b o n1 n2 n3 n4 n5 e)) (kp' _ _ zS.symm TOS.symm i1S.symm i2S.symm hS) (by omega) ⟨G.up, G.hi, fun j a hj => ?_⟩ hacc)
    obtain ⟨x, y, ex, ey, p⟩ := G.at' j a hj
    obtain ⟨m1, m2, m3, m4⟩ := above a (G.hi a (List.mem_of_getElem? hj))
    exact ⟨x, y, ex, ey, kp' _ _ m1 m2 m3 m4 p⟩
  | succ n ih =>
    intro k h tk c acc as hk hle St kp hS hacc hal G
    have hlt : k < xs.size := by omega
    have ex : xs[k]? = some xs[k] := by simp [hlt]
    have ey : ys[k]? = some (ys[k]'(by omega)) := by simp
    have hsz : acc.size = k := by rw [← Array.length_toList, hacc, List.length_map, hal]
    have hSl : S < h.objs.size := Heap.lt_size hS
    refine codeAny_builtin PySem.F.entry_extend_loop ?_
    rw [Around.under_plainId PySem.F.plain_extend_loop _]
    show wpAny _ A.in1 (pyNext (.ref z) >>= _) _ _ _
    refine wpAny_bind (nextItem (s := { s with heap := h, toks := tk }) (A := A.in1) (S := S) D St hSl ex ey fun h' St' pr sz kp' => ?_)
    dsimp only at pr sz kp' ⊢
    have hS' := kp' _ _ zS.symm TOS.symm i1S.symm i2S.symm hS
    have grow : ∀ b o, b ≠ S → h'.get? b = some o → (h'.update S (Obj.mapSeq (·.push (Value.ref h.objs.size)))).get? b = some o := fun b o hb e => (Heap.get?_update_other _ _ (Ne.symm hb)).trans e
    show wpAny _ A.in1 (updateSeq S (·.push (Value.ref h.objs.size)) >>= _) _ _ _
    refine wpAny_bind ?_
    have St2 : ZSt (h'.update S (Obj.mapSeq (·.push (Value.ref h.objs.size)))) z TI TO i1 i2 l1 l2 S xs ys (k + 1) := by
      refine ⟨?_, grow _ _ TIS St'.ti, St'.a1.at fun o e => grow _ o i1S e, St'.a2.at fun o e => grow _ o i2S e, ?_, ?_⟩
      · rcases St'.zip with ⟨q, a, b, r⟩ | ⟨T, oT, f, q, r, nT⟩
        · exact .inl ⟨grow _ _ zS q, a, b, grow _ _ TOS r⟩
        · exact .inr ⟨T, oT, f, grow _ _ zS q, grow _ _ nT r, nT⟩
      · obtain ⟨o, e, t, m, d⟩ := St'.b1
        exact ⟨o, grow _ _ l1S e, t, m, d⟩
      · obtain ⟨o, e, t, m, d⟩ := St'.b2
        exact ⟨o, grow _ _ l2S e, t, m, d⟩
    have G2 : Prs xs ys S (h'.update S (Obj.mapSeq (·.push (Value.ref h.objs.size)))) (as ++ [h.objs.size]) := by
      have old : ∀ a ∈ as, a < h.objs.size := by
        intro a ha
        obtain ⟨j, hj⟩ := List.mem_iff_getElem?.mp ha
        obtain ⟨_, _, _, _, p⟩ := G.at' j a hj
        exact Heap.lt_size p
      refine ⟨List.pairwise_append.mpr ⟨G.up, List.pairwise_singleton _ _, fun a ha b hb => ?_⟩, fun a ha => ?_, fun j a hj => ?_⟩
      · rw [List.mem_singleton.mp hb]
        exact old a ha
      · rcases List.mem_append.mp ha with q | q
        · exact G.hi a q
        · rw [List.mem_singleton.mp q]
          exact hSl
      · by_cases c1 : j < as.length
        · rw [List.getElem?_append_left c1] at hj
          obtain ⟨x, y, q1, q2, p⟩ := G.at' j a hj
          have hSa := G.hi a (List.mem_of_getElem? hj)
          obtain ⟨m1, m2, m3, m4⟩ := above a hSa
          exact ⟨x, y, q1, q2, grow _ _ (Nat.ne_of_gt hSa) (kp' _ _ m1 m2 m3 m4 p)⟩
        · have lj := (List.getElem?_eq_some_iff.mp hj).1
          rw [List.length_append] at lj
          have ej : j = as.length := by
            have : ([h.objs.size] : List Addr).length = 1 := rfl
            omega
          subst ej
          rw [List.getElem?_append_right (Nat.le_refl _), Nat.sub_self] at hj
          have ea : h.objs.size = a := by simpa using hj
          subst ea
          rw [hal]
          exact ⟨_, _, ex, ey, grow _ _ (Nat.ne_of_gt hSl) pr⟩
    refine wpAny_updateSeq hS' rfl (wpAny_pure ⟨plainId_quiet PySem.F.plain_extend_loop _, ?_⟩) (by rw [hsz]; omega) (by show (acc.push (Value.ref h.objs.size)).size ≤ sizeLine + 1; rw [Array.size_push, hsz]; omega)
    exact ih (k + 1) _ tk _ (acc.push (Value.ref h.objs.size)) (as ++ [h.objs.size]) (by omega) hlt St2 (fun b o n1 n2 n3 n4 n5 e => grow b o n1 (kp' b o n2 n3 n4 n5 (kp b o n1 n2 n3 n4 n5 e)))
      (Heap.get?_update_self _ hS' rfl) (by rw [Array.toList_push, hacc, List.map_append]; rfl) (by rw [List.length_append, hal]; rfl) G2
theorem no_len : typeLookup (.type "zip") "__len__" = pure none := am_miss_of_fast (by decide +kernel)
theorem no_hint : typeLookup (.type "zip") "__length_hint__" = pure none := am_miss_of_fast (by decide +kernel)
theorem hintZ {z : Addr} {Q : Bool → Shared → Prop} (hT : s.TypeIs (.ref z) "zip") (q : Q true s) : wpAny (model prog w) A (Builtin.List.listLengthHint (.ref z)) Q E s := by
  unfold Builtin.List.listLengthHint
  refine wpAny_bind (wpAny_specialOf hT no_len ?_)
  refine wpAny_ite_split (fun c => absurd c (by decide +kernel)) (fun _ => ?_)
  refine wpAny_ite_split (fun c => absurd c (by decide)) (fun _ => ?_)
  refine wpAny_bind (wpAny_specialOf hT no_hint ?_)
  exact wpAny_pure q
theorem extendZ {z TI TO i1 i2 l1 l2 S : Addr} {xs ys : Array Value} {R : Result → Shared → Prop} (hh : A.handled = none) (D : ZipApart z TI TO i1 i2 l1 l2) (same : xs.size = ys.size) (small : xs.size ≤ sizeLine)
    (lo : ∀ c, (c = z ∨ c = TI ∨ c = TO ∨ c = i1 ∨ c = i2 ∨ c = l1 ∨ c = l2) → c < S) (res : Value) (St : ZSt s.heap z TI TO i1 i2 l1 l2 S xs ys 0) {a0 b0 : Value} (hz : IsZip s.heap z TI TO .none) (hTO : IsPair s.heap TO a0 b0) (c0 : Nat)
    (hS : s.heap.get? S = some { cls := .type "list", data := .seq #[] c0 })
    (fin : ∀ h' tk acc c as, (∀ b o, b ≠ S → b ≠ z → b ≠ TO → b ≠ i1 → b ≠ i2 → s.heap.get? b = some o → h'.get? b = some o) → h'.get? S = some { cls := .type "list", dict := none, data := .seq acc c, slots := #[] } → as.length = xs.size → Prs xs ys S h' as →
      acc.toList = as.map Value.ref → R (.ok (.ret res)) { s with heap := h', toks := tk }) :
    wpAny (model prog w) A.in1 (Builtin.List.listExtendWith (.ref S) (.ref z) res)
      (fun r s' => match r with | .done f => R (.ok f) s' | .again c' => c'.quiet = true ∧ codeAny (model prog w) A c' R s') (fun e s' => R (.error e) s') s := by
  have zS : z ≠ S := Nat.ne_of_lt (lo z (.inl rfl))
  have hT : s.TypeIs (.ref z) "zip" := ⟨_, hz, rfl⟩
  unfold Builtin.List.listExtendWith
  refine wpAny_bind (wpAny_typeOf (T := "zip") hT ?_)
  have g1 : Builtin.List.listSameRef (.ref S) (.ref z) = false := by simp [Builtin.List.listSameRef, zS.symm]
  have g2 : (Value.type "zip" == Value.type "list") = false := by decide
  have g3 : (Value.type "zip" == Value.type "tuple") = false := by decide
  simp only [g1, g2, g3, Bool.or_false, Bool.false_eq_true, if_false]
  refine wpAny_bind (wpAny_pyIter_zip hz ?_)
  refine wpAny_bind (wpAny_holding (hintZ hT ?_))
  refine wpAny_ite_split (fun _ => ?_) (fun c => absurd rfl c)
  refine wpAny_bind (wpAny_rule ?_)
  refine wpAny_bind ?_
  show wpAny _ _ (updateSeq S (·.push .none) >>= fun _ => updateSeq S (·.pop)) _ _ _
  refine wpAny_bind (wpAny_updateSeq hS rfl ?_)
  have u1 := Heap.get?_update_self (Obj.mapSeq (·.push Value.none)) hS rfl
  refine wpAny_updateSeq (hz := by seq_fits) u1 rfl ?_
  have u2 := Heap.get?_update_self (Obj.mapSeq (·.pop)) u1 rfl
  have oth : ∀ b o, b ≠ S → s.heap.get? b = some o → ((s.heap.update S (Obj.mapSeq (·.push Value.none))).update S (Obj.mapSeq (·.pop))).get? b = some o :=
    fun b o hb e => (Heap.get?_update_other _ _ (Ne.symm hb)).trans ((Heap.get?_update_other _ _ (Ne.symm hb)).trans e)
  refine wpAny_pure ⟨plainId_quiet PySem.F.plain_extend_loop _, ?_⟩
  have lt := fun c hc => Nat.ne_of_lt (lo c hc)
  refine loopZ (s := s) hh D same small lo res (h0 := s.heap) fin xs.size 0 _ _ _ #[] [] (Nat.sub_zero _) (Nat.zero_le _) ⟨.inl ⟨oth _ _ zS hz, a0, b0, oth _ _ (lt TO (.inr (.inr (.inl rfl)))) hTO⟩, oth _ _ (lt TI (.inr (.inl rfl))) St.ti,
    St.a1.at fun o e => oth _ o (lt i1 (.inr (.inr (.inr (.inl rfl))))) e, St.a2.at fun o e => oth _ o (lt i2 (.inr (.inr (.inr (.inr (.inl rfl)))))) e, ?_, ?_⟩ (fun b o n1 _ _ _ _ e => oth b o n1 e) u2 rfl rfl
    ⟨List.Pairwise.nil, (fun _ ha => nomatch ha), (fun j a hj => by simp at hj)⟩
  · obtain ⟨o, e, t, m, d⟩ := St.b1
    exact ⟨o, oth _ _ (lt l1 (.inr (.inr (.inr (.inr (.inr (.inl rfl))))))) e, t, m, d⟩
  · obtain ⟨o, e, t, m, d⟩ := St.b2
    exact ⟨o, oth _ _ (lt l2 (.inr (.inr (.inr (.inr (.inr (.inr rfl))))))) e, t, m, d⟩
theorem initZ {z TI TO i1 i2 l1 l2 S : Addr} {xs ys : Array Value} {R : Result → Shared → Prop} (hh : A.handled = none) (D : ZipApart z TI TO i1 i2 l1 l2) (same : xs.size = ys.size) (small : xs.size ≤ sizeLine)
    (lo : ∀ c, (c = z ∨ c = TI ∨ c = TO ∨ c = i1 ∨ c = i2 ∨ c = l1 ∨ c = l2) → c < S) (St : ZSt s.heap z TI TO i1 i2 l1 l2 S xs ys 0) {a0 b0 : Value} (hz : IsZip s.heap z TI TO .none) (hTO : IsPair s.heap TO a0 b0)
    (hS : s.heap.get? S = some { cls := .type "list", data := .seq #[] })
    (fin : ∀ h' tk acc c as, (∀ b o, b ≠ S → b ≠ z → b ≠ TO → b ≠ i1 → b ≠ i2 → s.heap.get? b = some o → h'.get? b = some o) → h'.get? S = some { cls := .type "list", dict := none, data := .seq acc c, slots := #[] } → as.length = xs.size → Prs xs ys S h' as →
      acc.toList = as.map Value.ref → R (.ok (.ret .none)) { s with heap := h', toks := tk }) :
    wpAny (model prog w) A.in1 (Builtin.«list.__init__» ⟨[.ref S, .ref z], []⟩)
      (fun r s' => match r with | .done f => R (.ok f) s' | .again c' => c'.quiet = true ∧ codeAny (model prog w) A c' R s') (fun e s' => R (.error e) s') s := by
  have lt := fun c hc => Nat.ne_of_lt (lo c hc)
  show wpAny _ _ (do let old ← Builtin.List.listItems (.ref S); Builtin.List.listUpdate (.ref S) (fun _ => #[]); letGo old.toList.reverse; Builtin.List.listExtendWith (.ref S) (.ref z) .none) _ _ s
  refine wpAny_bind ?_
  unfold Builtin.List.listItems
  refine wpAny_bind (wpAny_seqItems hS rfl (wpAny_pure ?_))
  show wpAny _ _ (updateSeq S (fun _ => #[]) >>= fun _ => letGo (#[] : Array Value).toList.reverse >>= fun _ => Builtin.List.listExtendWith (.ref S) (.ref z) .none) _ _ s
  refine wpAny_bind (wpAny_updateSeq hS rfl ?_)
  have u1 := Heap.get?_update_self (Obj.mapSeq (fun _ => (#[] : Array Value))) hS rfl
  have oth : ∀ b o, b ≠ S → s.heap.get? b = some o → (s.heap.update S (Obj.mapSeq (fun _ => (#[] : Array Value)))).get? b = some o := fun b o hb e => (Heap.get?_update_other _ _ (Ne.symm hb)).trans e
  refine wpAny_bind (wpAny_letGo ?_)
  have zS := lt z (.inl rfl)
  have TOS := lt TO (.inr (.inr (.inl rfl)))
  refine extendZ hh D same small lo .none ⟨.inl ⟨oth _ _ zS hz, a0, b0, oth _ _ TOS hTO⟩, oth _ _ (lt TI (.inr (.inl rfl))) St.ti, St.a1.at fun o e => oth _ o (lt i1 (.inr (.inr (.inr (.inl rfl))))) e,
    St.a2.at fun o e => oth _ o (lt i2 (.inr (.inr (.inr (.inr (.inl rfl)))))) e, ?_, ?_⟩ (oth _ _ zS hz) (oth _ _ TOS hTO) _ u1 (fun h' tk acc c as kp hS' hl hG hacc => fin h' tk acc c as (fun b o n1 n2 n3 n4 n5 e => kp b o n1 n2 n3 n4 n5 (oth b o n1 e)) hS' hl hG hacc)
  · obtain ⟨o, e, t, m, d⟩ := St.b1
    exact ⟨o, oth _ _ (lt l1 (.inr (.inr (.inr (.inr (.inr (.inl rfl))))))) e, t, m, d⟩
  · obtain ⟨o, e, t, m, d⟩ := St.b2
    exact ⟨o, oth _ _ (lt l2 (.inr (.inr (.inr (.inr (.inr (.inr rfl))))))) e, t, m, d⟩
theorem listZ {z TI TO i1 i2 l1 l2 : Addr} {xs ys : Array Value} {Q : Value → Shared → Prop} (hh : A.handled = none) (D : ZipApart z TI TO i1 i2 l1 l2) (same : xs.size = ys.size) (small : xs.size ≤ sizeLine)
    (St : ZSt s.heap z TI TO i1 i2 l1 l2 s.heap.objs.size xs ys 0) {a0 b0 : Value} (hz : IsZip s.heap z TI TO .none) (hTO : IsPair s.heap TO a0 b0)
    (fin : ∀ h' tk acc c as, (∀ b o, b ≠ z → b ≠ TO → b ≠ i1 → b ≠ i2 → s.heap.get? b = some o → h'.get? b = some o) → h'.get? s.heap.objs.size = some { cls := .type "list", dict := none, data := .seq acc c, slots := #[] } → as.length = xs.size → Prs xs ys s.heap.objs.size h' as →
      acc.toList = as.map Value.ref → Q (.ref s.heap.objs.size) { s with heap := h', toks := tk }) :
    wpAny (model prog w) A (call (.type "list") [.ref z]) Q E s := by
  refine callType_codes (Q₁ := fun obj s1 => obj = .ref s.heap.objs.size ∧ s1 = { s with heap := s.heap.push { cls := .type "list", data := .seq #[] } }) PySem.F.called_list (PySem.F.typeCall_list_1 _) PySem.F.entry_list_init
    (code_list_new _ ⟨rfl, rfl⟩) fun obj s1 hs1 => ?_
  obtain ⟨rfl, rfl⟩ := hs1
  have hS : (s.heap.push { cls := .type "list", data := .seq #[] }).get? s.heap.objs.size = some { cls := .type "list", data := .seq #[] } := Heap.get?_push_size _ rfl
  have kp0 : ∀ b o, s.heap.get? b = some o → (s.heap.push { cls := .type "list", data := .seq #[] }).get? b = some o := fun b o e => Heap.get?_push_of_some _ e
  have b1 := St.b1
  have b2 := St.b2
  have lo : ∀ c, (c = z ∨ c = TI ∨ c = TO ∨ c = i1 ∨ c = i2 ∨ c = l1 ∨ c = l2) → c < s.heap.objs.size := by
    rintro c (q | q | q | q | q | q | q)
    · rw [q]; exact Heap.lt_size hz
    · rw [q]; exact Heap.lt_size St.ti
    · rw [q]; exact Heap.lt_size hTO
    · rw [q]; obtain ⟨o, e, _⟩ := St.a1; exact Heap.lt_size e
    · rw [q]; obtain ⟨o, e, _⟩ := St.a2; exact Heap.lt_size e
    · rw [q]; obtain ⟨o, e, _⟩ := b1; exact Heap.lt_size e
    · rw [q]; obtain ⟨o, e, _⟩ := b2; exact Heap.lt_size e
  refine ⟨⟨_, hS, rfl⟩, PySem.F.args_list_init_2 _ _, initZ (A := A.in1) (R := _) hh D same small lo ⟨.inl ⟨kp0 _ _ hz, a0, b0, kp0 _ _ hTO⟩, kp0 _ _ St.ti, St.a1.at fun o e => kp0 _ o e, St.a2.at fun o e => kp0 _ o e, ?_, ?_⟩ (kp0 _ _ hz) (kp0 _ _ hTO) hS (fun h' tk acc c as kp hS' hl hG hacc => ?_)⟩
  · obtain ⟨o, e, t, m, d⟩ := b1
    exact ⟨o, kp0 _ _ e, t, m, d⟩
  · obtain ⟨o, e, t, m, d⟩ := b2
    exact ⟨o, kp0 _ _ e, t, m, d⟩
  · exact ⟨rfl, fin h' tk acc c as (fun b o n2 n3 n4 n5 e => kp b o (Nat.ne_of_lt (Heap.lt_size e)) n2 n3 n4 n5 (kp0 b o e)) hS' hl hG hacc⟩
end
end Vz
namespace Vz
open PySem PySem.Spec PyProof.Rows L2
/-! ## the rule: list(zip(a, b)), a and b tuples of one length -/
def tListZip (K : PySem.W.Frag) (ta : TA) : TE := fun σ H Q => ta σ H fun vs H1 => ∃ a b xs ys, vs = [.ref a, .ref b] ∧ SqT K H1 a xs ∧ SqT K H1 b ys ∧ xs.length = ys.length ∧
  ∀ (H2 : Hp) (L : Addr) (as : List Addr), Same H1 H2 → H1 L = none → (∀ c ∈ as, H1 c = none ∧ c ≠ L) → H2 L = some (.lst (as.map V.ref)) → as.length = xs.length →
    (∀ (j : Nat) (c : Addr) (x y : V), as[j]? = some c → xs[j]? = some x → ys[j]? = some y → H2 c = some (.tup [x, y])) → Q (.ref L) H2
section
variable {X : Cx} {e e2 : Expr} {ta : TA} {p q pos zpos : Pos}
/-- many new objects at once -/
theorem manyNew {pins : List (Addr × Obj)} {σ : L2.St} {H H2 : Hp} {s : Shared} {h' : Heap} {tk : Nat} (I : Inv X pins σ H s) (kp : ∀ b o, s.heap.get? b = some o → h'.get? b = some o)
    (old : ∀ b o, H b = some o → H2 b = some o) (new : ∀ b o, H2 b = some o → H b = none → s.heap.objs.size ≤ b ∧ ObjOk X.prog X.w H2 h' b o) : Inv X pins σ H2 { s with heap := h', toks := tk } := by
  have free : ∀ b o, s.heap.get? b = some o → H b = none → H2 b = none := by
    intro b o e n
    cases z : H2 b with
    | none => rfl
    | some u => exact absurd (Heap.lt_size e) (Nat.not_lt_of_le (new b u z n).1)
  refine I.un (h' := h') (t' := tk) ⟨fun b o e _ _ _ => kp b o e, fun b o e _ _ _ => ⟨o.slots, kp b o e⟩, fun b o e n _ => free b o e n, fun b o e _ => ⟨o, kp b o e⟩, fun b xs z => old b _ z, fun b o u z => old b _ z, fun b ps z => ⟨[].toArray, by simpa using old b _ z⟩⟩ ?_
  intro b o z
  cases hb : H b with
  | none => exact (new b o z hb).2
  | some u =>
    have z2 := old b u hb
    rw [z] at z2
    cases z2
    exact (I.hok b o hb).stay (fun c v _ r => kp c v r) (fun c r => old c _ r) (fun c xs r => old c _ r)
theorem pe_listZip (hc : X.calm = true) (gl : Gl X "list") (ml : X.mg "list" = none) (gz : Gl X "zip") (mz : X.mg "zip" = none) (ha : PA X [e, e2] ta)
    (hs : starEach [e, e2] X.env = (false, eval e X.env) :: starEach [e2] X.env := by rfl) (hpl : (backTo zpos (starEach [e2] X.env)).any (·.1) = false := by rfl)
    (hs2 : starEach [Expr.Call (.Name "zip" p) [e, e2] [] zpos] X.env = (false, eval (.Call (.Name "zip" p) [e, e2] [] zpos) X.env) :: starEach [] X.env := by rfl) :
    PE X (.Call (.Name "list" q) [.Call (.Name "zip" p) [e, e2] [] zpos] [] pos) (tListZip X.K ta) := by
  refine ⟨fun pins s σ H Q I h => ?_⟩
  refine Call_ (ld_blt I gl ml (by decide +kernel : bootBuiltins "list" = some (.type "list")) ?_)
  refine PyProof.Rows.callWith_type1 (PyProof.Rows.args_cons ?_ hs2) hs2 rfl
  refine Call_ (ld_blt I gz mz PyProof.Rows.boot_zip (PyProof.Rows.callWith_type1 (thn (ha.run zpos pins s σ H _ I h) ?_) hs hpl))
  rintro us s1 ⟨vs, H1, I1, r1, a, b, xs, ys, rfl, hx, hy, eqLen, q⟩
  obtain ⟨u1, u2, rfl, rx, ry⟩ := vals2 r1
  cases rx
  cases ry
  obtain ⟨its, v1, p1, z1⟩ := I1.tuple hx
  obtain ⟨its2, v2, p2, z2⟩ := I1.tuple hy
  have m1 := v1.length
  have m2 := v2.length
  have sz1 : its.toArray.size = xs.length := by rw [List.size_toArray, m1]
  have sz2 : its2.toArray.size = ys.length := by rw [List.size_toArray, m2]
  refine RZ.call_zipT (show s1.heap.IsTuple a its.toArray from p1) (show s1.heap.IsTuple b its2.toArray from p2) fun h' hz hTI hTO h1 h2 hsz hk => ?_
  refine PyProof.Rows.args_nil ?_
  obtain ⟨o1, q1, t1, n1, d1⟩ := id p1
  obtain ⟨o2, q2, t2, n2, d2⟩ := id p2
  have ap := PySem.W.ktu_apart s1.heap.objs.size a b (Heap.lt_size q1) (Heap.lt_size q2)
  have St : ZSt h' (s1.heap.objs.size + 4) (s1.heap.objs.size + 2) (s1.heap.objs.size + 3) s1.heap.objs.size (s1.heap.objs.size + 1) a b h'.objs.size its.toArray its2.toArray 0 :=
    ⟨.inl ⟨hz, _, _, hTO⟩, hTI, h1, h2, ⟨o1, hk _ _ q1, t1, n1, d1⟩, ⟨o2, hk _ _ q2, t2, n2, d2⟩⟩
  refine listZ (s := { s1 with heap := h' }) (I1.ok.hd hc) ap (by rw [sz1, sz2, eqLen]) (by rw [sz1]; exact z1) St hz hTO fun h2' tk acc c as kp hS hl G hacc => ?_
  dsimp only at kp hS G ⊢
  have kpAll : ∀ b o, s1.heap.get? b = some o → h2'.get? b = some o := by
    intro b o e
    have lt := Heap.lt_size e
    have big : ∀ k : Nat, b ≠ s1.heap.objs.size + k := fun k z => absurd lt (by rw [z]; exact Nat.not_lt_of_le (Nat.le_add_right _ _))
    exact kp b o (big 4) (big 3) (big 0) (big 1) (hk b o e)
  -- what is tracked behind it
  let pairAt : Addr → Option HO := fun c => match (List.range as.length).find? (fun j => decide (as[j]? = some c)) with
    | some j => (match xs[j]?, ys[j]? with
      | some x, some y => some (.tup [x, y])
      | _, _ => none)
    | none => none
  have inj : ∀ (i j : Nat) (c : Addr), as[i]? = some c → as[j]? = some c → i = j := by
    intro i j c e1 e2
    obtain ⟨l1, f1⟩ := List.getElem?_eq_some_iff.mp e1
    obtain ⟨l2, f2⟩ := List.getElem?_eq_some_iff.mp e2
    rcases Nat.lt_trichotomy i j with z | z | z
    · have := List.pairwise_iff_getElem.mp G.up i j l1 l2 z
      rw [f1, f2] at this
      exact absurd this (Nat.lt_irrefl _)
    · exact z
    · have := List.pairwise_iff_getElem.mp G.up j i l2 l1 z
      rw [f1, f2] at this
      exact absurd this (Nat.lt_irrefl _)
  have pairIs : ∀ (j : Nat) (c : Addr) (x y : V), as[j]? = some c → xs[j]? = some x → ys[j]? = some y → pairAt c = some (.tup [x, y]) := by
    intro j c x y e ex ey
    have lj := (List.getElem?_eq_some_iff.mp e).1
    have f : (List.range as.length).find? (fun j => decide (as[j]? = some c)) = some j := by
      cases z : (List.range as.length).find? (fun j => decide (as[j]? = some c)) with
      | none =>
        have := List.find?_eq_none.mp z j (List.mem_range.mpr lj)
        simp [e] at this
      | some i =>
        have := List.find?_some z
        rw [inj i j c (of_decide_eq_true this) e]
    show (match (List.range as.length).find? (fun j => decide (as[j]? = some c)) with
      | some j => (match xs[j]?, ys[j]? with
        | some x, some y => some (HO.tup [x, y])
        | _, _ => none)
      | none => none) = _
    rw [f]
    show (match xs[j]?, ys[j]? with
      | some x, some y => some (HO.tup [x, y])
      | _, _ => none) = _
    rw [ex, ey]
  have pairFrom : ∀ (c : Addr) (o : HO), pairAt c = some o → ∃ (j : Nat) (x y : V), as[j]? = some c ∧ xs[j]? = some x ∧ ys[j]? = some y ∧ o = .tup [x, y] := by
    intro c o e
    have e' : (match (List.range as.length).find? (fun j => decide (as[j]? = some c)) with
      | some j => (match xs[j]?, ys[j]? with
        | some x, some y => some (HO.tup [x, y])
        | _, _ => none)
      | none => none) = some o := e
    cases z : (List.range as.length).find? (fun j => decide (as[j]? = some c)) with
    | none =>
      rw [z] at e'
      cases e'
    | some j =>
      rw [z] at e'
      have ej : as[j]? = some c := by
        have z2 := List.find?_some z
        exact of_decide_eq_true z2
      cases ex : xs[j]? with
      | none => simp [ex] at e'
      | some x =>
        cases ey : ys[j]? with
        | none => simp [ex, ey] at e'
        | some y =>
          simp only [ex, ey] at e'
          exact ⟨j, x, y, ej, by first | exact ex | rfl, by first | exact ey | rfl, (Option.some.inj e').symm⟩
  have hiAll : ∀ c ∈ as, h'.objs.size < c := G.hi
  have szUp : s1.heap.objs.size ≤ h'.objs.size := by rw [hsz]; exact Nat.le_add_right _ _
  let HH : Hp := fun c => if c = h'.objs.size then some (.lst (as.map V.ref)) else match H1 c with
    | some o => some o
    | none => pairAt c
  have oldNone : ∀ c, s1.heap.objs.size ≤ c → H1 c = none := fun c hc => I1.hok.fresh hc
  have LN : H1 h'.objs.size = none := oldNone _ szUp
  have asN : ∀ c ∈ as, H1 c = none ∧ c ≠ h'.objs.size := fun c hc => ⟨oldNone c (Nat.le_trans szUp (Nat.le_of_lt (hiAll c hc))), Nat.ne_of_gt (hiAll c hc)⟩
  have HHL : HH h'.objs.size = some (.lst (as.map V.ref)) := if_pos rfl
  have HHold : ∀ c o, H1 c = some o → HH c = some o := by
    intro c o e
    show (if c = h'.objs.size then _ else _) = _
    rw [if_neg (ne_of_none e LN), e]
  have HHp : ∀ (j : Nat) (c : Addr) (x y : V), as[j]? = some c → xs[j]? = some x → ys[j]? = some y → HH c = some (.tup [x, y]) := by
    intro j c x y e ex ey
    obtain ⟨n1, n2⟩ := asN c (List.mem_of_getElem? e)
    show (if c = h'.objs.size then _ else _) = _
    rw [if_neg n2, n1]
    exact pairIs j c x y e ex ey
  have lenA : as.length = xs.length := by rw [hl, sz1]
  have I2 : Inv X pins σ HH { s1 with heap := h2', toks := tk } := by
    refine manyNew I1 kpAll HHold fun c o e n => ?_
    by_cases hc : c = h'.objs.size
    · subst hc
      rw [HHL] at e
      cases e
      refine ⟨szUp, by rw [List.length_map, lenA]; exact z1, as.map Value.ref, c, ?_, ?_⟩
      · have gen : ∀ l : List Addr, Vals (l.map V.ref) (l.map Value.ref) := by
          intro l
          induction l with
          | nil => exact .nil
          | cons x r ih => exact .cons rfl ih
        exact gen as
      · rw [hS, ← hacc]
    · have e' : (if c = h'.objs.size then some (HO.lst (as.map V.ref)) else match H1 c with
        | some o => some o
        | none => pairAt c) = some o := e
      rw [if_neg hc, n] at e'
      obtain ⟨j, x, y, ej, ex, ey, rfl⟩ := pairFrom c o e'
      refine ⟨Nat.le_trans szUp (Nat.le_of_lt (hiAll c (List.mem_of_getElem? ej))), by show 2 ≤ sizeLine; decide, ?_⟩
      obtain ⟨x', y', qx, qy, pr⟩ := G.at' j c ej
      obtain ⟨ux, eux, rux⟩ := v1.get ex
      obtain ⟨uy, euy, ruy⟩ := v2.get ey
      have fx : x' = ux := by
        have : its[j]? = some x' := by simpa using qx
        rw [eux] at this
        exact (Option.some.inj this).symm
      have fy : y' = uy := by
        have : its2[j]? = some y' := by simpa using qy
        rw [euy] at this
        exact (Option.some.inj this).symm
      subst fx fy
      exact ⟨[x', y'], .cons rux (.cons ruy .nil), ⟨_, pr, rfl, _, rfl⟩⟩
  exact ⟨.ref h'.objs.size, HH, I2, rfl, q HH h'.objs.size as (fun c o e => HHold c o e) LN asN HHL lenA HHp⟩
end
end Vz
namespace Vk
open PySem PySem.Spec PyProof.Rows L2
open C8 (pss_cut tCut)
/-! # Kinds of values, by type() -/
section
variable {X : Cx}
@[irreducible] def rTypX (K : PySem.W.Frag) : List V → Hp → VK → Prop := fun xs H Q => (∃ x n, xs = [x] ∧ zTyV x H = some n ∧ Q (.ty n) H) ∨
  (∃ a kvs, xs = [.ref a] ∧ H a = some (.dK kvs) ∧ Q (.ty "dict") H) ∨ (∃ a C dx fs, xs = [V.ref a] ∧ H a = some (.ins C dx fs) ∧ Q (.ref C) H) ∨ ∃ a ys, xs = [V.ref a] ∧ SqT K H a ys ∧ Q (.ty "tuple") H
theorem call_typX : CallR X (.type "type") (rTypX X.K) := by
  intro pins s σ H xs us Q I r h
  unfold rTypX at h
  rcases h with ⟨x, n, rfl, e, q⟩ | ⟨a, kvs, rfl, e, q⟩ | h | ⟨a, ys, rfl, e, q⟩
  · obtain ⟨u, rfl, rx⟩ := vals1 r
    exact rl_type pins s σ H x u Q I rx ⟨n, e, q⟩
  · obtain ⟨u, rfl, rx⟩ := vals1 r
    cases rx
    obtain ⟨_, _, vs, _, o, es, ep, h1, h2, _⟩ := (show ObjOk X.prog X.w H s.heap a (.dK kvs) from I.hok a _ e)
    exact call_type_of (Tx := "dict") ⟨o, h1, h2.1⟩ (by decide +kernel) ⟨.ty "dict", H, I, rfl, q⟩
  · exact cr_type pins s σ H xs us Q I r h
  · obtain ⟨u, rfl, rx⟩ := vals1 r
    cases rx
    obtain ⟨its, rv, p, _⟩ := I.tuple e
    exact call_type_of (Tx := "tuple") p.typeIs (by decide +kernel) ⟨.ty "tuple", H, I, rfl, q⟩
theorem typ_go {K : PySem.W.Frag} {H : Hp} {Q : VK} {x : V} {n : String} (e : zTyV x H = some n) (q : Q (.ty n) H) : rTypX K [x] H Q := by
  unfold rTypX
  exact .inl ⟨x, n, rfl, e, q⟩
theorem typ_goD {K : PySem.W.Frag} {H : Hp} {Q : VK} {a : Addr} {kvs : List (L2.Key × V)} (e : H a = some (.dK kvs)) (q : Q (.ty "dict") H) : rTypX K [.ref a] H Q := by
  unfold rTypX
  exact .inr (.inl ⟨a, kvs, rfl, e, q⟩)
theorem typ_goI {K : PySem.W.Frag} {H : Hp} {Q : VK} {a C dx : Addr} {fs : List (Str × V)} (e : H a = some (.ins C dx fs)) (q : Q (.ref C) H) : rTypX K [.ref a] H Q := by
  unfold rTypX
  exact .inr (.inr (.inl ⟨a, C, dx, fs, rfl, e, q⟩))
theorem typ_goT {K : PySem.W.Frag} {H : Hp} {Q : VK} {a : Addr} {ys : List V} (e : SqT K H a ys) (q : Q (.ty "tuple") H) : rTypX K [.ref a] H Q := by
  unfold rTypX
  exact .inr (.inr (.inr ⟨a, ys, rfl, e, q⟩))
/-- is, between classes: two built-in ones, or an own one and a built-in one -/
def rIsTyX : R2 := fun x y H Q => (∃ m n, x = .ty m ∧ y = .ty n ∧ Q (.bl (decide (m = n))) H) ∨ ∃ C n, x = .ref C ∧ y = .ty n ∧ Q (.bl false) H
theorem op_isTyX : OpR X (compareOp .Is) rIsTyX := by
  intro pins s σ H x y v u Q I rx ry h
  rcases h with h | ⟨C, n, rfl, rfl, q⟩
  · exact op_isTy pins s σ H x y v u Q I rx ry h
  · cases rx
    cases ry
    exact wpAny_is_other rfl (fun z => nomatch z) ⟨.bl false, H, I, rfl, q⟩
end
end Vk
namespace Vk
open PySem PySem.Spec PyProof.Rows L2
open C8 (pss_cut tCut)
def top (i : Nat) : Stmt := PySem.Challenge.pw_trothbase_k01_plain_and_same.main.body.getD i (.Pass ⟨0, 0, 0, 0⟩)
/-! ### the draws -/
/-- the loop of a draw: i quotients -/
def cutBy : Nat → Int → Int
  | 0, c => c
  | n + 1, c => cutBy n c / 100003
def drawOf (ns : List Int) (k : Int) : Int :=
  if ns = [] then k * 5 % 7
  else
    let c := ns.getD (k % (ns.length : Int)).toNat 0
    if c ≥ 1000000000000000000 then cutBy (if (60 : Int) < k / (ns.length : Int) then (60 : Int) else k / (ns.length : Int)).toNat c % 100003
    else (c * 48271 + k * 69621 + 13) % 2147483647 * 16807 % 2147483629
theorem drawOf_nn (ns : List Int) (k : Int) : 0 ≤ drawOf ns k := by
  unfold drawOf
  split
  · omega
  · dsimp only
    split <;> omega
theorem drawOf_lt (ns : List Int) (k : Int) : drawOf ns k < 2147483629 := by
  unfold drawOf
  split
  · omega
  · dsimp only
    split <;> omega
def spDraw (K : PySem.W.Frag) : Sp := fun vs H Q _ => ∃ (a : Addr) (ns : List Int) (k : Int), vs = [.ref a, .int k] ∧ SqL K H a (ns.map V.int) ∧ ns.length ≤ 63 ∧ 0 ≤ k ∧ k ≤ 1000000 ∧ Q (.int (drawOf ns k)) H
abbrev sDraw : Stmt := top 10
structure TDraw (mg : Str → Option Value) : Prop where
  len : mg "len" = none
  int : mg "int" = none
  min : mg "min" = none
  range : mg "range" = none
section
variable {P : Program} {w : World} {K : PySem.W.Frag} {mg : Str → Option Value} {base : Heap}
theorem scDraw : FnScope ["script", "k", "cell", "turn", "step"] ["script", "k"] (defScope sDraw) := ⟨rfl, rfl, rfl, by decide +kernel, rfl, by decide +kernel, by decide +kernel⟩
theorem ok_draw {f : Addr} {fd : FuncData} (F : Fun K "_law_draw" "_law_draw" sDraw f fd) (T : TDraw mg) : FnOk P w K mg base CX0 1 f fd ["script", "k"] (spDraw K) := by
  refine F.ok scDraw (fun vs H Q E h => ?_) (fun cdv A outer s H vs Q E hr h => ?_)
  · obtain ⟨a, ns, k, rfl, _⟩ := h
    rfl
  · obtain ⟨a, ns, k, rfl, hS, hl, hk0, hk, q⟩ := h
    refine ⟨_, pss_cons (ps_if (pt_not (pt_truth (pv 0) (by intro _; rfl))) (pss_one (ps_ret (pe_op op_mod (pe_op op_mul (pv 1) pe_int) pe_int))) pss_nil)
      (pss_cons (ps_set (i := 2) scDraw.nd rfl (Or.inl rfl) (pe_callTy call_int1 (by rfl) T.int (by decide +kernel) (pa_cons (pe_ix ix_list (pv 0) (pe_op op_mod (pv 1) (pe_callB call_len_seq (by rfl) T.len PySem.boot_len (pa_cons (pv 0) pa_nil))) (fun _ _ => rfl)) pa_nil)))
      (pss_cons (ps_set (i := 3) scDraw.nd rfl (Or.inl rfl) (pe_op op_fdiv (pv 1) (pe_callB call_len_seq (by rfl) T.len PySem.boot_len (pa_cons (pv 0) pa_nil))))
      (pss_cons (ps_if (pt_cmpR op_ge (pv 2) pe_int (nomark _))
        (pss_cons (ps_for PassesOwn.never rfl (pi_range1 rfl T.range (pa_cons (pe_callB (call_min2 rfl) (by rfl) T.min (by decide +kernel) (pa_cons (pv 3) (pa_cons pe_int pa_nil))) pa_nil)) (pg_name (i := 4) scDraw.nd rfl (Or.inl rfl))
          (pss_one (ps_set (i := 2) scDraw.nd rfl (Or.inl rfl) (pe_op op_fdiv (pv 2) pe_int))))
        (pss_one (ps_ret (pe_op op_mod (pv 2) pe_int)))) pss_nil)
      (pss_one (ps_ret (pe_op op_mod (pe_op op_mul (pe_op op_mod (pe_op op_add (pe_op op_add (pe_op op_mul (pv 2) pe_int) (pe_op op_mul (pv 1) pe_int)) pe_int) pe_int) pe_int) pe_int)))))), ?_⟩
    refine ⟨_, rfl, _, .inl ⟨_, hS, rfl⟩, ?_⟩
    cases ns with
    | nil =>
      refine iteT ?_
      refine ⟨_, rfl, _, _, rfl, rfl, .inr ⟨by decide, by decide⟩, _, _, rfl, rfl, (by show (0 : Int) < 7; decide), ?_⟩
      have e : drawOf [] k = k * 5 % 7 := by unfold drawOf; rw [if_pos rfl]
      rw [e] at q
      exact q
    | cons n0 nr =>
      refine iteF ?_
      have hlen : ((List.map V.int (n0 :: nr)).length : Int) = (((n0 :: nr).length : Nat) : Int) := by rw [List.length_map]
      have hpos : (0 : Int) < (((n0 :: nr).length : Nat) : Int) := by simp only [List.length_cons]; omega
      have hl2 : (((n0 :: nr).length : Nat) : Int) ≤ 63 := by omega
      have hm0 : 0 ≤ k % (((n0 :: nr).length : Nat) : Int) := Int.emod_nonneg _ (by omega)
      have hm1 : k % (((n0 :: nr).length : Nat) : Int) < (((n0 :: nr).length : Nat) : Int) := Int.emod_lt_of_pos _ hpos
      generalize hns : (n0 :: nr) = ns at hS hl hlen hpos hl2 hm0 hm1 q ⊢
      have hne : ns ≠ [] := by rw [← hns]; exact List.cons_ne_nil _ _
      have hat : atI (ns.map V.int) (k % ((ns.map V.int).length : Int)) = some (.int (ns.getD (k % (ns.length : Int)).toNat 0)) := by
        rw [hlen]
        have e1 : (k % (ns.length : Int)) = (((k % (ns.length : Int)).toNat : Nat) : Int) := by omega
        rw [e1]
        refine atI_nat ?_
        have h2 : (k % (ns.length : Int)).toNat < ns.length := by omega
        rw [Int.toNat_natCast, List.getElem?_map, List.getD_eq_getElem?_getD, List.getElem?_eq_getElem h2]
        rfl
      refine ⟨_, rfl, _, rfl, _, rfl, _, _, rfl, .inl hS, _, _, rfl, rfl, (by rw [hlen]; exact hpos), _, _, _, _, rfl, rfl, hS, hat, .inl ⟨_, rfl, ?_⟩⟩
      refine ⟨_, rfl, _, rfl, _, _, rfl, .inl hS, _, _, rfl, rfl, (by rw [hlen]; exact ⟨hpos, by omega⟩), ?_⟩
      rw [hlen]
      refine ⟨_, rfl, _, _, rfl, rfl, _, rfl, ?_⟩
      have hturn0 : 0 ≤ k / (ns.length : Int) := Int.ediv_nonneg hk0 (by omega)
      have hturn1 : k / (ns.length : Int) ≤ k := Int.ediv_le_self _ hk0
      unfold drawOf at q
      rw [if_neg hne] at q
      dsimp only at q
      by_cases hb : (1000000000000000000 : Int) ≤ ns.getD (k % (ns.length : Int)).toNat 0
      · rw [if_pos hb] at q
        rw [decide_eq_true hb]
        refine iteT ?_
        have b1 : -(2 ^ 62) ≤ (if (60 : Int) < k / (ns.length : Int) then (60 : Int) else k / (ns.length : Int)) := by split <;> omega
        have b2 : (if (60 : Int) < k / (ns.length : Int) then (60 : Int) else k / (ns.length : Int)) < 2 ^ 62 := by split <;> omega
        refine ⟨_, rfl, _, _, rfl, _, rfl, b1, b2, ?_⟩
        refine for_range (fun i σ H' => H' = H ∧ ∃ v, σ = [some (.ref a), some (.int k), some (.int (cutBy i (ns.getD (k % (ns.length : Int)).toNat 0))), some (.int (k / (ns.length : Int))), v]) ⟨rfl, none, rfl⟩ ?_ ?_
        · rintro i σ H' hi ⟨rfl, v, rfl⟩
          exact ⟨_, rfl, _, _, rfl, rfl, ⟨by decide, by decide⟩, rfl, _, rfl⟩
        · rintro σ H' ⟨rfl, v, rfl⟩
          exact ⟨_, rfl, _, _, rfl, rfl, (by show (0 : Int) < 100003; decide), q⟩
      · rw [if_neg hb] at q
        rw [decide_eq_false hb]
        refine iteF ?_
        exact ⟨_, rfl, _, _, rfl, rfl, .inr ⟨by decide, by decide⟩, _, rfl, _, _, rfl, rfl, .inr ⟨by decide, by decide⟩, _, _, rfl, rfl, _, _, rfl, rfl, _, _, rfl, rfl, (by show (0 : Int) < 2147483647; decide), _, _, rfl, rfl, .inr ⟨by decide, by decide⟩, _, _, rfl, rfl, (by show (0 : Int) < 2147483629; decide), q⟩

end
/-! # Values as trees of tuples over anything -/
inductive Tr where
  | leaf (v : V)
  | node (ts : List Tr)
/-- a value that is no tuple: one of the built-in kinds, a list, a dict, an instance -/
def Atom (H : Hp) : V → Prop
  | .non => True
  | .bl _ => True
  | .int _ => True
  | .str _ => True
  | .ref a => (∃ xs, H a = some (.lst xs)) ∨ (∃ kvs, H a = some (.dK kvs)) ∨ ∃ C dx fs, H a = some (.ins C dx fs)
  | _ => False
mutual
inductive Rp (K : PySem.W.Frag) (H : Hp) : V → Tr → Prop
  | leaf {v : V} : Atom H v → Rp K H v (.leaf v)
  | node {a : Addr} {vs : List V} {ts : List Tr} : SqT K H a vs → RpAll K H vs ts → Rp K H (.ref a) (.node ts)
inductive RpAll (K : PySem.W.Frag) (H : Hp) : List V → List Tr → Prop
  | nil : RpAll K H [] []
  | cons {v : V} {vs : List V} {t : Tr} {ts : List Tr} : Rp K H v t → RpAll K H vs ts → RpAll K H (v :: vs) (t :: ts)
end
theorem atom_same {H H' : Hp} (s : Same H H') {v : V} (h : Atom H v) : Atom H' v := by
  cases v with
  | ref a =>
    rcases h with ⟨xs, e⟩ | ⟨kvs, e⟩ | ⟨C, dx, fs, e⟩
    · exact .inl ⟨xs, s _ _ e⟩
    · exact .inr (.inl ⟨kvs, s _ _ e⟩)
    · exact .inr (.inr ⟨C, dx, fs, s _ _ e⟩)
  | non => trivial
  | bl b => trivial
  | int i => trivial
  | str x => trivial
  | byt b => exact h
  | flt b => exact h
  | ty n => exact h
mutual
theorem rp_same {K : PySem.W.Frag} {H H' : Hp} (s : Same H H') : ∀ (t : Tr) (v : V), Rp K H v t → Rp K H' v t
  | .leaf w, _, h => by
    cases h with
    | leaf a => exact .leaf (atom_same s a)
  | .node ts, _, h => by
    cases h with
    | node e a => exact .node ((keepT_of s).seq e) (rp_sameAll s ts _ a)
theorem rp_sameAll {K : PySem.W.Frag} {H H' : Hp} (s : Same H H') : ∀ (ts : List Tr) (vs : List V), RpAll K H vs ts → RpAll K H' vs ts
  | [], _, h => by cases h; exact .nil
  | t :: ts, _, h => by
    cases h with
    | cons h1 h2 => exact .cons (rp_same s t _ h1) (rp_sameAll s ts _ h2)
end
theorem rp_len {K : PySem.W.Frag} {H : Hp} : ∀ {vs : List V} {ts : List Tr}, RpAll K H vs ts → vs.length = ts.length
  | _, _, .nil => rfl
  | _, _, .cons _ b => congrArg Nat.succ (rp_len b)
theorem rp_at {K : PySem.W.Frag} {H : Hp} : ∀ {vs : List V} {ts : List Tr} {i : Nat} {v : V}, RpAll K H vs ts → vs[i]? = some v → ∃ t, ts[i]? = some t ∧ Rp K H v t
  | _, _, _, _, .nil, h => by simp at h
  | _, _, 0, _, .cons a _, h => by simp at h; subst h; exact ⟨_, rfl, a⟩
  | _, _, i + 1, _, .cons _ b, h => by
    obtain ⟨t, e, q⟩ := rp_at (i := i) b (by simpa using h)
    exact ⟨t, by simpa using e, q⟩
theorem rp_app {K : PySem.W.Frag} {H : Hp} : ∀ {xs ys : List V} {ds es : List Tr}, RpAll K H xs ds → RpAll K H ys es → RpAll K H (xs ++ ys) (ds ++ es)
  | _, _, _, _, .nil, h => h
  | _, _, _, _, .cons a b, h => .cons a (rp_app b h)
mutual
def sizeT : Tr → Nat
  | .leaf _ => 1
  | .node ts => 1 + sizeTs ts
def sizeTs : List Tr → Nat
  | [] => 0
  | t :: ts => sizeT t + sizeTs ts
end
theorem size_pos : ∀ t : Tr, 1 ≤ sizeT t
  | .leaf _ => by simp [sizeT]
  | .node ts => by simp only [sizeT]; omega
def plainV : V → Bool
  | .non => true
  | .bl _ => true
  | .int i => decide (-(10 ^ 60) < i) && decide (i < 10 ^ 60)
  | .str _ => true
  | _ => false
mutual
/-- plain, with n tuples around -/
def plainT (n : Nat) : Tr → Bool
  | .leaf v => plainV v
  | .node ts => decide (n < 30) && plainTs (n + 1) ts
def plainTs (n : Nat) : List Tr → Bool
  | [] => true
  | t :: ts => plainT n t && plainTs n ts
end
theorem sizeTs_len : ∀ ts : List Tr, ts.length ≤ sizeTs ts
  | [] => Nat.le_refl _
  | t :: ts => by
    have := size_pos t
    have := sizeTs_len ts
    simp only [sizeTs, List.length_cons]
    omega
theorem plainTs_all (n : Nat) : ∀ ts : List Tr, plainTs n ts = ts.all (plainT n)
  | [] => rfl
  | t :: ts => by simp only [plainTs, List.all_cons, plainTs_all n ts]
/-! # is_plain -/
structure T1 (mg : Str → Option Value) (tb tm : Tok) : Prop where
  type : mg "type" = none
  tuple : mg "tuple" = none
  int : mg "int" = none
  bool : mg "bool" = none
  str : mg "str" = none
  len : mg "len" = none
  list : mg "list" = none
  zip : mg "zip" = none
  range : mg "range" = none
  max : mg "max" = none
  isinstance : mg "isinstance" = none
  mg_INTEGER_BOUND : mg "INTEGER_BOUND" = some (.int (10 ^ 60) tb)
  mg_MOST_TUPLES : mg "MOST_TUPLES" = some (.int 30 tm)
/-- what type() says of a value that is no tuple -/
theorem typ_atom {K : PySem.W.Frag} {H : Hp} {v : V} {Q : VK} (h : Atom H v) (q : ∀ c, (∃ n, c = .ty n ∧ n ≠ "tuple" ∧ (n = "int" ↔ ∃ i, v = .int i) ∧ (n = "bool" ↔ ∃ b, v = .bl b) ∧ (n = "str" ↔ ∃ x, v = .str x)) ∨ ((∃ C, c = .ref C) ∧ ∃ a, v = .ref a) → Q c H) : rTypX K [v] H Q := by
  cases v with
  | non => exact typ_go rfl (q _ (.inl ⟨_, rfl, by decide, by simp, by simp, by simp⟩))
  | bl b => exact typ_go rfl (q _ (.inl ⟨_, rfl, by decide, by simp, by simp, by simp⟩))
  | int i => exact typ_go rfl (q _ (.inl ⟨_, rfl, by decide, by simp, by simp, by simp⟩))
  | str x => exact typ_go rfl (q _ (.inl ⟨_, rfl, by decide, by simp, by simp, by simp⟩))
  | ref a =>
    rcases h with ⟨xs, e⟩ | ⟨kvs, e⟩ | ⟨C, dx, fs, e⟩
    · exact typ_go (n := "list") (by simp [zTyV, e]) (q _ (.inl ⟨_, rfl, by decide, by simp, by simp, by simp⟩))
    · exact typ_goD e (q _ (.inl ⟨_, rfl, by decide, by simp, by simp, by simp⟩))
    · exact typ_goI e (q _ (.inr ⟨⟨_, rfl⟩, _, rfl⟩))
  | byt b => exact h.elim
  | flt b => exact h.elim
  | ty n => exact h.elim
theorem typ_tup {K : PySem.W.Frag} {H : Hp} {a : Addr} {vs : List V} {Q : VK} (h : SqT K H a vs) (q : Q (.ty "tuple") H) : rTypX K [.ref a] H Q := typ_goT h q
section
variable {P : Program} {w : World} {K : PySem.W.Frag} {mg : Str → Option Value} {base : Heap}
def isIntV : V → Bool
  | .int _ => true
  | _ => false
def spInteger (K : PySem.W.Frag) : Sp := fun vs H Q _ => ∃ v, vs = [v] ∧ (Atom H v ∨ ∃ a vs, v = .ref a ∧ SqT K H a vs) ∧ Q (.bl (isIntV v)) H
abbrev s_is_integer : Stmt := top 6
theorem sc_is_integer : FnScope ["value"] ["value"] (defScope s_is_integer) := ⟨rfl, rfl, rfl, by decide +kernel, rfl, by decide +kernel, by decide +kernel⟩
theorem ok_is_integer {tb tm : Tok} {f : Addr} {fd : FuncData} (F : Fun K "is_integer" "is_integer" s_is_integer f fd) (T : T1 mg tb tm) : FnOk P w K mg base CX0 1 f fd ["value"] (spInteger K) := by
  refine F.ok sc_is_integer (fun vs H Q E h => ?_) (fun cdv A outer s H vs Q E hr h => ?_)
  · obtain ⟨v, rfl, _⟩ := h
    rfl
  · obtain ⟨v, rfl, ha, q⟩ := h
    refine ⟨_, (pss_one (ps_ret (pe_cmpR op_isTyX (pe_callTy call_typX (by rfl) T.type bo_type (pa_cons (pv 0) pa_nil)) (pe_bltn (v := .ty "int") (by rfl) T.int (by decide +kernel) rfl) (nomark _)))), ?_⟩
    refine ⟨_, rfl, ?_⟩
    rcases ha with ha | ⟨a, us, rfl, ha⟩
    · refine typ_atom ha (fun c hc => ?_)
      rcases hc with ⟨n, rfl, _, hi, _⟩ | ⟨⟨C, rfl⟩, a, rfl⟩
      · refine .inl ⟨_, _, rfl, rfl, ?_⟩
        have e : decide (n = "int") = isIntV v := by
          by_cases c : n = "int"
          · obtain ⟨i, rfl⟩ := hi.mp c
            rw [decide_eq_true c]
            rfl
          · rw [decide_eq_false c]
            cases v with
            | int i => exact absurd (hi.mpr ⟨i, rfl⟩) c
            | _ => rfl
        rw [e]
        exact q
      · exact .inr ⟨_, _, rfl, rfl, q⟩
    · exact typ_tup ha (.inl ⟨_, _, rfl, rfl, q⟩)
def spAtom : Sp := fun vs H Q _ => ∃ v, vs = [v] ∧ Atom H v ∧ Q (.bl (plainV v)) H
abbrev s_atom : Stmt := top 5
theorem sc_atom : FnScope ["value"] ["value"] (defScope s_atom) := ⟨rfl, rfl, rfl, by decide +kernel, rfl, by decide +kernel, by decide +kernel⟩
theorem ok_atom {tb tm : Tok} {f fi : Addr} {fd fdi : FuncData} (F : Fun K "_is_plain_atom" "_is_plain_atom" s_atom f fd) (T : T1 mg tb tm) (C_is_integer : Cal P w K mg base "is_integer" 1 fi fdi ["value"] (spInteger K)) : FnOk P w K mg base CX0 2 f fd ["value"] spAtom := by
  refine F.ok sc_atom (fun vs H Q E h => ?_) (fun cdv A outer s H vs Q E hr h => ?_)
  · obtain ⟨v, rfl, _⟩ := h
    rfl
  · obtain ⟨v, rfl, ha, q⟩ := h
    refine ⟨_, (pss_cons (ps_if (pt_val (pe_call C_is_integer.G (hr.mono (by decide)) rfl C_is_integer.mg C_is_integer.kp C_is_integer.B .nil pass0 (pa_cons (pv 0) pa_nil))) (pss_one (ps_ret (pe_chain op_lt op_lt (pe_un un_neg (pe_glob (v := .int (10 ^ 60)) rfl T.mg_INTEGER_BOUND ⟨_, rfl⟩)) (pv 0) (pe_glob (v := .int (10 ^ 60)) rfl T.mg_INTEGER_BOUND ⟨_, rfl⟩)))) pss_nil)
  (pss_one (ps_ret (pe_or (pe_cmpR op_isN (pv 0) pe_non (nomark _)) (pe_or (pe_cmpR op_isTyX (pe_callTy call_typX (by rfl) T.type bo_type (pa_cons (pv 0) pa_nil)) (pe_bltn (v := .ty "bool") (by rfl) T.bool (by decide +kernel) rfl) (nomark _)) (pe_one (pe_cmpR op_isTyX (pe_callTy call_typX (by rfl) T.type bo_type (pa_cons (pv 0) pa_nil)) (pe_bltn (v := .ty "str") (by rfl) T.str (by decide +kernel) rfl) (nomark _)))))))), ?_⟩
    refine ⟨_, rfl, v, rfl, .inl ha, _, rfl, ?_⟩
    cases v with
    | int i =>
      refine iteT ?_
      refine ⟨_, rfl, _, rfl, _, _, rfl, rfl, _, rfl, ?_⟩
      by_cases c : -(10 ^ 60) < i
      · refine ifT (decide_eq_true c) ?_
        refine ⟨_, _, rfl, rfl, ?_⟩
        have e : plainV (.int i) = decide (i < 10 ^ 60) := by
          show (decide (-(10 ^ 60) < i) && decide (i < 10 ^ 60)) = _
          rw [decide_eq_true c, Bool.true_and]
        rw [e] at q
        exact q
      · refine ifF (decide_eq_false c) ?_
        have e : plainV (.int i) = false := by
          show (decide (-(10 ^ 60) < i) && decide (i < 10 ^ 60)) = _
          rw [decide_eq_false c, Bool.false_and]
        rw [e] at q
        exact q
    | non => exact iteF ⟨_, rfl, rfl, _, rfl, iteT q⟩
    | bl b =>
      refine iteF ⟨_, rfl, rfl, _, rfl, iteF ⟨_, rfl, typ_go rfl (.inl ⟨_, _, rfl, rfl, _, rfl, iteT q⟩)⟩⟩
    | str x =>
      refine iteF ⟨_, rfl, rfl, _, rfl, iteF ⟨_, rfl, typ_go rfl (.inl ⟨_, _, rfl, rfl, _, rfl, iteF ?_⟩)⟩⟩
      exact ⟨_, rfl, typ_go rfl (.inl ⟨_, _, rfl, rfl, q⟩)⟩
    | ref a =>
      refine iteF ⟨_, rfl, rfl, _, rfl, iteF ⟨_, rfl, typ_atom ha (fun c hc => ?_)⟩⟩
      rcases hc with ⟨n, rfl, _, _, hb, hs⟩ | ⟨⟨C, rfl⟩, _⟩
      · have nb : ¬ n = "bool" := fun z => by obtain ⟨b, e⟩ := hb.mp z; cases e
        refine .inl ⟨_, _, rfl, rfl, _, rfl, ifF (decide_eq_false nb) ⟨_, rfl, typ_atom ha (fun c hc => ?_)⟩⟩
        rcases hc with ⟨n, rfl, _, _, hb, hs⟩ | ⟨⟨C, rfl⟩, _⟩
        · have ns : ¬ n = "str" := fun z => by obtain ⟨x, e⟩ := hs.mp z; cases e
          refine .inl ⟨_, _, rfl, rfl, ?_⟩
          rw [decide_eq_false ns]
          exact q
        · exact .inr ⟨_, _, rfl, rfl, q⟩
      · refine .inr ⟨_, _, rfl, rfl, _, rfl, iteF ⟨_, rfl, typ_atom ha (fun c hc => ?_)⟩⟩
        rcases hc with ⟨n, rfl, _, _, hb, hs⟩ | ⟨⟨C, rfl⟩, _⟩
        · have ns : ¬ n = "str" := fun z => by obtain ⟨x, e⟩ := hs.mp z; cases e
          refine .inl ⟨_, _, rfl, rfl, ?_⟩
          rw [decide_eq_false ns]
          exact q
        · exact .inr ⟨_, _, rfl, rfl, q⟩
    | byt b => exact ha.elim
    | flt b => exact ha.elim
    | ty n => exact ha.elim
end
end Vk
namespace Vk
open PySem PySem.Spec PyProof.Rows L2
open C8 (pss_cut tCut)
/-- an entry of the stack: where its pair stands, the value, the tuples around it, the tree -/
abbrev Ent := Addr × V × Nat × Tr
def sizeE : List Ent → Nat
  | [] => 0
  | e :: r => sizeT e.2.2.2 + sizeE r
theorem sizeE_app : ∀ a b : List Ent, sizeE (a ++ b) = sizeE a + sizeE b
  | [], b => by simp [sizeE]
  | e :: r, b => by simp only [List.cons_append, sizeE, sizeE_app r b]; omega
theorem sizeE_len : ∀ a : List Ent, a.length ≤ sizeE a
  | [] => Nat.le_refl _
  | e :: r => by
    have := size_pos e.2.2.2
    have := sizeE_len r
    simp only [sizeE, List.length_cons]
    omega
/-- the entries stand in the heap -/
def EntsAt (K : PySem.W.Frag) (H H2 : Hp) (es : List Ent) : Prop := ∀ e ∈ es, H2 e.1 = some (.tup [e.2.1, .int (e.2.2.1 : Nat)]) ∧ Rp K H e.2.1 e.2.2.2 ∧ e.2.2.1 ≤ 30
def allE (es : List Ent) : Bool := es.all fun e => plainT e.2.2.1 e.2.2.2
theorem allE_app (a b : List Ent) : allE (a ++ b) = (allE a && allE b) := by unfold allE; exact List.all_append
section
variable {P : Program} {w : World} {K : PySem.W.Frag} {mg : Str → Option Value} {base : Heap}
def PlInv (K : PySem.W.Frag) (H : Hp) (v : V) (t : Tr) (L : Addr) (m : Nat) (σ : L2.St) (H2 : Hp) : Prop := ∃ (x2 x3 x4 : Option V) (es : List Ent), σ = [some v, some (.ref L), x2, x3, x4] ∧ Same H H2 ∧ H2 L = some (.lst (es.map fun e => V.ref e.1)) ∧ EntsAt K H H2 es ∧ plainT 0 t = allE es ∧ sizeE es = m ∧ m ≤ 100000
def spPlain (K : PySem.W.Frag) : Sp := fun vs H Q _ => ∃ v t, vs = [v] ∧ Rp K H v t ∧ sizeT t ≤ 100000 ∧ ∀ H', Same H H' → Q (.bl (plainT 0 t)) H'
abbrev s_is_plain : Stmt := top 4
theorem sc_is_plain : FnScope ["value", "waiting", "part", "around", "inner"] ["value"] (defScope s_is_plain) := ⟨rfl, rfl, rfl, by decide +kernel, rfl, by decide +kernel, by decide +kernel⟩
theorem ok_is_plain {tb tm : Tok} {f fa : Addr} {fd fda : FuncData} (F : Fun K "is_plain" "is_plain" s_is_plain f fd) (T : T1 mg tb tm) (C_atom : Cal P w K mg base "_is_plain_atom" 2 fa fda ["value"] spAtom) : FnOk P w K mg base CX0 3 f fd ["value"] (spPlain K) := by
  refine F.ok sc_is_plain (fun vs H Q E h => ?_) (fun cdv A outer s H vs Q E hr h => ?_)
  · obtain ⟨v, t, rfl, _⟩ := h
    rfl
  · obtain ⟨v, t, rfl, hv, sz, q⟩ := h
    refine ⟨_, (pss_cons (ps_set (i := 1) sc_is_plain.nd rfl (Or.inl rfl) (pe_lst (pa_cons (pe_tup (pa_cons (pv 0) (pa_cons pe_int pa_nil))) pa_nil)))
  (pss_cons (ps_while PassesOwn.never (pt_truth (pv 1) (by intro _; rfl))
  (pss_cons (ps_asg (pe_bm0 PySem.F.plainAttrs_list PySem.F.slot_list_pop PySem.F.type_list_pop mt_pop (pv 1)) (pg_tup rfl (pgs_cons (pg_name (i := 2) sc_is_plain.nd rfl (Or.inl rfl)) (pgs_cons (pg_name (i := 3) sc_is_plain.nd rfl (Or.inr rfl)) pgs_nil))))
  (pss_one (ps_if (pt_cmpR op_isTyX (pe_callTy call_typX (by rfl) T.type bo_type (pa_cons (pv 2) pa_nil)) (pe_bltn (v := .ty "tuple") (by rfl) T.tuple (by decide +kernel) rfl) (nomark _)) (pss_cons (ps_if (pt_cmpR op_eq (pv 3) (pe_glob (v := .int 30) rfl T.mg_MOST_TUPLES ⟨_, rfl⟩) (nomark _)) (pss_one (ps_ret pe_bl)) pss_nil)
  (pss_one (ps_expr (pe_bm PySem.F.plainAttrs_list PySem.F.slot_list_extend PySem.F.type_list_extend mt_extend (pv 1) (pa_cons (pe_lc (own := [("inner", 4)]) (g := gName 4) (tt := tYes) rfl sc_is_plain.nd (pi_tup (pv 2)) (blkOk_by (N := ["value", "waiting", "part", "around", "inner"]) (sc := defScope s_is_plain) (by decide +kernel)) (fun _ _ _ _ _ => pg_name (i := 4) sc_is_plain.nd rfl (Or.inl rfl)) (fun _ _ _ _ _ => pts_nil) (fun _ _ _ _ _ => (pe_tup (pa_cons (pv 4) (pa_cons (pe_op op_add (pv 3) pe_int) pa_nil))))) pa_nil))))) (pss_one (ps_if (pt_not (pt_val (pe_call C_atom.G (hr.mono (by decide)) rfl C_atom.mg C_atom.kp C_atom.B .nil pass0 (pa_cons (pv 2) pa_nil)))) (pss_one (ps_ret pe_bl)) pss_nil))))))
  (pss_one (ps_ret pe_bl)))), ?_⟩
    have line : (sizeLine : Nat) = 16777216 := by decide +kernel
    refine ⟨_, rfl, by show 2 ≤ sizeLine; omega, fun T0 hT0 => ⟨by show 1 ≤ sizeLine; omega, fun L hL => ?_⟩⟩
    have n0 : T0 ≠ L := ne_of_none upd_same hL
    have sm0 : Same H (upd (upd H T0 (.tup [v, .int 0])) L (.lst [.ref T0])) := (same_new hT0).trans (same_new hL)
    have hLH : H L = none := by
      cases e : H L with
      | none => rfl
      | some o =>
        have := same_new (o := .tup [v, .int 0]) hT0 _ _ e
        rw [hL] at this
        cases this
    refine ⟨PlInv K H v t L,
      ⟨sizeT t, none, none, none, [(T0, v, 0, t)], rfl, sm0, upd_same, ?_, by simp [allE], by simp [sizeE], sz⟩, ?_⟩
    · intro e he
      rw [List.mem_singleton.mp he]
      exact ⟨by rw [upd_ne n0]; exact upd_same, hv, Nat.zero_le _⟩
    rintro m σ H2 ⟨x2, x3, x4, es, rfl, sm, hL2, hE, eq, hm, mle⟩
    refine ⟨_, rfl, _, .inl ⟨_, SqL.of hL2, rfl⟩, ?_⟩
    rcases List.eq_nil_or_concat es with rfl | ⟨es', e, hcc⟩
    · refine iteF ?_
      have z : plainT 0 t = true := eq
      have := q H2 sm
      rw [z] at this
      exact this
    · rw [List.concat_eq_append] at hcc
      subst hcc
      refine ifT (by simp) ?_
      refine ⟨fun σ' H' => ∃ m', m' < m ∧ PlInv K H v t L m' σ' H', fun σ' H' h => h, ?_⟩
      obtain ⟨he1, he2, he3⟩ := hE e (by simp)
      have hE' : EntsAt K H H2 es' := fun y hy => hE y (by simp [hy])
      rw [sizeE_app] at hm
      simp only [sizeE] at hm
      rw [allE_app] at eq
      have eq1 : allE [e] = plainT e.2.2.1 e.2.2.2 := by simp [allE]
      rw [eq1] at eq
      have lmap : (es' ++ [e]).map (fun e => V.ref e.1) = es'.map (fun e => V.ref e.1) ++ [V.ref e.1] := by rw [List.map_append]; rfl
      have hlast : ((es' ++ [e]).map (fun e => V.ref e.1))[((es' ++ [e]).map (fun e => V.ref e.1)).length - 1]? = some (.ref e.1) := by
        rw [lmap]
        simp
      have hdrop : ((es' ++ [e]).map (fun e => V.ref e.1)).dropLast = es'.map (fun e => V.ref e.1) := by
        rw [lmap, List.dropLast_concat]
      have nE : ∀ y : Ent, H2 y.1 = some (.tup [y.2.1, .int (y.2.2.1 : Nat)]) → y.1 ≠ L := fun y hy => ne_of hy hL2 (by intro z; cases z)
      have sm3 : ∀ {o : HO}, Same H (upd H2 L o) := fun {o} b u z => by
        rw [upd_ne (ne_of_none z hLH)]
        exact sm b u z
      -- part, around = waiting.pop()
      refine ⟨_, rfl, .inl ⟨rfl, _, SqL.of hL2⟩, L, _, _, rfl, rfl, hL2, hlast, ?_⟩
      rw [hdrop]
      have he1' : (upd H2 L (.lst (es'.map fun e => V.ref e.1))) e.1 = some (.tup [e.2.1, .int (e.2.2.1 : Nat)]) := by rw [upd_ne (nE e he1)]; exact he1
      refine ⟨e.1, _, rfl, SqT.of he1', rfl, _, _, rfl, _, _, rfl, rfl, ?_⟩
      have hE3 : EntsAt K H (upd H2 L (.lst (es'.map fun e => V.ref e.1))) es' := fun y hy => by
        obtain ⟨a1, a2⟩ := hE' y hy
        exact ⟨by rw [upd_ne (nE y a1)]; exact a1, a2⟩
      have rp3 := rp_same (sm3 (o := .lst (es'.map fun e => V.ref e.1))) _ _ he2
      generalize hH3 : upd H2 L (.lst (es'.map fun e => V.ref e.1)) = H3 at rp3 hE3 he1' ⊢
      have sm3' : Same H H3 := by rw [← hH3]; exact sm3
      have hL3 : H3 L = some (.lst (es'.map fun e => V.ref e.1)) := by rw [← hH3]; exact upd_same
      obtain ⟨a0, pv0, n, tr⟩ := e
      dsimp only at he1 he2 he3 rp3 he1' eq hm ⊢
      refine ⟨_, rfl, ?_⟩
      cases he2 with
      | leaf ha =>
        have ha3 := atom_same sm3' ha
        have ls : sizeT (Tr.leaf pv0) = 1 := by simp [sizeT]
        rw [ls] at hm
        have el : plainT n (.leaf pv0) = plainV pv0 := by simp [plainT]
        rw [el] at eq
        refine typ_atom ha3 (fun c hc => ?_)
        rcases hc with ⟨nm, rfl, nt, _⟩ | ⟨⟨C, rfl⟩, _⟩
        · refine .inl ⟨_, _, rfl, rfl, _, rfl, ifF (decide_eq_false nt) ?_⟩
          refine ⟨_, rfl, pv0, rfl, ha3, _, rfl, ?_⟩
          cases pl : plainV pv0 with
          | true =>
            refine iteF ?_
            refine ⟨sizeE es', by omega, _, _, _, es', rfl, sm3', hL3, hE3, by rw [eq, pl, Bool.and_true], rfl, by omega⟩
          | false =>
            refine iteT ?_
            have := q H3 sm3'
            rw [eq, pl, Bool.and_false] at this
            exact this
        · refine .inr ⟨_, _, rfl, rfl, _, rfl, iteF ?_⟩
          refine ⟨_, rfl, pv0, rfl, ha3, _, rfl, ?_⟩
          cases pl : plainV pv0 with
          | true =>
            refine iteF ?_
            refine ⟨sizeE es', by omega, _, _, _, es', rfl, sm3', hL3, hE3, by rw [eq, pl, Bool.and_true], rfl, by omega⟩
          | false =>
            refine iteT ?_
            have := q H3 sm3'
            rw [eq, pl, Bool.and_false] at this
            exact this
      | @node a us ts hu ha =>
        have hu3 := (keepT_of sm3').seq hu
        refine typ_tup hu3 (.inl ⟨_, _, rfl, rfl, _, rfl, iteT ?_⟩)
        refine ⟨_, rfl, rfl, _, rfl, ?_⟩
        have en : plainT n (.node ts) = (decide (n < 30) && plainTs (n + 1) ts) := by simp [plainT]
        have ls : sizeT (Tr.node ts) = 1 + sizeTs ts := by simp [sizeT]
        rw [ls] at hm
        rw [en] at eq
        by_cases c : n = 30
        · have c2 : (V.int (n : Nat)) = V.int 30 := by rw [c]; rfl
          refine ifT (decide_eq_true c2) ?_
          have := q H3 sm3'
          rw [eq, decide_eq_false (by omega : ¬ n < 30), Bool.false_and, Bool.and_false] at this
          exact this
        · have c2 : ¬ (V.int (n : Nat)) = V.int 30 := fun z => c (by have := V.int.inj z; omega)
          refine ifF (decide_eq_false c2) ?_
          rw [decide_eq_true (by omega : n < 30), Bool.true_and] at eq
          refine ⟨_, rfl, .inl ⟨rfl, _, SqL.of hL3⟩, ?_⟩
          refine ⟨_, rfl, a, rfl, ⟨us, hu3⟩, fun D hD => ?_⟩
          have lu := rp_len ha
          have lts := sizeTs_len ts
          have sD : Same H3 (upd H3 D (.lst [])) := same_new hD
          refine lc_tup (K := K) (a := a) (xs := us) (fun i H4 => Same H3 H4 ∧ ∃ ns : List Ent, H4 D = some (.lst (ns.map fun e => V.ref e.1)) ∧ EntsAt K H H4 ns ∧ allE ns = plainTs (n + 1) (ts.take i) ∧ sizeE ns = sizeTs (ts.take i) ∧ ns.length = i)
            ⟨sD, [], upd_same, fun e h => absurd h List.not_mem_nil, by simp [allE, plainTs], by simp [sizeE, sizeTs], rfl⟩ (fun i H4 _ ⟨s4, _⟩ => (keepT_of s4).seq hu3) ?_ ?_
          · rintro i y H4 hi ⟨s4, ns, hD4, hN, al, szn, ln⟩
            obtain ⟨ty, ety, hty⟩ := rp_at ha hi
            have hil := (List.getElem?_eq_some_iff.mp hi).1
            refine ⟨rfl, _, rfl, _, rfl, _, _, rfl, rfl, by show 2 ≤ sizeLine; omega, fun T hT => ?_⟩
            have nT : D ≠ T := ne_of_none hD4 hT
            refine ⟨ns.map fun e => V.ref e.1, by rw [upd_ne nT]; exact hD4, by rw [List.length_map]; omega, fun b o z => ?_, ns ++ [(T, y, n + 1, ty)], ?_, ?_, ?_, ?_, ?_⟩
            · have z4 := s4 b o z
              rw [upd_ne (ne_of_none z hD), upd_ne (ne_of_none z4 hT)]
              exact z4
            · rw [upd_same, List.map_append]
              rfl
            · intro e he
              rcases List.mem_append.mp he with h | h
              · obtain ⟨b1, b2⟩ := hN e h
                refine ⟨?_, b2⟩
                rw [upd_ne (ne_of b1 hD4 (by intro z; cases z)), upd_ne (ne_of_none b1 hT)]
                exact b1
              · rw [List.mem_singleton.mp h]
                refine ⟨?_, hty, by show n + 1 ≤ 30; omega⟩
                show (upd (upd H4 T _) D _) T = _
                rw [upd_ne nT.symm, upd_same]
                show some (HO.tup [y, V.int ((n : Int) + 1)]) = some (HO.tup [y, V.int ((n + 1 : Nat) : Int)])
                have e1 : ((n : Nat) : Int) + 1 = ((n + 1 : Nat) : Int) := by omega
                rw [e1]
            · rw [allE_app, al, take_next ety, plainTs_all, plainTs_all, List.all_append]
              simp [allE]
            · rw [sizeE_app, szn, take_next ety]
              have app : ∀ (l : List Tr) (t : Tr), sizeTs (l ++ [t]) = sizeTs l + sizeT t := by
                intro l t
                induction l with
                | nil => simp [sizeTs]
                | cons h r ih => simp only [List.cons_append, sizeTs, ih]; omega
              rw [app]
              simp [sizeE]
            · rw [List.length_append, ln]
              rfl
          · rintro H4 ⟨s4, ns, hD4, hN, al, szn, ln⟩
            rw [lu, List.take_length] at al szn
            have hL4 := s4 _ _ hL3
            have le' := sizeE_len es'
            have ln' := sizeE_len ns
            refine ⟨L, D, _, _, rfl, rfl, hL4, hD4, by rw [List.length_map, List.length_map]; omega, ?_⟩
            have nDL : D ≠ L := fun z => by
              subst z
              rw [hL3] at hD
              cases hD
            refine ⟨sizeE (es' ++ ns), ?_, _, _, _, es' ++ ns, rfl, fun b o z => ?_, by rw [upd_same, List.map_append], ?_, ?_, rfl, ?_⟩
            · rw [sizeE_app]
              omega
            · rw [upd_ne (ne_of_none z hLH)]
              exact s4 b o (sm3' b o z)
            · intro e he
              rcases List.mem_append.mp he with h | h
              · obtain ⟨b1, b2⟩ := hE3 e h
                refine ⟨?_, b2⟩
                have b3 := s4 _ _ b1
                rw [upd_ne (ne_of b3 hL4 (by intro z; cases z))]
                exact b3
              · obtain ⟨b1, b2⟩ := hN e h
                refine ⟨?_, b2⟩
                rw [upd_ne (ne_of b1 hL4 (by intro z; cases z))]
                exact b1
            · rw [allE_app, al]
              exact eq
            · rw [sizeE_app]
              omega
end
end Vk
namespace Vk
open PySem PySem.Spec PyProof.Rows L2
open C8 (pss_cut tCut)
def scalV : V → Bool
  | .non => true
  | .bl _ => true
  | .int _ => true
  | .str _ => true
  | _ => false
mutual
def scT : Tr → Bool
  | .leaf v => scalV v
  | .node ts => scTs ts
def scTs : List Tr → Bool
  | [] => true
  | t :: ts => scT t && scTs ts
end
mutual
def eqT : Tr → Tr → Bool
  | .leaf v, .leaf u => decide (v = u)
  | .node ts, .node us => eqTs ts us
  | _, _ => false
def eqTs : List Tr → List Tr → Bool
  | [], [] => true
  | t :: ts, u :: us => eqT t u && eqTs ts us
  | _, _ => false
end
def kindT : Tr → String
  | .leaf .non => "NoneType"
  | .leaf (.bl _) => "bool"
  | .leaf (.int _) => "int"
  | .leaf (.str _) => "str"
  | .leaf _ => "none"
  | .node _ => "tuple"
theorem kind_is {K : PySem.W.Frag} {H : Hp} {v : V} {t : Tr} (h : Rp K H v t) (s : scT t = true) {Q : VK} (q : Q (.ty (kindT t)) H) : rTypX K [v] H Q := by
  cases h with
  | leaf a =>
    cases v with
    | non => exact typ_go rfl q
    | bl b => exact typ_go rfl q
    | int i => exact typ_go rfl q
    | str x => exact typ_go rfl q
    | _ => simp [scT, scalV] at s
  | node e a => exact typ_goT e q
theorem eqT_kind : ∀ {t u : Tr}, scT t = true → scT u = true → kindT t ≠ kindT u → eqT t u = false := by
  intro t u h1 h2 n
  cases t with
  | leaf v =>
    cases u with
    | leaf x =>
      simp only [eqT]
      refine decide_eq_false (fun z => n (by rw [z]))
    | node us => rfl
  | node ts =>
    cases u with
    | leaf x => rfl
    | node us => exact absurd rfl n
theorem kind_tup {t : Tr} (h : scT t = true) : kindT t = "tuple" ↔ ∃ ts, t = .node ts := by
  cases t with
  | leaf v =>
    constructor
    · intro e
      cases v <;> first | (simp [scT, scalV] at h; done) | (simp [kindT] at e; done)
    · rintro ⟨ts, e⟩
      cases e
  | node ts => exact ⟨fun _ => ⟨ts, rfl⟩, fun _ => rfl⟩
theorem eqTs_len : ∀ (ts us : List Tr), ts.length ≠ us.length → eqTs ts us = false
  | [], [], h => absurd rfl h
  | [], _ :: _, _ => rfl
  | _ :: _, [], _ => rfl
  | t :: ts, u :: us, h => by
    have ih := eqTs_len ts us (fun z => h (congrArg Nat.succ z))
    simp [eqTs, ih]
/-- an entry: where its pair stands, the two values, their trees -/
abbrev Ent2 := Addr × (V × V) × (Tr × Tr)
def size2 : List Ent2 → Nat
  | [] => 0
  | e :: r => sizeT e.2.2.1 + size2 r
theorem size2_app : ∀ a b : List Ent2, size2 (a ++ b) = size2 a + size2 b
  | [], b => by simp [size2]
  | e :: r, b => by simp only [List.cons_append, size2, size2_app r b]; omega
theorem size2_len : ∀ a : List Ent2, a.length ≤ size2 a
  | [] => Nat.le_refl _
  | e :: r => by
    have := size_pos e.2.2.1
    have := size2_len r
    simp only [size2, List.length_cons]
    omega
def all2 (es : List Ent2) : Bool := es.all fun e => eqT e.2.2.1 e.2.2.2
theorem all2_app (a b : List Ent2) : all2 (a ++ b) = (all2 a && all2 b) := by unfold all2; exact List.all_append
def Ents2 (K : PySem.W.Frag) (H H2 : Hp) (es : List Ent2) : Prop := ∀ e ∈ es, H2 e.1 = some (.tup [e.2.1.1, e.2.1.2]) ∧ Rp K H e.2.1.1 e.2.2.1 ∧ Rp K H e.2.1.2 e.2.2.2 ∧ scT e.2.2.1 = true ∧ scT e.2.2.2 = true
/-- the entries of the children -/
theorem kids {K : PySem.W.Frag} {H H2 : Hp} : ∀ (as : List Addr) (xs ys : List V) (ts us : List Tr), RpAll K H xs ts → RpAll K H ys us → ts.length = us.length → as.length = xs.length → scTs ts = true → scTs us = true →
    (∀ (j : Nat) (c : Addr) (x y : V), as[j]? = some c → xs[j]? = some x → ys[j]? = some y → H2 c = some (.tup [x, y])) →
    ∃ es : List Ent2, es.map (fun e => e.1) = as ∧ Ents2 K H H2 es ∧ all2 es = eqTs ts us ∧ size2 es = sizeTs ts
  | as, _, _, [], [], .nil, .nil, _, la, _, _, _ => by
    have e : as = [] := List.eq_nil_of_length_eq_zero la
    subst e
    exact ⟨[], rfl, fun e h => absurd h List.not_mem_nil, rfl, rfl⟩
  | as, _, _, t :: ts, [], _, _, l, _, _, _, _ => by cases l
  | as, _, _, [], u :: us, _, _, l, _, _, _, _ => by cases l
  | [], _, _, t :: ts, u :: us, .cons _ _, _, _, la, _, _, _ => by cases la
  | a :: as, x :: xs, y :: ys, t :: ts, u :: us, .cons h1 h2, .cons g1 g2, l, la, s1, s2, hp => by
    have s1' : scT t = true ∧ scTs ts = true := by simpa [scTs] using s1
    have s2' : scT u = true ∧ scTs us = true := by simpa [scTs] using s2
    obtain ⟨es, e1, e2, e3, e4⟩ := kids as xs ys ts us h2 g2 (Nat.succ.inj l) (Nat.succ.inj la) s1'.2 s2'.2 (fun j c x y a1 a2 a3 => hp (j + 1) c x y (by simpa using a1) (by simpa using a2) (by simpa using a3))
    refine ⟨(a, (x, y), (t, u)) :: es, by simp [e1], fun e he => ?_, ?_, ?_⟩
    · rcases List.mem_cons.mp he with h | h
      · rw [h]
        exact ⟨hp 0 a x y rfl rfl rfl, h1, g1, s1'.1, s2'.1⟩
      · exact e2 e h
    · unfold all2 at e3 ⊢
      simp only [List.all_cons, e3, eqTs]
    · simp only [size2, sizeTs, e4]
section
variable {P : Program} {w : World} {K : PySem.W.Frag} {mg : Str → Option Value} {base : Heap}
def spSameP (K : PySem.W.Frag) : Sp := fun vs H Q _ => ∃ v1 v2 t1 t2, vs = [v1, v2] ∧ Rp K H v1 t1 ∧ Rp K H v2 t2 ∧ scT t1 = true ∧ scT t2 = true ∧ sizeT t1 ≤ 100000 ∧ ∀ H', Same H H' → Q (.bl (eqT t1 t2)) H'
def SmInv (K : PySem.W.Frag) (H : Hp) (v1 v2 : V) (t1 t2 : Tr) (L : Addr) (m : Nat) (σ : L2.St) (H2 : Hp) : Prop := ∃ (x3 x4 : Option V) (es : List Ent2), σ = [some v1, some v2, some (.ref L), x3, x4] ∧ Same H H2 ∧ H2 L = some (.lst (es.map fun e => V.ref e.1)) ∧ Ents2 K H H2 es ∧ eqT t1 t2 = all2 es ∧ size2 es = m ∧ m ≤ 100000
abbrev s_same : Stmt := top 7
theorem sc_same : FnScope ["first", "second", "waiting", "one", "other"] ["first", "second"] (defScope s_same) := ⟨rfl, rfl, rfl, by decide +kernel, rfl, by decide +kernel, by decide +kernel⟩
theorem ok_sameP {tb tm : Tok} {f : Addr} {fd : FuncData} (F : Fun K "same" "same" s_same f fd) (T : T1 mg tb tm) : FnOk P w K mg base CX0 1 f fd ["first", "second"] (spSameP K) := by
  refine F.ok sc_same (fun vs H Q E h => ?_) (fun cdv A outer s H vs Q E hr h => ?_)
  · obtain ⟨v1, v2, t1, t2, rfl, _⟩ := h
    rfl
  · obtain ⟨v1, v2, t1, t2, rfl, hv1, hv2, sc1, sc2, sz, q⟩ := h
    refine ⟨_, (pss_cons (ps_set (i := 2) sc_same.nd rfl (Or.inl rfl) (pe_lst (pa_cons (pe_tup (pa_cons (pv 0) (pa_cons (pv 1) pa_nil))) pa_nil)))
  (pss_cons (ps_while PassesOwn.never (pt_truth (pv 2) (by intro _; rfl))
  (pss_cons (ps_asg (pe_bm0 PySem.F.plainAttrs_list PySem.F.slot_list_pop PySem.F.type_list_pop mt_pop (pv 2)) (pg_tup rfl (pgs_cons (pg_name (i := 3) sc_same.nd rfl (Or.inl rfl)) (pgs_cons (pg_name (i := 4) sc_same.nd rfl (Or.inl rfl)) pgs_nil))))
  (pss_cons (ps_if (pt_not (pt_cmpR op_isTyX (pe_callTy call_typX (by rfl) T.type bo_type (pa_cons (pv 3) pa_nil)) (pe_callTy call_typX (by rfl) T.type bo_type (pa_cons (pv 4) pa_nil)) (nomark _))) (pss_one (ps_ret pe_bl)) pss_nil)
  (pss_one (ps_if (pt_cmpR op_isTyX (pe_callTy call_typX (by rfl) T.type bo_type (pa_cons (pv 3) pa_nil)) (pe_bltn (v := .ty "tuple") (by rfl) T.tuple (by decide +kernel) rfl) (nomark _)) (pss_cons (ps_if (pt_cmpR op_ne (pe_callB call_len_seq (by rfl) T.len bo_len (pa_cons (pv 3) pa_nil)) (pe_callB call_len_seq (by rfl) T.len bo_len (pa_cons (pv 4) pa_nil)) (nomark _)) (pss_one (ps_ret pe_bl)) pss_nil)
  (pss_one (ps_expr (pe_bm PySem.F.plainAttrs_list PySem.F.slot_list_extend PySem.F.type_list_extend mt_extend (pv 2) (pa_cons (Vz.pe_listZip rfl (by rfl) T.list (by rfl) T.zip (pa_cons (pv 3) (pa_cons (pv 4) pa_nil))) pa_nil))))) (pss_one (ps_if (pt_cmpR op_ne (pv 3) (pv 4) (nomark _)) (pss_one (ps_ret pe_bl)) pss_nil)))))))
  (pss_one (ps_ret pe_bl)))), ?_⟩
    have line : (sizeLine : Nat) = 16777216 := by decide +kernel
    refine ⟨_, rfl, _, rfl, by show 2 ≤ sizeLine; omega, fun T0 hT0 => ⟨by show 1 ≤ sizeLine; omega, fun L hL => ?_⟩⟩
    have n0 : T0 ≠ L := ne_of_none upd_same hL
    have sm0 : Same H (upd (upd H T0 (.tup [v1, v2])) L (.lst [.ref T0])) := (same_new hT0).trans (same_new hL)
    have hLH : H L = none := by
      cases e : H L with
      | none => rfl
      | some o =>
        have := same_new (o := .tup [v1, v2]) hT0 _ _ e
        rw [hL] at this
        cases this
    refine ⟨SmInv K H v1 v2 t1 t2 L, ⟨sizeT t1, none, none, [(T0, (v1, v2), (t1, t2))], rfl, sm0, upd_same, ?_, by simp [all2], by simp [size2], sz⟩, ?_⟩
    · intro e he
      rw [List.mem_singleton.mp he]
      exact ⟨by rw [upd_ne n0]; exact upd_same, hv1, hv2, sc1, sc2⟩
    rintro m σ H2 ⟨x3, x4, es, rfl, sm, hL2, hE, eq, hm, mle⟩
    refine ⟨_, rfl, _, .inl ⟨_, SqL.of hL2, rfl⟩, ?_⟩
    rcases List.eq_nil_or_concat es with rfl | ⟨es', e, hcc⟩
    · refine iteF ?_
      have z : eqT t1 t2 = true := eq
      have := q H2 sm
      rw [z] at this
      exact this
    · rw [List.concat_eq_append] at hcc
      subst hcc
      refine ifT (by simp) ?_
      refine ⟨fun σ' H' => ∃ m', m' < m ∧ SmInv K H v1 v2 t1 t2 L m' σ' H', fun σ' H' h => h, ?_⟩
      obtain ⟨he1, he2, he3, he4, he5⟩ := hE e (by simp)
      have hE' : Ents2 K H H2 es' := fun y hy => hE y (by simp [hy])
      rw [size2_app] at hm
      simp only [size2] at hm
      rw [all2_app] at eq
      have eq1 : all2 [e] = eqT e.2.2.1 e.2.2.2 := by simp [all2]
      rw [eq1] at eq
      have lmap : (es' ++ [e]).map (fun e => V.ref e.1) = es'.map (fun e => V.ref e.1) ++ [V.ref e.1] := by rw [List.map_append]; rfl
      have hlast : ((es' ++ [e]).map (fun e => V.ref e.1))[((es' ++ [e]).map (fun e => V.ref e.1)).length - 1]? = some (.ref e.1) := by
        rw [lmap]
        simp
      have hdrop : ((es' ++ [e]).map (fun e => V.ref e.1)).dropLast = es'.map (fun e => V.ref e.1) := by
        rw [lmap, List.dropLast_concat]
      have nE : ∀ y : Ent2, H2 y.1 = some (.tup [y.2.1.1, y.2.1.2]) → y.1 ≠ L := fun y hy => ne_of hy hL2 (by intro z; cases z)
      have sm3 : ∀ {o : HO}, Same H (upd H2 L o) := fun {o} b u z => by
        rw [upd_ne (ne_of_none z hLH)]
        exact sm b u z
      refine ⟨_, rfl, .inl ⟨rfl, _, SqL.of hL2⟩, L, _, _, rfl, rfl, hL2, hlast, ?_⟩
      rw [hdrop]
      have he1' : (upd H2 L (.lst (es'.map fun e => V.ref e.1))) e.1 = some (.tup [e.2.1.1, e.2.1.2]) := by rw [upd_ne (nE e he1)]; exact he1
      refine ⟨e.1, _, rfl, SqT.of he1', rfl, _, _, rfl, _, _, rfl, rfl, ?_⟩
      have hE3 : Ents2 K H (upd H2 L (.lst (es'.map fun e => V.ref e.1))) es' := fun y hy => by
        obtain ⟨a1, a2⟩ := hE' y hy
        exact ⟨by rw [upd_ne (nE y a1)]; exact a1, a2⟩
      generalize hH3 : upd H2 L (.lst (es'.map fun e => V.ref e.1)) = H3 at hE3 he1' ⊢
      have sm3' : Same H H3 := by rw [← hH3]; exact sm3
      have hL3 : H3 L = some (.lst (es'.map fun e => V.ref e.1)) := by rw [← hH3]; exact upd_same
      obtain ⟨a0, ⟨w1, w2⟩, ⟨r1, r2⟩⟩ := e
      dsimp only at he1 he2 he3 he4 he5 he1' eq hm ⊢
      have rp1 := rp_same sm3' _ _ he2
      have rp2 := rp_same sm3' _ _ he3
      have no : eqT r1 r2 = false → Q (.bl false) H3 := fun z => by
        have := q H3 sm3'
        rw [eq, z, Bool.and_false] at this
        exact this
      refine ⟨_, rfl, kind_is rp1 he4 ⟨_, rfl, kind_is rp2 he5 (.inl ⟨_, _, rfl, rfl, _, rfl, ?_⟩)⟩⟩
      by_cases ck : kindT r1 = kindT r2
      · refine iteNS ck ?_
        refine ⟨_, rfl, kind_is rp1 he4 (.inl ⟨_, _, rfl, rfl, _, rfl, ?_⟩)⟩
        by_cases ct : kindT r1 = "tuple"
        · refine ifT (decide_eq_true ct) ?_
          obtain ⟨ts, rfl⟩ := (kind_tup he4).mp ct
          obtain ⟨us, rfl⟩ := (kind_tup he5).mp (ck.symm.trans ct)
          cases he2 with
          | @node b1 xs _ hb1 ha1 =>
          cases he3 with
          | @node b2 ys _ hb2 ha2 =>
          have hb1' := (keepT_of sm3').seq hb1
          have hb2' := (keepT_of sm3').seq hb2
          have l1 := rp_len ha1
          have l2 := rp_len ha2
          refine ⟨_, rfl, _, _, rfl, .inr hb1', _, rfl, _, _, rfl, .inr hb2', rfl, _, rfl, ?_⟩
          by_cases cl : ts.length = us.length
          · refine iteNS (c := V.int (xs.length : Int) = V.int (ys.length : Int)) (by rw [l1, l2, cl]) ?_
            refine ⟨_, rfl, .inl ⟨rfl, _, SqL.of hL3⟩, ?_⟩
            refine ⟨_, rfl, _, rfl, b1, b2, xs, ys, rfl, hb1', hb2', by rw [l1, l2, cl], fun H4 D as sm4 hD hasN hD4 lenA pairs => ?_⟩
            have e2 : scTs ts = true := by simpa [scT] using he4
            have e3 : scTs us = true := by simpa [scT] using he5
            obtain ⟨kd, kd1, kd2, kd3, kd4⟩ := kids as xs ys ts us ha1 ha2 cl lenA e2 e3 pairs
            have hL4 := sm4 _ _ hL3
            have lts : sizeT (Tr.node ts) = 1 + sizeTs ts := by simp [sizeT]
            rw [lts] at hm
            have le' := size2_len es'
            have lkd := size2_len kd
            have lk : kd.length = as.length := by rw [← kd1, List.length_map]
            refine ⟨L, D, _, _, rfl, rfl, hL4, hD4, by rw [List.length_map, List.length_map]; omega, ?_⟩
            refine ⟨size2 (es' ++ kd), by rw [size2_app]; omega, _, _, es' ++ kd, rfl, fun b o z => ?_, ?_, ?_, ?_, rfl, by rw [size2_app]; omega⟩
            · rw [upd_ne (ne_of_none z hLH)]
              exact sm4 b o (sm3' b o z)
            · rw [upd_same, List.map_append, ← kd1, List.map_map]
              rfl
            · intro e he
              rcases List.mem_append.mp he with h | h
              · obtain ⟨b1, b2⟩ := hE3 e h
                refine ⟨?_, b2⟩
                have b3 := sm4 _ _ b1
                rw [upd_ne (ne_of b3 hL4 (by intro z; cases z))]
                exact b3
              · obtain ⟨b1, b2⟩ := kd2 e h
                refine ⟨?_, b2⟩
                rw [upd_ne (ne_of b1 hL4 (by intro z; cases z))]
                exact b1
            · rw [all2_app, kd3]
              have : eqT (Tr.node ts) (Tr.node us) = eqTs ts us := by simp [eqT]
              rw [this] at eq
              exact eq
          · have ne : ¬ (V.int (xs.length : Int)) = V.int (ys.length : Int) := fun z => by
              have := V.int.inj z
              omega
            refine ifT (by rw [decide_eq_false ne]; rfl) ?_
            exact no (by simp only [eqT]; exact eqTs_len ts us cl)
        · refine ifF (decide_eq_false ct) ?_
          cases he2 with
          | node _ _ => exact absurd rfl ct
          | leaf a1 =>
          cases he3 with
          | node _ _ => exact absurd (ck) (fun z => ct (z.trans rfl))
          | leaf a2 =>
          have sc : scal w1 w2 = true := by
            cases w1 <;> cases w2 <;> first | rfl | (simp [scT, scalV] at he4 he5; done) | (exact absurd ck (by simp [kindT]))
          refine ⟨_, rfl, _, rfl, sc, _, rfl, ?_⟩
          have e4 : eqT (.leaf w1) (.leaf w2) = decide (w1 = w2) := by simp [eqT]
          have ls : sizeT (Tr.leaf w1) = 1 := by simp [sizeT]
          rw [ls] at hm
          by_cases cw : w1 = w2
          · refine iteNS cw ?_
            rw [e4, decide_eq_true cw, Bool.and_true] at eq
            exact ⟨size2 es', by omega, _, _, es', rfl, sm3', hL3, hE3, eq, rfl, by omega⟩
          · refine ifT (by rw [decide_eq_false cw]; rfl) ?_
            exact no (by rw [e4]; exact decide_eq_false cw)
      · refine ifT (by rw [decide_eq_false ck]; rfl) ?_
        exact no (eqT_kind he4 he5 ck)
end
end Vk
namespace Vk
open PySem PySem.Spec PyProof.Rows L2
open C8 (pss_cut tCut)
mutual
/-- all integers below the bound -/
def plD : PyData → Bool
  | .int i => decide (-(10 ^ 60) < i) && decide (i < 10 ^ 60)
  | .tuple xs => plDs xs
  | _ => true
def plDs : List PyData → Bool
  | [] => true
  | x :: xs => plD x && plDs xs
end
theorem pl_int {i : Int} (h1 : -(2 ^ 64) < i) (h2 : i < 2 ^ 64) : plD (.int i) = true := by
  have e1 : -(10 ^ 60) < i := by omega
  have e2 : i < 10 ^ 60 := by omega
  simp only [plD, decide_eq_true e1, decide_eq_true e2, Bool.and_self]
theorem depth_one (d : PyData) : (PyData.tuple [d]).depth = d.depth + 1 := by
  simp only [PyData.depth, PyData.depthAll]
  omega
theorem depth_two (d e : PyData) : (PyData.tuple [d, e]).depth = max d.depth e.depth + 1 := by
  simp only [PyData.depth, PyData.depthAll]
  omega
theorem okD_one {d : PyData} (h : okD d = true) : okD (.tuple [d]) = true := by simp [okD, okDs, h]
theorem okD_two {d e : PyData} (h : okD d = true) (h' : okD e = true) : okD (.tuple [d, e]) = true := by simp [okD, okDs, h, h']
section
variable {P : Program} {w : World} {K : PySem.W.Frag} {mg : Str → Option Value} {base : Heap}
def spPart (K : PySem.W.Frag) : Sp := fun vs H Q _ => ∃ n : Int, vs = [.int n] ∧ 0 ≤ n ∧ n < 2 ^ 31 ∧
  ∀ v d H', Same H H' → Dp K H' v d → okD d = true → d.depth ≤ 2 → (encD d).length ≤ 100 → plD d = true → Q v H'
abbrev s_part : Stmt := top 11
theorem sc_part : FnScope ["number", "size", "texts"] ["number"] (defScope s_part) := ⟨rfl, rfl, rfl, by decide +kernel, rfl, by decide +kernel, by decide +kernel⟩
theorem ok_part {f : Addr} {fd : FuncData} (F : Fun K "_law_part" "_law_part" s_part f fd) : FnOk P w K mg base CX0 1 f fd ["number"] (spPart K) := by
  refine F.ok sc_part (fun vs H Q E h => ?_) (fun cdv A outer s H vs Q E hr h => ?_)
  · obtain ⟨n, rfl, _⟩ := h
    rfl
  · obtain ⟨n, rfl, n0, n1, q⟩ := h
    refine ⟨_, (pss_cons (ps_set (i := 1) sc_part.nd rfl (Or.inl rfl) (pe_op op_fdiv (pv 0) pe_int))
  (pss_cons (ps_if (pt_cmpR op_eq (pe_op op_mod (pv 0) pe_int) pe_int (nomark _)) (pss_one (ps_ret pe_non)) pss_nil)
  (pss_cons (ps_if (pt_cmpR op_eq (pe_op op_mod (pv 0) pe_int) pe_int (nomark _)) (pss_one (ps_ret (pe_cmpR op_eq (pe_op op_mod (pv 1) pe_int) pe_int (nomark _)))) pss_nil)
  (pss_cons (ps_if (pt_cmpR op_eq (pe_op op_mod (pv 0) pe_int) pe_int (nomark _)) (pss_one (ps_ret (pe_op op_mod (pv 1) pe_int))) pss_nil)
  (pss_cons (ps_if (pt_cmpR op_eq (pe_op op_mod (pv 0) pe_int) pe_int (nomark _)) (pss_one (ps_ret (pe_op op_sub (pv 1) pe_int))) pss_nil)
  (pss_cons (ps_if (pt_cmpR op_eq (pe_op op_mod (pv 0) pe_int) pe_int (nomark _)) (pss_one (ps_ret (pe_ix ix_list (pe_lst (pa_cons (pe_op op_sub (pe_op op_pow pe_int pe_int) pe_int) (pa_cons (pe_op op_sub pe_int (pe_op op_pow pe_int pe_int)) (pa_cons (pe_op op_pow pe_int pe_int) (pa_cons pe_int pa_nil))))) (pe_op op_mod (pv 1) pe_int) (fun _ _ => rfl)))) pss_nil)
  (pss_cons (ps_if (pt_cmpR op_eq (pe_op op_mod (pv 0) pe_int) pe_int (nomark _)) (pss_cons (ps_set (i := 2) sc_part.nd rfl (Or.inl rfl) (pe_lst (pa_cons pe_str (pa_cons pe_str (pa_cons pe_str (pa_cons pe_str (pa_cons pe_str (pa_cons pe_str (pa_cons pe_str (pa_cons pe_str (pa_cons pe_str (pa_cons pe_str (pa_cons pe_str (pa_cons pe_str (pa_cons pe_str (pa_cons pe_str pa_nil))))))))))))))))
  (pss_one (ps_ret (pe_ix ix_list (pv 2) (pe_op op_mod (pv 1) pe_int) (fun _ _ => rfl))))) pss_nil)
  (pss_cons (ps_if (pt_cmpR op_eq (pe_op op_mod (pv 0) pe_int) pe_int (nomark _)) (pss_one (ps_ret (pe_ix ix_list (pe_lst (pa_cons (pe_tup pa_nil) (pa_cons (pe_tup (pa_cons pe_str (pa_cons pe_str pa_nil))) (pa_cons (pe_tup (pa_cons pe_str pa_nil)) (pa_cons (pe_tup (pa_cons pe_str (pa_cons pe_str (pa_cons pe_str pa_nil)))) pa_nil))))) (pe_op op_mod (pv 1) pe_int) (fun _ _ => rfl)))) pss_nil)
  (pss_cons (ps_if (pt_cmpR op_eq (pe_op op_mod (pv 0) pe_int) pe_int (nomark _)) (pss_one (ps_ret (pe_tup (pa_cons (pe_op op_mod (pv 1) pe_int) (pa_cons pe_non pa_nil))))) pss_nil)
  (pss_one (ps_ret (pe_tup (pa_cons (pe_tup (pa_cons (pe_cmpR op_eq (pe_op op_mod (pv 1) pe_int) pe_int (nomark _)) pa_nil)) (pa_cons pe_str pa_nil)))))))))))))), ?_⟩
    have p9 : (0 : Int) < 9 := by decide
    have p2 : (0 : Int) < 2 := by decide
    have z0 : 0 ≤ n / 9 := by omega
    have smallI : ∀ i : Int, -5000 ≤ i → i < 2 ^ 31 → okD (.int i) = true ∧ (encD (.int i)).length ≤ 20 := by
      intro i a b
      refine ⟨int_ok (k := 64) (by omega) (by decide) (by decide), ?_⟩
      have z := intL_len (i := i) (k := 19) (by decide) (by omega)
      rw [encD]
      omega
    refine ⟨_, rfl, _, _, rfl, rfl, ⟨by decide, by decide⟩, ?_⟩
    refine ⟨_, rfl, _, _, rfl, rfl, p9, rfl, _, rfl, ?_⟩
    refine ite2 (fun _ => ?_) (fun _ => ?_)
    · exact q .non .none H (Same.refl H) .non rfl (by simp [PyData.depth]) (by simp [encD]) rfl
    refine ⟨_, rfl, _, _, rfl, rfl, p9, rfl, _, rfl, ?_⟩
    refine ite2 (fun _ => ?_) (fun _ => ?_)
    · refine ⟨_, rfl, _, _, rfl, rfl, p2, rfl, ?_⟩
      refine q (.bl _) (.bool _) H (Same.refl H) (.bl _) rfl (by simp [PyData.depth]) ?_ rfl
      generalize decide (V.int (n / 9 % 2) = V.int 0) = b
      cases b <;> simp [encD]
    refine ⟨_, rfl, _, _, rfl, rfl, p9, rfl, _, rfl, ?_⟩
    refine ite2 (fun _ => ?_) (fun _ => ?_)
    · refine ⟨_, rfl, _, _, rfl, rfl, p2, ?_⟩
      have z := smallI (n / 9 % 2) (by omega) (by omega)
      exact q (.int _) (.int (n / 9 % 2)) H (Same.refl H) (.int _) z.1 (by simp [PyData.depth]) (by omega) (pl_int (by omega) (by omega))
    refine ⟨_, rfl, _, _, rfl, rfl, p9, rfl, _, rfl, ?_⟩
    refine ite2 (fun _ => ?_) (fun _ => ?_)
    · refine ⟨_, rfl, _, _, rfl, rfl, ?_⟩
      have z := smallI (n / 9 - 5000) (by omega) (by omega)
      exact q (.int _) (.int (n / 9 - 5000)) H (Same.refl H) (.int _) z.1 (by simp [PyData.depth]) (by omega) (pl_int (by omega) (by omega))
    refine ⟨_, rfl, _, _, rfl, rfl, p9, rfl, _, rfl, ?_⟩
    refine ite2 (fun _ => ?_) (fun _ => ?_)
    · refine ⟨_, _, rfl, rfl, ⟨by decide, by decide, by decide⟩, _, _, rfl, rfl, ?_⟩
      refine ⟨_, _, rfl, rfl, ⟨by decide, by decide, by decide⟩, _, _, rfl, rfl, ?_⟩
      refine ⟨_, _, rfl, rfl, ⟨by decide, by decide, by decide⟩, ?_⟩
      refine ⟨by show 4 ≤ sizeLine; decide, fun p hp => ?_⟩
      obtain ⟨v, hv, hm⟩ := atI_some (xs := [V.int (10 ^ (60 : Int).toNat - 1), .int (1 - 10 ^ (60 : Int).toNat), .int (10 ^ (59 : Int).toNat), .int 0]) (i := n / 9 % 4) (by omega) (by show n / 9 % 4 < 4; omega)
      have hz : ∃ i : Int, v = .int i ∧ okD (.int i) = true ∧ i.natAbs < 10 ^ 61 ∧ plD (.int i) = true := by
        simp only [List.mem_cons, List.not_mem_nil, or_false] at hm
        rcases hm with h | h | h | h <;> exact ⟨_, h, by decide +kernel, by decide +kernel, by decide +kernel⟩
      obtain ⟨i, rfl, i1, i2, i3⟩ := hz
      refine ⟨_, rfl, _, _, rfl, rfl, (by show (0 : Int) < 4; decide), p, _, _, _, rfl, rfl, SqL.of upd_same, hv, ?_⟩
      have z := intL_len (i := i) (k := 61) (by decide) i2
      exact q (.int i) (.int i) _ (same_new hp) (.int i) i1 (by simp [PyData.depth]) (by rw [encD]; omega) i3
    refine ⟨_, rfl, _, _, rfl, rfl, p9, rfl, _, rfl, ?_⟩
    refine ite2 (fun _ => ?_) (fun _ => ?_)
    · refine ⟨by show 14 ≤ sizeLine; decide, fun p hp => ?_⟩
      obtain ⟨v, hv, hm⟩ := atI_some (xs := [V.str "", .str "1", .str "True", .str "None", .str "()", .str "a", .str "A", .str "'", .str "','", .str "a','b", .str "',", .str "(", .str ",", .str ")"]) (i := n / 9 % 14) (by omega) (by show n / 9 % 14 < 14; omega)
      have hz : ∃ y : Str, v = .str y ∧ okS y = true ∧ (strL y).length ≤ 100 := by
        simp only [List.mem_cons, List.not_mem_nil, or_false] at hm
        rcases hm with h | h | h | h | h | h | h | h | h | h | h | h | h | h <;> exact ⟨_, h, by decide +kernel, by decide +kernel⟩
      obtain ⟨y, rfl, y1, y2⟩ := hz
      refine ⟨_, rfl, _, rfl, _, _, rfl, rfl, (by show (0 : Int) < 14; decide), p, _, _, _, rfl, rfl, SqL.of upd_same, hv, ?_⟩
      exact q (.str y) (.str y) _ (same_new hp) (.str y) (by simpa [okD] using y1) (by simp [PyData.depth]) (by rw [encD]; exact y2) rfl
    refine ⟨_, rfl, _, _, rfl, rfl, p9, rfl, _, rfl, ?_⟩
    refine ite2 (fun _ => ?_) (fun _ => ?_)
    · refine ⟨Nat.zero_le _, fun t0 h0 => ?_⟩
      refine ⟨by show 2 ≤ sizeLine; decide, fun t1 h1 => ?_⟩
      refine ⟨by show 1 ≤ sizeLine; decide, fun t2 h2 => ?_⟩
      refine ⟨by show 3 ≤ sizeLine; decide, fun t3 h3 => ?_⟩
      refine ⟨by show 4 ≤ sizeLine; decide, fun p hp => ?_⟩
      obtain ⟨v, hv, hm⟩ := atI_some (xs := [V.ref t0, .ref t1, .ref t2, .ref t3]) (i := n / 9 % 4) (by omega) (by show n / 9 % 4 < 4; omega)
      refine ⟨_, rfl, _, _, rfl, rfl, (by show (0 : Int) < 4; decide), p, _, _, _, rfl, rfl, SqL.of upd_same, hv, ?_⟩
      have u0 := same_new (o := .tup []) h0
      have u1 := same_new (o := .tup [V.str "a", .str "b"]) h1
      have u2 := same_new (o := .tup [V.str "a','b"]) h2
      have u3 := same_new (o := .tup [V.str "a", .str "", .str "b"]) h3
      have u4 := same_new (o := .lst [V.ref t0, .ref t1, .ref t2, .ref t3]) hp
      have w3 := u3.trans u4
      have w2 := u2.trans w3
      have w1 := u1.trans w2
      have w0 := u0.trans w1
      have hz : ∃ d, Dp K (upd (upd (upd (upd (upd H t0 (.tup [])) t1 (.tup [.str "a", .str "b"])) t2 (.tup [.str "a','b"])) t3 (.tup [.str "a", .str "", .str "b"])) p (.lst [V.ref t0, .ref t1, .ref t2, .ref t3])) v d ∧ okD d = true ∧ d.depth ≤ 2 ∧ (encD d).length ≤ 100 ∧ plD d = true := by
        simp only [List.mem_cons, List.not_mem_nil, or_false] at hm
        rcases hm with h | h | h | h
        · subst h
          exact ⟨.tuple [], .tup (SqT.of (w1 _ _ upd_same)) .nil, rfl, by simp [PyData.depth, PyData.depthAll], by decide +kernel, by decide +kernel⟩
        · subst h
          exact ⟨.tuple [.str "a", .str "b"], .tup (SqT.of (w2 _ _ upd_same)) (.cons (.str _) (.cons (.str _) .nil)), by decide +kernel, by simp [PyData.depth, PyData.depthAll], by decide +kernel, by decide +kernel⟩
        · subst h
          exact ⟨.tuple [.str "a','b"], .tup (SqT.of (w3 _ _ upd_same)) (.cons (.str _) .nil), by decide +kernel, by simp [PyData.depth, PyData.depthAll], by decide +kernel, by decide +kernel⟩
        · subst h
          exact ⟨.tuple [.str "a", .str "", .str "b"], .tup (SqT.of (u4 _ _ upd_same)) (.cons (.str _) (.cons (.str _) (.cons (.str _) .nil))), by decide +kernel, by simp [PyData.depth, PyData.depthAll], by decide +kernel, by decide +kernel⟩
      obtain ⟨d, d1, d2, d3, d4, d5⟩ := hz
      exact q v d _ w0 d1 d2 d3 d4 d5
    refine ⟨_, rfl, _, _, rfl, rfl, p9, rfl, _, rfl, ?_⟩
    refine ite2 (fun _ => ?_) (fun _ => ?_)
    · refine ⟨_, rfl, _, _, rfl, rfl, (by show (0 : Int) < 3; decide), by show 2 ≤ sizeLine; decide, fun p hp => ?_⟩
      have z := smallI (n / 9 % 3) (by omega) (by omega)
      refine q (.ref p) (.tuple [.int (n / 9 % 3), .none]) _ (same_new hp) (.tup (SqT.of upd_same) (.cons (.int _) (.cons .non .nil))) (okD_two z.1 rfl) (by rw [depth_two]; simp [PyData.depth]) ?_ (by have z5 := pl_int (i := n / 9 % 3) (by omega) (by omega); simp [plD, plDs] at z5 ⊢; exact z5)
      have e4 : (encD .none).length = 4 := by simp [encD]
      rw [enc_two, e4]
      omega
    refine ⟨_, rfl, _, _, rfl, rfl, p2, rfl, by show 1 ≤ sizeLine; decide, fun p hp => ?_⟩
    refine ⟨by show 2 ≤ sizeLine; decide, fun p2 hp2 => ?_⟩
    refine q (.ref p2) (.tuple [.tuple [.bool _], .str "a"]) _ ((same_new hp).trans (same_new hp2)) (.tup (SqT.of upd_same) (.cons (.tup (SqT.of (same_new hp2 _ _ upd_same)) (.cons (.bl _) .nil)) (.cons (.str _) .nil))) (okD_two (okD_one rfl) (by decide +kernel))
      (by rw [depth_two, depth_one]; simp [PyData.depth]) ?_ (by simp [plD, plDs])
    rw [enc_two, enc_one]
    generalize decide (V.int (n / 9 % 2) = V.int 0) = b
    have e1 : (encD (.bool b)).length ≤ 5 := by cases b <;> simp [encD]
    have e2 : (encD (.str "a")).length ≤ 3 := by decide +kernel
    omega
end
end Vk
namespace Vk
open PySem PySem.Spec PyProof.Rows L2
open C8 (pss_cut tCut)
theorem joinL_big : ∀ ls : List (List Nat), 2 * ls.length ≤ (joinL ls).length + 2
  | [] => by simp
  | [x] => by simp
  | x :: y :: r => by
    have ih := joinL_big (y :: r)
    simp only [joinL, List.length_append, List.length_cons] at ih ⊢
    omega
theorem joinL_mem : ∀ (ls : List (List Nat)) (l : List Nat), l ∈ ls → l.length ≤ (joinL ls).length
  | [], _, h => by cases h
  | [x], l, h => by
    rw [List.mem_singleton.mp h]
    exact Nat.le_refl _
  | x :: y :: r, l, h => by
    have ih := joinL_mem (y :: r) l
    simp only [joinL, List.length_append, List.length_cons]
    rcases List.mem_cons.mp h with h | h
    · rw [h]
      omega
    · have := ih h
      omega
theorem encDs_at : ∀ {xs : List PyData} {i : Nat} {d : PyData}, xs[i]? = some d → encD d ∈ encDs xs
  | [], _, _, h => by simp at h
  | x :: xs, 0, d, h => by
    simp at h
    subst h
    exact List.mem_cons_self
  | x :: xs, i + 1, d, h => List.mem_cons_of_mem _ (encDs_at (i := i) (by simpa using h))
theorem enc_item {xs : List PyData} {i : Nat} {d : PyData} (h : xs[i]? = some d) : (encD d).length ≤ (encD (.tuple xs)).length := by
  have z := joinL_mem _ _ (encDs_at h)
  simp only [encD, List.length_cons, List.length_append]
  omega
theorem enc_wide (xs : List PyData) : xs.length ≤ (encD (.tuple xs)).length + 2 := by
  have z := joinL_big (encDs xs)
  rw [encDs_len] at z
  simp only [encD, List.length_cons, List.length_append]
  omega
theorem notTup {d : PyData} (h : ¬ isTupD d = true) : isTupD d = false := by
  cases e : isTupD d with
  | true => exact absurd e h
  | false => rfl
/-! # trees and data -/
mutual
def trD : PyData → Tr
  | .none => .leaf .non
  | .bool b => .leaf (.bl b)
  | .int i => .leaf (.int i)
  | .str x => .leaf (.str x)
  | .tuple xs => .node (trDs xs)
  | .list _ => .leaf .non
  | .dict _ => .leaf .non
def trDs : List PyData → List Tr
  | [] => []
  | x :: xs => trD x :: trDs xs
end
def toV : V → PyData
  | .bl b => .bool b
  | .int i => .int i
  | .str x => .str x
  | _ => .none
mutual
def toD : Tr → PyData
  | .leaf v => toV v
  | .node ts => .tuple (toDs ts)
def toDs : List Tr → List PyData
  | [] => []
  | t :: ts => toD t :: toDs ts
end
mutual
def depthT : Tr → Nat
  | .leaf _ => 0
  | .node ts => depthTs ts + 1
def depthTs : List Tr → Nat
  | [] => 0
  | t :: ts => max (depthT t) (depthTs ts)
end
mutual
def allP : Tr → Bool
  | .leaf v => plainV v
  | .node ts => allPs ts
def allPs : List Tr → Bool
  | [] => true
  | t :: ts => allP t && allPs ts
end
mutual
theorem plain_eq : ∀ (t : Tr) (n : Nat), n ≤ 30 → plainT n t = (allP t && decide (n + depthT t ≤ 30))
  | .leaf v, n, h => by
    have z : depthT (.leaf v) = 0 := by simp [depthT]
    have y : decide (n + depthT (.leaf v) ≤ 30) = true := decide_eq_true (by omega)
    rw [y, Bool.and_true]
    simp only [plainT, allP]
  | .node ts, n, h => by
    have z : depthT (.node ts) = depthTs ts + 1 := by simp [depthT]
    have p1 : allP (.node ts) = allPs ts := by simp [allP]
    have p2 : plainT n (.node ts) = (decide (n < 30) && plainTs (n + 1) ts) := by simp [plainT]
    rw [p1, p2]
    by_cases c : n < 30
    · rw [decide_eq_true c, Bool.true_and, plains_eq ts (n + 1) (by omega)]
      by_cases d : n + 1 + depthTs ts ≤ 30
      · have y : decide (n + depthT (.node ts) ≤ 30) = true := decide_eq_true (by omega)
        rw [decide_eq_true d, y]
      · have y : decide (n + depthT (.node ts) ≤ 30) = false := decide_eq_false (by omega)
        rw [decide_eq_false d, y]
    · have y : decide (n + depthT (.node ts) ≤ 30) = false := decide_eq_false (by omega)
      rw [decide_eq_false c, y, Bool.false_and, Bool.and_false]
theorem plains_eq : ∀ (ts : List Tr) (n : Nat), n ≤ 30 → plainTs n ts = (allPs ts && decide (n + depthTs ts ≤ 30))
  | [], n, h => by
    have z : depthTs [] = 0 := by simp [depthTs]
    have y : decide (n + depthTs [] ≤ 30) = true := decide_eq_true (by omega)
    rw [y]
    simp only [plainTs, allPs, Bool.and_true]
  | t :: ts, n, h => by
    have z : depthTs (t :: ts) = max (depthT t) (depthTs ts) := by simp [depthTs]
    have p1 : allPs (t :: ts) = (allP t && allPs ts) := by simp [allPs]
    have p2 : plainTs n (t :: ts) = (plainT n t && plainTs n ts) := by simp [plainTs]
    rw [p1, p2, plain_eq t n h, plains_eq ts n h]
    by_cases c1 : n + depthT t ≤ 30 <;> by_cases c2 : n + depthTs ts ≤ 30
    · have y : decide (n + depthTs (t :: ts) ≤ 30) = true := decide_eq_true (by omega)
      rw [decide_eq_true c1, decide_eq_true c2, y]
      simp only [Bool.and_true]
    · have y : decide (n + depthTs (t :: ts) ≤ 30) = false := decide_eq_false (by omega)
      rw [decide_eq_false c2, y]
      simp only [Bool.and_false]
    · have y : decide (n + depthTs (t :: ts) ≤ 30) = false := decide_eq_false (by omega)
      rw [decide_eq_false c1, y]
      simp only [Bool.and_false, Bool.false_and]
    · have y : decide (n + depthTs (t :: ts) ≤ 30) = false := decide_eq_false (by omega)
      rw [decide_eq_false c1, y]
      simp only [Bool.and_false, Bool.false_and]
end
mutual
theorem rp_of_dp {K : PySem.W.Frag} {H : Hp} : ∀ (d : PyData) (v : V), okD d = true → Dp K H v d → Rp K H v (trD d)
  | .none, _, _, h => by cases h; exact .leaf trivial
  | .bool b, _, _, h => by cases h; exact .leaf trivial
  | .int i, _, _, h => by cases h; exact .leaf trivial
  | .str x, _, _, h => by cases h; exact .leaf trivial
  | .list _, _, o, _ => by simp [okD] at o
  | .dict _, _, o, _ => by simp [okD] at o
  | .tuple xs, _, o, h => by
    cases h with
    | tup hs ha => exact .node hs (rps_of_dp xs _ (by simpa [okD] using o) ha)
theorem rps_of_dp {K : PySem.W.Frag} {H : Hp} : ∀ (ds : List PyData) (vs : List V), okDs ds = true → DpAll K H vs ds → RpAll K H vs (trDs ds)
  | [], _, _, h => by cases h; exact .nil
  | d :: ds, _, o, h => by
    have o' : okD d = true ∧ okDs ds = true := by simpa [okDs] using o
    cases h with
    | cons h1 h2 => exact .cons (rp_of_dp d _ o'.1 h1) (rps_of_dp ds _ o'.2 h2)
end
mutual
theorem dp_of_rp {K : PySem.W.Frag} {H : Hp} : ∀ (t : Tr) (v : V), scT t = true → Rp K H v t → Dp K H v (toD t)
  | .leaf w, v, s, h => by
    cases h with
    | leaf a =>
      cases w with
      | non => exact .non
      | bl b => exact .bl b
      | int i => exact .int i
      | str x => exact .str x
      | _ => simp [scT, scalV] at s
  | .node ts, _, s, h => by
    cases h with
    | node hs ha => exact .tup hs (dps_of_rp ts _ (by simpa [scT] using s) ha)
theorem dps_of_rp {K : PySem.W.Frag} {H : Hp} : ∀ (ts : List Tr) (vs : List V), scTs ts = true → RpAll K H vs ts → DpAll K H vs (toDs ts)
  | [], _, _, h => by cases h; exact .nil
  | t :: ts, _, s, h => by
    have s' : scT t = true ∧ scTs ts = true := by simpa [scTs] using s
    cases h with
    | cons h1 h2 => exact .cons (dp_of_rp t _ s'.1 h1) (dps_of_rp ts _ s'.2 h2)
end
mutual
theorem toD_trD : ∀ d : PyData, okD d = true → toD (trD d) = d ∧ scT (trD d) = true ∧ depthT (trD d) = d.depth ∧ allP (trD d) = plD d
  | .none, _ => ⟨rfl, rfl, rfl, rfl⟩
  | .bool b, _ => ⟨rfl, rfl, rfl, rfl⟩
  | .int i, _ => ⟨rfl, rfl, rfl, rfl⟩
  | .str x, _ => ⟨rfl, rfl, rfl, rfl⟩
  | .list _, o => by simp [okD] at o
  | .dict _, o => by simp [okD] at o
  | .tuple xs, o => by
    obtain ⟨h1, h2, h3, h4⟩ := toDs_trDs xs (by simpa [okD] using o)
    simp only [trD, toD, scT, depthT, allP, plD, PyData.depth, h1, h2, h3, h4]
    exact ⟨trivial, trivial, trivial, trivial⟩
theorem toDs_trDs : ∀ ds : List PyData, okDs ds = true → toDs (trDs ds) = ds ∧ scTs (trDs ds) = true ∧ depthTs (trDs ds) = PyData.depthAll ds ∧ allPs (trDs ds) = plDs ds
  | [], _ => ⟨rfl, rfl, rfl, rfl⟩
  | d :: ds, o => by
    have o' : okD d = true ∧ okDs ds = true := by simpa [okDs] using o
    obtain ⟨h1, h2, h3, h4⟩ := toD_trD d o'.1
    obtain ⟨g1, g2, g3, g4⟩ := toDs_trDs ds o'.2
    simp only [trDs, toDs, scTs, depthTs, allPs, plDs, PyData.depthAll, h1, h2, h3, h4, g1, g2, g3, g4, Bool.and_self]
    exact ⟨trivial, trivial, trivial, trivial⟩
end
mutual
theorem depth_toD : ∀ t : Tr, (toD t).depth = depthT t
  | .leaf v => by cases v <;> simp [toD, toV, PyData.depth, depthT]
  | .node ts => by simp only [toD, PyData.depth, depthT, depths_toD ts]
theorem depths_toD : ∀ ts : List Tr, PyData.depthAll (toDs ts) = depthTs ts
  | [] => by simp [toDs, PyData.depthAll, depthTs]
  | t :: ts => by simp only [toDs, PyData.depthAll, depthTs, depth_toD t, depths_toD ts]
end
theorem joinL_sum : ∀ ls : List (List Nat), (ls.map List.length).sum ≤ (joinL ls).length
  | [] => by simp [joinL]
  | [x] => by simp [joinL]
  | x :: y :: r => by
    have ih := joinL_sum (y :: r)
    simp only [joinL, List.map_cons, List.sum_cons, List.length_append, List.length_cons] at ih ⊢
    omega
mutual
theorem size_enc : ∀ d : PyData, okD d = true → sizeT (trD d) ≤ (encD d).length
  | .none, _ => by simp [trD, sizeT, encD]
  | .bool b, _ => by cases b <;> simp [trD, sizeT, encD]
  | .int i, o => by
    obtain ⟨c, t, e, _⟩ := first_sign (.int i) o
    rw [e]
    simp [trD, sizeT]
  | .str x, o => by
    obtain ⟨c, t, e, _⟩ := first_sign (.str x) o
    rw [e]
    simp [trD, sizeT]
  | .list _, o => by simp [okD] at o
  | .dict _, o => by simp [okD] at o
  | .tuple xs, o => by
    have z := sizes_enc xs (by simpa [okD] using o)
    have y := joinL_sum (encDs xs)
    simp only [trD, sizeT, encD, List.length_cons, List.length_append]
    omega
theorem sizes_enc : ∀ ds : List PyData, okDs ds = true → sizeTs (trDs ds) ≤ ((encDs ds).map List.length).sum
  | [], _ => by simp [trDs, sizeTs]
  | d :: ds, o => by
    have o' : okD d = true ∧ okDs ds = true := by simpa [okDs] using o
    have a := size_enc d o'.1
    have b := sizes_enc ds o'.2
    simp only [trDs, sizeTs, encDs, List.map_cons, List.sum_cons]
    omega
end
mutual
theorem eqT_eqD : ∀ t u : Tr, scT t = true → scT u = true → eqT t u = eqD (toD t) (toD u)
  | .leaf v, .leaf x, h1, h2 => by
    cases v <;> cases x <;> first | (simp [scT, scalV] at h1 h2; done) | simp [eqT, toD, toV, eqD]
  | .leaf v, .node us, h1, h2 => by
    cases v <;> first | (simp [scT, scalV] at h1; done) | simp [eqT, toD, toV, eqD]
  | .node ts, .leaf x, h1, h2 => by
    cases x <;> first | (simp [scT, scalV] at h2; done) | simp [eqT, toD, toV, eqD]
  | .node ts, .node us, h1, h2 => by
    simp only [eqT, toD, eqD]
    exact eqTs_eqDs ts us (by simpa [scT] using h1) (by simpa [scT] using h2)
theorem eqTs_eqDs : ∀ ts us : List Tr, scTs ts = true → scTs us = true → eqTs ts us = eqDs (toDs ts) (toDs us)
  | [], [], _, _ => rfl
  | [], _ :: _, _, _ => by simp [eqTs, toDs, eqDs]
  | _ :: _, [], _, _ => by simp [eqTs, toDs, eqDs]
  | t :: ts, u :: us, h1, h2 => by
    have a : scT t = true ∧ scTs ts = true := by simpa [scTs] using h1
    have b : scT u = true ∧ scTs us = true := by simpa [scTs] using h2
    simp only [eqTs, toDs, eqDs, eqT_eqD t u a.1 b.1, eqTs_eqDs ts us a.2 b.2]
end
/-- scalars in tuples, whose texts are known -/
def goodT (t : Tr) : Prop := scT t = true ∧ okD (toD t) = true
/-- what n wrappings make of a tree -/
structure Wr (t : Tr) (n : Nat) (t' : Tr) : Prop where
  dep : depthT t' ≤ max (depthT t) 2 + n
  size : sizeT t' ≤ sizeT t + 110 * n
  all : allP t' = allP t
  good : goodT t → goodT t' ∧ (encD (toD t')).length ≤ (encD (toD t)).length + 104 * n
section
variable {P : Program} {w : World} {K : PySem.W.Frag} {mg : Str → Option Value} {base : Heap}
def spWrapped (K : PySem.W.Frag) : Sp := fun vs H Q _ => ∃ (a : Addr) (ns : List Int) (st ct : Int) (v : V) (t : Tr), vs = [.ref a, .int st, .int ct, v] ∧ SqL K H a (ns.map V.int) ∧ ns.length ≤ 63 ∧ 0 ≤ st ∧ st ≤ 1000 ∧ 0 ≤ ct ∧ ct ≤ 100 ∧
  Rp K H v t ∧ ∀ v' t' H', Same H H' → Rp K H' v' t' → Wr t ct.toNat t' → Q v' H'
abbrev s_wrapped : Stmt := top 12
theorem sc_wrapped : FnScope ["script", "start", "count", "value", "k", "number"] ["script", "start", "count", "value"] (defScope s_wrapped) := ⟨rfl, rfl, rfl, by decide +kernel, rfl, by decide +kernel, by decide +kernel⟩
theorem ok_wrapped {f fr fp : Addr} {fd fdr fdp : FuncData} (F : Fun K "_law_wrapped" "_law_wrapped" s_wrapped f fd) (T : TDraw mg) (C_draw : Cal P w K mg base "_law_draw" 1 fr fdr ["script", "k"] (spDraw K)) (C_part : Cal P w K mg base "_law_part" 1 fp fdp ["number"] (spPart K)) :
    FnOk P w K mg base CX0 2 f fd ["script", "start", "count", "value"] (spWrapped K) := by
  refine F.ok sc_wrapped (fun vs H Q E h => ?_) (fun cdv A outer s H vs Q E hr h => ?_)
  · obtain ⟨a, ns, st, ct, v, t, rfl, _⟩ := h
    rfl
  · obtain ⟨a, ns, st, ct, v, t, rfl, hS, hl, s0, s1, c0, c1, hd, q⟩ := h
    refine ⟨_, (pss_cons (ps_for PassesOwn.never rfl (pi_range1 rfl T.range (pa_cons (pv 2) pa_nil)) (pg_name (i := 4) sc_wrapped.nd rfl (Or.inl rfl))
  (pss_cons (ps_set (i := 5) sc_wrapped.nd rfl (Or.inl rfl) (pe_call C_draw.G (hr.mono (by decide)) rfl C_draw.mg C_draw.kp C_draw.B .nil pass0 (pa_cons (pv 0) (pa_cons (pe_op op_add (pv 1) (pv 4)) pa_nil))))
  (pss_one (ps_if (pt_cmpR op_eq (pe_op op_mod (pv 5) pe_int) pe_int (nomark _)) (pss_one (ps_set (i := 3) sc_wrapped.nd rfl (Or.inl rfl) (pe_tup (pa_cons (pv 3) pa_nil)))) (pss_one (ps_if (pt_cmpR op_eq (pe_op op_mod (pv 5) pe_int) pe_int (nomark _)) (pss_one (ps_set (i := 3) sc_wrapped.nd rfl (Or.inl rfl) (pe_tup (pa_cons (pe_call C_part.G (hr.mono (by decide)) rfl C_part.mg C_part.kp C_part.B .nil pass0 (pa_cons (pe_op op_fdiv (pv 5) pe_int) pa_nil)) (pa_cons (pv 3) pa_nil))))) (pss_one (ps_set (i := 3) sc_wrapped.nd rfl (Or.inl rfl) (pe_tup (pa_cons (pv 3) (pa_cons (pe_call C_part.G (hr.mono (by decide)) rfl C_part.mg C_part.kp C_part.B .nil pass0 (pa_cons (pe_op op_fdiv (pv 5) pe_int) pa_nil)) pa_nil)))))))))))
  (pss_one (ps_ret (pv 3)))), ?_⟩
    refine ⟨_, rfl, _, rfl, by omega, by omega, ?_⟩
    refine for_range (n := ct.toNat) (fun i σ H2 => ∃ (x1 x2 : Option V) (v2 : V) (t2 : Tr), σ = [some (.ref a), some (.int st), some (.int ct), some v2, x1, x2] ∧ Same H H2 ∧ Rp K H2 v2 t2 ∧ Wr t i t2)
      ⟨none, none, v, t, rfl, Same.refl H, hd, ⟨by omega, by omega, rfl, fun g => ⟨g, by omega⟩⟩⟩ ?_ ?_
    · rintro i σ H2 hi ⟨x1, x2, v2, t2, rfl, sm, hd2, W⟩
      refine ⟨_, rfl, _, rfl, _, rfl, _, _, rfl, rfl, a, ns, _, rfl, sm.seq hS, hl, by omega, by omega, ?_⟩
      have n0 := drawOf_nn ns (st + (0 + (i : Int)))
      have n1 := drawOf_lt ns (st + (0 + (i : Int)))
      refine ⟨_, rfl, _, _, rfl, rfl, (by show (0 : Int) < 3; decide), rfl, _, rfl, ?_⟩
      refine ite2 (fun _ => ?_) (fun _ => ?_)
      · refine ⟨_, rfl, by show 1 ≤ sizeLine; decide, fun p hp => ?_⟩
        refine ⟨_, _, _, .node [t2], rfl, sm.trans (same_new hp), .node (SqT.of upd_same) (.cons (rp_same (same_new hp) _ _ hd2) .nil), ?_⟩
        obtain ⟨w1, w2, w3, w4⟩ := W
        refine ⟨by simp only [depthT, depthTs]; omega, by simp only [sizeT, sizeTs]; omega, by simp only [allP, allPs, w3, Bool.and_true], fun g => ?_⟩
        obtain ⟨⟨g1, g2⟩, g3⟩ := w4 g
        have e : toD (.node [t2]) = .tuple [toD t2] := by simp [toD, toDs]
        refine ⟨⟨by simp [scT, scTs, g1], by rw [e]; exact okD_one g2⟩, ?_⟩
        rw [e, enc_one]
        omega
      refine ⟨_, rfl, _, _, rfl, rfl, (by show (0 : Int) < 3; decide), rfl, _, rfl, ?_⟩
      have two : ∀ (d3 : PyData), okD d3 = true → d3.depth ≤ 2 → (encD d3).length ≤ 100 → plD d3 = true → Wr t (i + 1) (.node [trD d3, t2]) ∧ Wr t (i + 1) (.node [t2, trD d3]) := by
        intro d3 ok3 dep3 len3 pl3
        obtain ⟨z1, z2, z3, z4⟩ := toD_trD d3 ok3
        have z5 := size_enc d3 ok3
        obtain ⟨w1, w2, w3, w4⟩ := W
        constructor
        · refine ⟨by simp only [depthT, depthTs, z3]; omega, by simp only [sizeT, sizeTs]; omega, by simp only [allP, allPs, w3, z4, pl3, Bool.and_true, Bool.true_and], fun g => ?_⟩
          obtain ⟨⟨g1, g2⟩, g3⟩ := w4 g
          have e : toD (.node [trD d3, t2]) = .tuple [d3, toD t2] := by simp [toD, toDs, z1]
          refine ⟨⟨by simp [scT, scTs, g1, z2], by rw [e]; exact okD_two ok3 g2⟩, ?_⟩
          rw [e, enc_two]
          omega
        · refine ⟨by simp only [depthT, depthTs, z3]; omega, by simp only [sizeT, sizeTs]; omega, by simp only [allP, allPs, w3, z4, pl3, Bool.and_true], fun g => ?_⟩
          obtain ⟨⟨g1, g2⟩, g3⟩ := w4 g
          have e : toD (.node [t2, trD d3]) = .tuple [toD t2, d3] := by simp [toD, toDs, z1]
          refine ⟨⟨by simp [scT, scTs, g1, z2], by rw [e]; exact okD_two g2 ok3⟩, ?_⟩
          rw [e, enc_two]
          omega
      refine ite2 (fun _ => ?_) (fun _ => ?_)
      · refine ⟨_, rfl, _, _, rfl, rfl, ⟨by decide, by decide⟩, _, rfl, by omega, by omega, fun v3 d3 H3 sm3 hd3 ok3 dep3 len3 pl3 => ?_⟩
        refine ⟨_, rfl, by show 2 ≤ sizeLine; decide, fun p hp => ?_⟩
        have hd3' := rp_of_dp d3 v3 ok3 hd3
        exact ⟨_, _, _, .node [trD d3, t2], rfl, (sm.trans sm3).trans (same_new hp), .node (SqT.of upd_same) (.cons (rp_same (same_new hp) _ _ hd3') (.cons (rp_same (sm3.trans (same_new hp)) _ _ hd2) .nil)), (two d3 ok3 dep3 len3 pl3).1⟩
      · refine ⟨_, rfl, _, rfl, _, _, rfl, rfl, ⟨by decide, by decide⟩, _, rfl, by omega, by omega, fun v3 d3 H3 sm3 hd3 ok3 dep3 len3 pl3 => ?_⟩
        refine ⟨by show 2 ≤ sizeLine; decide, fun p hp => ?_⟩
        have hd3' := rp_of_dp d3 v3 ok3 hd3
        exact ⟨_, _, _, .node [t2, trD d3], rfl, (sm.trans sm3).trans (same_new hp), .node (SqT.of upd_same) (.cons (rp_same (sm3.trans (same_new hp)) _ _ hd2) (.cons (rp_same (same_new hp) _ _ hd3') .nil)), (two d3 ok3 dep3 len3 pl3).2⟩
    · rintro σ H2 ⟨x1, x2, v2, t2, rfl, sm, hd2, W⟩
      exact ⟨_, rfl, q v2 t2 H2 sm hd2 W⟩
def spSame (K : PySem.W.Frag) (n : Nat) : Sp := fun vs H Q _ => ∃ v1 v2 d1 d2, vs = [v1, v2] ∧ Dp K H v1 d1 ∧ Dp K H v2 d2 ∧ okD d1 = true ∧ okD d2 = true ∧ d1.depth < n ∧ (encD d1).length ≤ 100000 ∧ Q (.bl (eqD d1 d2)) H
abbrev s_lsame : Stmt := top 15
theorem sc_lsame : FnScope ["first", "second", "k"] ["first", "second"] (defScope s_lsame) := ⟨rfl, rfl, rfl, by decide +kernel, rfl, by decide +kernel, by decide +kernel⟩
theorem ok_lsame {f : Addr} {fd : FuncData} (F : Fun K "_law_same" "_law_same" s_lsame f fd) {tb tm : Tok} (T : T1 mg tb tm) (mgS : mg "_law_same" = some (.ref f)) (kpS : PySem.W.keepIn K (.ref f) = true) (bS : Binds K fd ["first", "second"] []) :
    ∀ n, FnOk P w K mg base CX0 n f fd ["first", "second"] (spSame K n)
  | 0 => ⟨fun vs H Q E h => by obtain ⟨v1, v2, d1, d2, rfl, _⟩ := h; rfl, fun A outer s H args us vs Q E _ _ _ _ h => by
      obtain ⟨v1, v2, d1, d2, _, _, _, _, _, dep, _⟩ := h
      exact absurd dep (Nat.not_lt_zero _)⟩
  | n + 1 => by
    have C_lsame : Cal P w K mg base "_law_same" n f fd ["first", "second"] (spSame K n) := ⟨ok_lsame F T mgS kpS bS n, mgS, kpS, bS⟩
    refine F.ok sc_lsame (fun vs H Q E h => ?_) (fun cdv A outer s H vs Q E hr h => ?_)
    · obtain ⟨v1, v2, d1, d2, rfl, _⟩ := h
      rfl
    · obtain ⟨v1, v2, d1, d2, rfl, h1, h2, ok1, ok2, dep, len, q⟩ := h
      refine ⟨_, (pss_cut (ps_if (PW.pt (pw_and (pt_val (pe_callB (r := rIsi K) call_isi (by rfl) T.isinstance bo_isinstance (pa_cons (pv 0) (pa_cons (pe_bltn (v := .ty "tuple") (by rfl) T.tuple (by decide +kernel) rfl) pa_nil)))) (pw_and1 (pt_val (pe_callB (r := rIsi K) call_isi (by rfl) T.isinstance bo_isinstance (pa_cons (pv 1) (pa_cons (pe_bltn (v := .ty "tuple") (by rfl) T.tuple (by decide +kernel) rfl) pa_nil))))))) (pss_cons (ps_if (pt_cmpR op_ne (pe_callB call_len_seq (by rfl) T.len bo_len (pa_cons (pv 0) pa_nil)) (pe_callB call_len_seq (by rfl) T.len bo_len (pa_cons (pv 1) pa_nil)) (nomark _)) (pss_one (ps_ret pe_bl)) pss_nil)
  (pss_cons (ps_for PassesOwn.never rfl (pi_range1 rfl T.range (pa_cons (pe_callB call_len_seq (by rfl) T.len bo_len (pa_cons (pv 0) pa_nil)) pa_nil)) (pg_name (i := 2) sc_lsame.nd rfl (Or.inl rfl))
  (pss_one (ps_if (pt_not (pt_val (pe_call C_lsame.G hr rfl C_lsame.mg C_lsame.kp C_lsame.B .nil pass0 (pa_cons (pe_ix ix_tup (pv 0) (pv 2) (fun _ _ => rfl)) (pa_cons (pe_ix ix_tup (pv 1) (pv 2) (fun _ _ => rfl)) pa_nil))))) (pss_one (ps_ret pe_bl)) pss_nil)))
  (pss_one (ps_ret pe_bl)))) pss_nil)
  (pss_cut (ps_if (PW.pt (pw_or (pt_val (pe_callB (r := rIsi K) call_isi (by rfl) T.isinstance bo_isinstance (pa_cons (pv 0) (pa_cons (pe_bltn (v := .ty "tuple") (by rfl) T.tuple (by decide +kernel) rfl) pa_nil)))) (pw_or1 (pt_val (pe_callB (r := rIsi K) call_isi (by rfl) T.isinstance bo_isinstance (pa_cons (pv 1) (pa_cons (pe_bltn (v := .ty "tuple") (by rfl) T.tuple (by decide +kernel) rfl) pa_nil))))))) (pss_one (ps_ret pe_bl)) pss_nil)
  (pss_cons (ps_if (PW.pt (pw_or (pt_val (pe_callB (r := rIsi K) call_isi (by rfl) T.isinstance bo_isinstance (pa_cons (pv 0) (pa_cons (pe_bltn (v := .ty "bool") (by rfl) T.bool (by decide +kernel) rfl) pa_nil)))) (pw_or1 (pt_val (pe_callB (r := rIsi K) call_isi (by rfl) T.isinstance bo_isinstance (pa_cons (pv 1) (pa_cons (pe_bltn (v := .ty "bool") (by rfl) T.bool (by decide +kernel) rfl) pa_nil))))))) (pss_one (ps_ret (pe_and (pe_callB (r := rIsi K) call_isi (by rfl) T.isinstance bo_isinstance (pa_cons (pv 0) (pa_cons (pe_bltn (v := .ty "bool") (by rfl) T.bool (by decide +kernel) rfl) pa_nil))) (pe_and (pe_callB (r := rIsi K) call_isi (by rfl) T.isinstance bo_isinstance (pa_cons (pv 1) (pa_cons (pe_bltn (v := .ty "bool") (by rfl) T.bool (by decide +kernel) rfl) pa_nil))) (pe_one (pe_cmpR op_eq (pv 0) (pv 1) (nomark _))))))) pss_nil)
  (pss_one (ps_ret (pe_cmpR op_eq (pv 0) (pv 1) (nomark _))))))), ?_⟩
      have ht1 := dp_ty h1 ok1
      have ht2 := dp_ty h2 ok2
      have hk1 := kit_tup (K := K) ok1
      have hk2 := kit_tup (K := K) ok2
      -- both are tuples
      refine ⟨fun σ H' => H' = H ∧ σ = [some v1, some v2, none] ∧ ¬ (isTupD d1 = true ∧ isTupD d2 = true), ?_, ?_⟩
      · refine ⟨_, rfl, _, _, _, _, _, rfl, .ty "tuple", ht1, hk1, _, rfl, ?_⟩
        by_cases c1 : isTupD d1 = true
        · refine ifT c1 ?_
          refine ⟨_, rfl, _, _, _, _, _, rfl, .ty "tuple", ht2, hk2, _, rfl, ?_⟩
          by_cases c2 : isTupD d2 = true
          · refine ifT c2 ?_
            cases h1 with
            | non => cases c1
            | bl b => cases c1
            | int i => cases c1
            | str x => cases c1
            | lst _ _ => simp [okD] at ok1
            | @tup a1 vs1 xs hs1 ha1 =>
            cases h2 with
            | non => cases c2
            | bl b => cases c2
            | int i => cases c2
            | str x => cases c2
            | lst _ _ => simp [okD] at ok2
            | @tup a2 vs2 ys hs2 ha2 =>
            have l1 := dp_len ha1
            have l2 := dp_len ha2
            have wide := enc_wide xs
            have okx : okDs xs = true := by simpa [okD] using ok1
            have oky : okDs ys = true := by simpa [okD] using ok2
            have qe : eqD (.tuple xs) (.tuple ys) = eqDs xs ys := by simp [eqD]
            rw [qe] at q
            refine ⟨_, rfl, _, _, rfl, .inr hs1, _, rfl, _, _, rfl, .inr hs2, rfl, _, rfl, ?_⟩
            by_cases c : xs.length = ys.length
            · refine iteNS (c := V.int (vs1.length : Int) = V.int (vs2.length : Int)) (by rw [l1, l2, c]) ?_
              refine ⟨_, rfl, _, _, rfl, .inr hs1, _, rfl, by omega, by omega, ?_⟩
              refine for_range (n := ((vs1.length : Nat) : Int).toNat) (fun i σ H' => H' = H ∧ (∃ v, σ = [some (.ref a1), some (.ref a2), v]) ∧ ∀ (j : Nat) (x y : PyData), j < i → xs[j]? = some x → ys[j]? = some y → eqD x y = true)
                ⟨rfl, ⟨none, rfl⟩, fun j x y hj => absurd hj (Nat.not_lt_zero j)⟩ ?_ ?_
              · rintro i σ H' hi ⟨rfl, ⟨v, rfl⟩, hall⟩
                have hi1 : i < xs.length := by omega
                have ex := List.getElem?_eq_getElem hi1
                have ey := List.getElem?_eq_getElem (show i < ys.length by omega)
                obtain ⟨u1, eu1, hu1⟩ := dp_at ha1 ex
                obtain ⟨u2, eu2, hu2⟩ := dp_at ha2 ey
                have oi : ((0 : Int) + (i : Int)) = ((i : Nat) : Int) := by omega
                have dpi := depth_at ex
                have leni := enc_item ex
                refine ⟨_, rfl, _, rfl, a1, vs1, _, u1, rfl, rfl, hs1, by rw [oi]; exact atI_nat eu1, _, rfl, _, rfl, a2, vs2, _, u2, rfl, rfl, hs2, by rw [oi]; exact atI_nat eu2, ?_⟩
                refine ⟨u1, u2, _, _, rfl, hu1, hu2, okDs_at okx ex, okDs_at oky ey, by simp only [PyData.depth] at dep; omega, by omega, _, rfl, ?_⟩
                cases ce : eqD xs[i] ys[i] with
                | true =>
                  refine iteF ?_
                  refine ⟨rfl, ⟨_, rfl⟩, fun j x y hj hx hy => ?_⟩
                  by_cases e : j = i
                  · subst e
                    rw [ex] at hx
                    rw [ey] at hy
                    cases hx
                    cases hy
                    exact ce
                  · exact hall j x y (by omega) hx hy
                | false =>
                  refine iteT ?_
                  have z : eqDs xs ys = false := by
                    cases e : eqDs xs ys with
                    | false => rfl
                    | true =>
                      have := (eqDs_at xs ys c).mp e i _ _ ex ey
                      rw [ce] at this
                      cases this
                  rw [z] at q
                  exact q
              · rintro σ H' ⟨rfl, ⟨v, rfl⟩, hall⟩
                have z : eqDs xs ys = true := (eqDs_at xs ys c).mpr (fun j x y hx hy => hall j x y (by have := (List.getElem?_eq_some_iff.mp hx).1; omega) hx hy)
                rw [z] at q
                exact q
            · have ne : ¬ (V.int (vs1.length : Int)) = V.int (vs2.length : Int) := fun z => by
                have := V.int.inj z
                omega
              refine ifT (by rw [decide_eq_false ne]; rfl) ?_
              rw [eqDs_len xs ys c] at q
              exact q
          · exact ifF (notTup c2) ⟨rfl, rfl, fun z => c2 z.2⟩
        · exact ifF (notTup c1) ⟨rfl, rfl, fun z => c1 z.1⟩
      -- one of them is
      rintro σ H' ⟨rfl, rfl, notBoth⟩
      refine ⟨fun σ H2 => H2 = H' ∧ σ = [some v1, some v2, none] ∧ isTupD d1 = false ∧ isTupD d2 = false, ?_, ?_⟩
      · refine ⟨_, rfl, _, _, _, _, _, rfl, .ty "tuple", ht1, hk1, _, rfl, ?_⟩
        by_cases c1 : isTupD d1 = true
        · refine ifT c1 ?_
          have c2 := notTup (d := d2) (fun z => notBoth ⟨c1, z⟩)
          have z : eqD d1 d2 = false := by
            cases d1 <;> cases d2 <;> first | rfl | (simp [isTupD] at c1 c2; done) | simp [eqD]
          rw [z] at q
          exact q
        · refine ifF (notTup c1) ?_
          refine ⟨_, rfl, _, _, _, _, _, rfl, .ty "tuple", ht2, hk2, _, rfl, ?_⟩
          by_cases c2 : isTupD d2 = true
          · refine ifT c2 ?_
            have z : eqD d1 d2 = false := by
              have c1' := notTup c1
              cases d1 <;> cases d2 <;> first | rfl | (simp [isTupD] at c1' c2; done) | simp [eqD]
            rw [z] at q
            exact q
          · exact ifF (notTup c2) ⟨rfl, rfl, notTup c1, notTup c2⟩
      rintro σ H2 ⟨rfl, rfl, n1, n2⟩
      have hb1 := kit_bool (K := K) ok1
      have hb2 := kit_bool (K := K) ok2
      refine ⟨_, rfl, _, _, _, _, _, rfl, .ty "bool", ht1, hb1, _, rfl, ?_⟩
      cases h1 with
      | lst _ _ => simp [okD] at ok1
      | tup _ _ => cases n1
      | bl b =>
        refine iteT ?_
        refine ⟨_, rfl, _, _, _, _, _, rfl, .ty "bool", ht1, hb1, _, rfl, iteT ?_⟩
        refine ⟨_, rfl, _, _, _, _, _, rfl, .ty "bool", ht2, hb2, _, rfl, ?_⟩
        cases h2 with
        | lst _ _ => simp [okD] at ok2
        | tup _ _ => cases n2
        | bl b2 =>
          refine iteT ?_
          refine ⟨_, rfl, _, rfl, rfl, ?_⟩
          have z : decide (V.bl b = V.bl b2) = eqD (.bool b) (.bool b2) := by simp [eqD]
          rw [z]
          exact q
        | non => exact iteF (by simpa [eqD] using q)
        | int i => exact iteF (by simpa [eqD] using q)
        | str x => exact iteF (by simpa [eqD] using q)
      | non =>
        refine iteF ?_
        refine ⟨_, rfl, _, _, _, _, _, rfl, .ty "bool", ht2, hb2, _, rfl, ?_⟩
        cases h2 with
        | lst _ _ => simp [okD] at ok2
        | tup _ _ => cases n2
        | bl b2 =>
          refine iteT ?_
          refine ⟨_, rfl, _, _, _, _, _, rfl, .ty "bool", ht1, hb1, _, rfl, iteF ?_⟩
          simpa [eqD] using q
        | non => exact iteF ⟨_, rfl, _, rfl, rfl, by simpa [eqD] using q⟩
        | int i => exact iteF ⟨_, rfl, _, rfl, rfl, by simpa [eqD] using q⟩
        | str x => exact iteF ⟨_, rfl, _, rfl, rfl, by simpa [eqD] using q⟩
      | int i1 =>
        refine iteF ?_
        refine ⟨_, rfl, _, _, _, _, _, rfl, .ty "bool", ht2, hb2, _, rfl, ?_⟩
        cases h2 with
        | lst _ _ => simp [okD] at ok2
        | tup _ _ => cases n2
        | bl b2 =>
          refine iteT ?_
          refine ⟨_, rfl, _, _, _, _, _, rfl, .ty "bool", ht1, hb1, _, rfl, iteF ?_⟩
          simpa [eqD] using q
        | non => exact iteF ⟨_, rfl, _, rfl, rfl, by simpa [eqD] using q⟩
        | int i => exact iteF ⟨_, rfl, _, rfl, rfl, by simpa [eqD] using q⟩
        | str x => exact iteF ⟨_, rfl, _, rfl, rfl, by simpa [eqD] using q⟩
      | str x1 =>
        refine iteF ?_
        refine ⟨_, rfl, _, _, _, _, _, rfl, .ty "bool", ht2, hb2, _, rfl, ?_⟩
        cases h2 with
        | lst _ _ => simp [okD] at ok2
        | tup _ _ => cases n2
        | bl b2 =>
          refine iteT ?_
          refine ⟨_, rfl, _, _, _, _, _, rfl, .ty "bool", ht1, hb1, _, rfl, iteF ?_⟩
          simpa [eqD] using q
        | non => exact iteF ⟨_, rfl, _, rfl, rfl, by simpa [eqD] using q⟩
        | int i => exact iteF ⟨_, rfl, _, rfl, rfl, by simpa [eqD] using q⟩
        | str x => exact iteF ⟨_, rfl, _, rfl, rfl, by simpa [eqD] using q⟩
end
end Vk
namespace Vk
open PySem PySem.Spec PyProof.Rows L2
open C8 (pss_cut tCut)
structure TReg (K : PySem.W.Frag) (mg : Str → Option Value) (C fI : Addr) : Prop where
  cl : Cls K C
  nN : NoAttr K C "_names"
  nS : NoAttr K C "_sealed"
  nP : NoAttr K C "_pens"
  mg_Registry : mg "Registry" = some (.ref C)
  mk_Registry : Mk K C fI
section
variable {P : Program} {w : World} {K : PySem.W.Frag} {mg : Str → Option Value} {base : Heap}
def spInit (C : Addr) : Sp := fun vs H Q _ => ∃ (p dx : Addr), vs = [.ref p] ∧ H p = some (.ins C dx []) ∧
  ∀ (fs : List (Str × V)) (H' : Hp), H' p = some (.ins C dx fs) → (∀ b o, H b = some o → b ≠ p → H' b = some o) → Q .non H'
abbrev s_init : Stmt := inClass (top 8) 0
theorem sc_init : FnScope ["self"] ["self"] (defScope s_init) := ⟨rfl, rfl, rfl, by decide +kernel, rfl, by decide +kernel, by decide +kernel⟩
theorem ok_init {f C fI : Addr} {fd : FuncData} (F : Fun K "__init__" "Registry.__init__" s_init f fd) (T : TReg K mg C fI) : FnOk P w K mg base CX0 1 f fd ["self"] (spInit C) := by
  refine F.ok sc_init (fun vs H Q E h => ?_) (fun cdv A outer s H vs Q E hr h => ?_)
  · obtain ⟨p, dx, rfl, _⟩ := h
    rfl
  · obtain ⟨p, dx, rfl, hp, k⟩ := h
    refine ⟨_, (pss_cons (ps_fld (pv 0) pe_dnewK rfl)
  (pss_cons (ps_fld (pv 0) pe_dnewK rfl)
  (pss_one (ps_fld (pv 0) pe_dnewK rfl)))), ?_⟩
    intro a ha
    have n1 : p ≠ a := ne_of_none hp ha
    refine ⟨_, rfl, p, C, dx, [], rfl, (by rw [upd_ne n1]; exact hp), T.cl, T.nN, (by show 0 < 1000; decide), ?_⟩
    intro b hb
    have n2 : p ≠ b := ne_of_none upd_same hb
    have n3 : b ≠ a := by
      intro z
      subst z
      rw [upd_ne n1.symm, upd_same] at hb
      cases hb
    refine ⟨_, rfl, p, C, dx, _, rfl, (by rw [upd_ne n2]; exact upd_same), T.cl, T.nS, (by show 1 < 1000; decide), ?_⟩
    intro c hc
    have n4 : p ≠ c := ne_of_none upd_same hc
    have n5 : c ≠ b := by
      intro z
      subst z
      rw [upd_ne n2.symm, upd_same] at hc
      cases hc
    have n6 : c ≠ a := by
      intro z
      subst z
      rw [upd_ne n1.symm, upd_ne n3.symm, upd_ne n1.symm, upd_same] at hc
      cases hc
    refine ⟨_, rfl, p, C, dx, _, rfl, (by rw [upd_ne n4]; exact upd_same), T.cl, T.nP, (by show 2 < 1000; decide), ?_⟩
    refine k _ _ upd_same fun d o e hd => ?_
    have d1 : d ≠ a := ne_of_none e ha
    have e1 : (upd (upd H a (.dK [])) p (.ins C dx (putF "_names" (.ref a) []))) d = some o := by rw [upd_ne hd, upd_ne d1]; exact e
    have d2 : d ≠ b := ne_of_none e1 hb
    have e2 : (upd (upd (upd (upd H a (.dK [])) p (.ins C dx (putF "_names" (.ref a) []))) b (.dK [])) p (.ins C dx (putF "_sealed" (.ref b) (putF "_names" (.ref a) [])))) d = some o := by rw [upd_ne hd, upd_ne d2]; exact e1
    have d3 : d ≠ c := ne_of_none e2 hc
    rw [upd_ne hd, upd_ne d3]
    exact e2
def spGreat : Sp := fun vs H Q _ => ∃ n : Int, vs = [.int n] ∧ ∀ (i : Int) (H' : Hp), Same H H' → decide (V.int i = V.int ((10 ^ 60 : Int) - 1)) = plainV (.int i) → Q (.int i) H'
abbrev s_great : Stmt := top 13
theorem sc_great : FnScope ["number"] ["number"] (defScope s_great) := ⟨rfl, rfl, rfl, by decide +kernel, rfl, by decide +kernel, by decide +kernel⟩
theorem ok_great {f : Addr} {fd : FuncData} (F : Fun K "_law_great" "_law_great" s_great f fd) : FnOk P w K mg base CX0 1 f fd ["number"] spGreat := by
  refine F.ok sc_great (fun vs H Q E h => ?_) (fun cdv A outer s H vs Q E hr h => ?_)
  · obtain ⟨n, rfl, _⟩ := h
    rfl
  · obtain ⟨n, rfl, q⟩ := h
    refine ⟨_, (pss_one (ps_ret (pe_ix ix_list (pe_lst (pa_cons (pe_op op_pow pe_int pe_int) (pa_cons (pe_op op_sub pe_int (pe_op op_pow pe_int pe_int)) (pa_cons (pe_op op_pow pe_int pe_int) (pa_cons (pe_op op_sub (pe_op op_pow pe_int pe_int) pe_int) pa_nil))))) (pe_op op_mod (pv 0) pe_int) (fun _ _ => rfl)))), ?_⟩
    refine ⟨_, _, rfl, rfl, ⟨by decide, by decide, by decide⟩, ?_⟩
    refine ⟨_, _, rfl, rfl, ⟨by decide, by decide, by decide⟩, _, _, rfl, rfl, ?_⟩
    refine ⟨_, _, rfl, rfl, ⟨by decide, by decide, by decide⟩, ?_⟩
    refine ⟨_, _, rfl, rfl, ⟨by decide, by decide, by decide⟩, _, _, rfl, rfl, ?_⟩
    refine ⟨by show 4 ≤ sizeLine; decide, fun p hp => ?_⟩
    obtain ⟨v, hv, hm⟩ := atI_some (xs := [V.int (10 ^ (60 : Int).toNat), .int (0 - 10 ^ (60 : Int).toNat), .int (10 ^ (62 : Int).toNat), .int (10 ^ (60 : Int).toNat - 1)]) (i := n % 4) (by omega) (by show n % 4 < 4; omega)
    have hz : ∃ i : Int, v = .int i ∧ decide (V.int i = V.int ((10 ^ 60 : Int) - 1)) = plainV (.int i) := by
      simp only [List.mem_cons, List.not_mem_nil, or_false] at hm
      rcases hm with h | h | h | h <;> exact ⟨_, h, by decide +kernel⟩
    obtain ⟨i, rfl, i1⟩ := hz
    exact ⟨_, rfl, _, _, rfl, rfl, (by show (0 : Int) < 4; decide), p, _, _, _, rfl, rfl, SqL.of upd_same, hv, q i _ (same_new hp) i1⟩
def spDeep (K : PySem.W.Frag) (n : Nat) : Sp := fun vs H Q _ => ∃ v d, vs = [v] ∧ Dp K H v d ∧ okD d = true ∧ d.depth < n ∧ Q (.int (d.depth : Nat)) H
theorem depth_take : ∀ (xs : List PyData) (i : Nat) (d : PyData), xs[i]? = some d → PyData.depthAll (xs.take (i + 1)) = max (PyData.depthAll (xs.take i)) d.depth
  | [], _, _, h => by simp at h
  | x :: xs, 0, d, h => by
    simp at h
    subst h
    simp [PyData.depthAll]
  | x :: xs, i + 1, d, h => by
    have ih := depth_take xs i d (by simpa using h)
    simp only [List.take_succ_cons, PyData.depthAll, ih]
    omega
abbrev s_deep : Stmt := top 14
theorem sc_deep : FnScope ["value", "deepest", "part"] ["value"] (defScope s_deep) := ⟨rfl, rfl, rfl, by decide +kernel, rfl, by decide +kernel, by decide +kernel⟩
theorem ok_deep {f : Addr} {fd : FuncData} (F : Fun K "_law_deep" "_law_deep" s_deep f fd) {tb tm : Tok} (T : T1 mg tb tm) (mgS : mg "_law_deep" = some (.ref f)) (kpS : PySem.W.keepIn K (.ref f) = true) (bS : Binds K fd ["value"] []) :
    ∀ n, FnOk P w K mg base CX0 n f fd ["value"] (spDeep K n)
  | 0 => ⟨fun vs H Q E h => by obtain ⟨v, d, rfl, _⟩ := h; rfl, fun A outer s H args us vs Q E _ _ _ _ h => by
      obtain ⟨v, d, _, _, _, dep, _⟩ := h
      exact absurd dep (Nat.not_lt_zero _)⟩
  | n + 1 => by
    have C_deep : Cal P w K mg base "_law_deep" n f fd ["value"] (spDeep K n) := ⟨ok_deep F T mgS kpS bS n, mgS, kpS, bS⟩
    refine F.ok sc_deep (fun vs H Q E h => ?_) (fun cdv A outer s H vs Q E hr h => ?_)
    · obtain ⟨v, d, rfl, _⟩ := h
      rfl
    · obtain ⟨v, d, rfl, h, ok, dep, q⟩ := h
      refine ⟨_, (pss_cons (ps_if (pt_not (pt_val (pe_callB (r := rIsi K) call_isi (by rfl) T.isinstance bo_isinstance (pa_cons (pv 0) (pa_cons (pe_bltn (v := .ty "tuple") (by rfl) T.tuple (by decide +kernel) rfl) pa_nil))))) (pss_one (ps_ret pe_int)) pss_nil)
  (pss_cons (ps_set (i := 1) sc_deep.nd rfl (Or.inl rfl) pe_int)
  (pss_cons (ps_for PassesOwn.never rfl (pi_tup (pv 0)) (pg_name (i := 2) sc_deep.nd rfl (Or.inl rfl))
  (pss_one (ps_set (i := 1) sc_deep.nd rfl (Or.inl rfl) (pe_callB (call_max2 rfl) (by rfl) T.max bo_max (pa_cons (pv 1) (pa_cons (pe_call C_deep.G hr rfl C_deep.mg C_deep.kp C_deep.B .nil pass0 (pa_cons (pv 2) pa_nil)) pa_nil))))))
  (pss_one (ps_ret (pe_op op_add (pv 1) pe_int)))))), ?_⟩
      have ht := dp_ty h ok
      have hk := kit_tup (K := K) ok
      refine ⟨_, rfl, _, _, _, _, _, rfl, .ty "tuple", ht, hk, _, rfl, ?_⟩
      by_cases c : isTupD d = true
      · refine ifF (by rw [c]; rfl) ?_
        cases h with
        | non => cases c
        | bl b => cases c
        | int i => cases c
        | str x => cases c
        | lst _ _ => simp [okD] at ok
        | @tup a vs xs hs ha =>
        have okx : okDs xs = true := by simpa [okD] using ok
        refine ⟨_, rfl, a, rfl, ⟨_, hs⟩, ?_⟩
        have ln := dp_len ha
        simp only [PyData.depth] at dep q
        refine for_tup (K := K) (a := a) (xs := vs) (fun i σ H' => H' = H ∧ ∃ x2, σ = [some (.ref a), some (.int (PyData.depthAll (xs.take i) : Nat)), x2])
          ⟨rfl, none, rfl⟩ (fun i σ H' _ ⟨e, _⟩ => by rw [e]; exact hs) ?_ ?_
        · rintro i x σ H' hi ⟨rfl, x2, rfl⟩
          obtain ⟨d, ed, hd⟩ := dp_at' ha hi
          have dd := depth_at ed
          refine ⟨_, rfl, _, rfl, x, d, rfl, hd, okDs_at okx ed, by omega, _, _, rfl, rfl, some x, ?_⟩
          have e2 := depth_take xs i d ed
          have e3 : (if (d.depth : Int) > (PyData.depthAll (xs.take i) : Int) then (d.depth : Int) else (PyData.depthAll (xs.take i) : Int)) = ((PyData.depthAll (xs.take (i + 1)) : Nat) : Int) := by
            rw [e2]
            by_cases c : (d.depth : Int) > (PyData.depthAll (xs.take i) : Int)
            · rw [if_pos c]
              omega
            · rw [if_neg c]
              omega
          rw [e3]
          rfl
        · rintro σ H' ⟨rfl, x2, rfl⟩
          refine ⟨_, rfl, _, _, rfl, rfl, ?_⟩
          rw [ln, List.take_length]
          exact q
      · refine ifT (by rw [notTup c]; rfl) ?_
        have z : d.depth = 0 := by
          cases d <;> first | rfl | (simp [isTupD] at c; done) | (simp [okD] at ok; done)
        rw [z] at q
        exact q
def spIs : Sp := fun vs H Q _ => ∃ a b : Bool, vs = [.bl a, .bl b] ∧ Q (.bl (decide (V.bl a = V.bl b))) H
abbrev s_is : Stmt := top 16
theorem sc_is : FnScope ["answer", "due"] ["answer", "due"] (defScope s_is) := ⟨rfl, rfl, rfl, by decide +kernel, rfl, by decide +kernel, by decide +kernel⟩
theorem ok_is {f : Addr} {fd : FuncData} (F : Fun K "_law_is" "_law_is" s_is f fd) {tb tm : Tok} (T : T1 mg tb tm) : FnOk P w K mg base CX0 1 f fd ["answer", "due"] spIs := by
  refine F.ok sc_is (fun vs H Q E h => ?_) (fun cdv A outer s H vs Q E hr h => ?_)
  · obtain ⟨a, b, rfl, _⟩ := h
    rfl
  · obtain ⟨a, b, rfl, q⟩ := h
    refine ⟨_, (pss_one (ps_ret (pe_and (pe_callB (r := rIsi K) call_isi (by rfl) T.isinstance bo_isinstance (pa_cons (pv 0) (pa_cons (pe_bltn (v := .ty "bool") (by rfl) T.bool (by decide +kernel) rfl) pa_nil))) (pe_one (pe_cmpR op_eq (pv 0) (pv 1) (nomark _)))))), ?_⟩
    have ht : TyX K H (.bl a) (.type "bool") := .base (.bl a)
    have hk : PySem.W.kitOne K (.type "bool") (.type "bool") = some true := kit_ty (a := "bool") (r := true) (by decide +kernel)
    refine ⟨_, rfl, _, _, _, _, _, rfl, .ty "bool", ht, hk, _, rfl, iteT ?_⟩
    exact ⟨_, rfl, _, rfl, rfl, q⟩
end
end Vk
namespace Vk
open PySem PySem.Spec PyProof.Rows L2
open C8 (pss_cut tCut)
section
variable {P : Program} {w : World} {K : PySem.W.Frag} {mg : Str → Option Value} {base : Heap}
/-- values of the list at xs, each with a tree that is not plain -/
def Odds (K : PySem.W.Frag) (H : Hp) (xs : List V) : Prop := ∀ i x, (xs : List V)[(i : Nat)]? = some (x : V) → ∃ t, Rp K H x t ∧ allP t = false ∧ sizeT t ≤ 1000
theorem rp_ref {H : Hp} {K : PySem.W.Frag} {a : Addr} (h : Atom H (.ref a)) : Rp K H (.ref a) (.leaf (.ref a)) := .leaf h
def spOdd (K : PySem.W.Frag) : Sp := fun vs H Q _ => ∃ (a : Addr) (ns : List Int) (ct : Int) (v : V) (t : Tr), vs = [.ref a, .int ct, v] ∧ SqL K H a (ns.map V.int) ∧ ns.length ≤ 63 ∧ 0 ≤ ct ∧ ct ≤ 26 ∧
  Rp K H v t ∧ sizeT t ≤ 900 ∧ ∀ H', Same H H' → Q (.bl true) H'
abbrev s_odd : Stmt := top 17
theorem sc_odd : FnScope ["script", "count", "leaf", "odd", "great"] ["script", "count", "leaf"] (defScope s_odd) := ⟨rfl, rfl, rfl, by decide +kernel, rfl, by decide +kernel, by decide +kernel⟩
theorem ok_odd {f C fI fr fp fw fg fi : Addr} {fd fdI fdr fdp fdw fdg fdi : FuncData} (F : Fun K "_law_odd" "_law_odd" s_odd f fd) (T : TReg K mg C fI) {tb tm : Tok} (T2 : T1 mg tb tm)
    (C_draw : Cal P w K mg base "_law_draw" 1 fr fdr ["script", "k"] (spDraw K)) (C_wrapped : Cal P w K mg base "_law_wrapped" 2 fw fdw ["script", "start", "count", "value"] (spWrapped K))
    (C_is_plain : Cal P w K mg base "is_plain" 3 fp fdp ["value"] (spPlain K)) (C_great : Cal P w K mg base "_law_great" 1 fg fdg ["number"] spGreat) (C_is : Cal P w K mg base "_law_is" 1 fi fdi ["answer", "due"] spIs)
    (G_init : FnOk P w K mg base CX0 1 fI fdI ["self"] (spInit C)) (B_init : Binds K fdI ["self"] []) :
    FnOk P w K mg base CX0 4 f fd ["script", "count", "leaf"] (spOdd K) := by
  refine F.ok sc_odd (fun vs H Q E h => ?_) (fun cdv A outer s H vs Q E hr h => ?_)
  · obtain ⟨a, ns, ct, v, t, rfl, _⟩ := h
    rfl
  · obtain ⟨a, ns, ct, v, t, rfl, hS, hl, c0, c1, hv, sz, q⟩ := h
    refine ⟨_, (pss_cons (ps_for PassesOwn.never rfl (pi_list (pe_lst (pa_cons (pe_lst (pa_cons (pv 2) pa_nil)) (pa_cons pe_dnewK (pa_cons (pe_make0 T.mk_Registry G_init (hr.mono (by decide)) rfl T.mg_Registry B_init .nil pass0) (pa_cons (pe_tup (pa_cons pe_int (pa_cons (pe_lst (pa_cons pe_int pa_nil)) pa_nil))) (pa_cons (pe_tup (pa_cons (pv 2) (pa_cons (pe_disp (pps_cons pe_int pe_int pps_nil) (by rfl) (by rfl) (fun z => by cases z) (by decide)) pa_nil))) pa_nil))))))) (pg_name (i := 3) sc_odd.nd rfl (Or.inl rfl))
  (pss_one (ps_if (pt_not (pt_val (pe_call C_is.G (hr.mono (by decide)) rfl C_is.mg C_is.kp C_is.B .nil pass0 (pa_cons (pe_call C_is_plain.G (hr.mono (by decide)) rfl C_is_plain.mg C_is_plain.kp C_is_plain.B .nil pass0 (pa_cons (pe_call C_wrapped.G (hr.mono (by decide)) rfl C_wrapped.mg C_wrapped.kp C_wrapped.B .nil pass0 (pa_cons (pv 0) (pa_cons pe_int (pa_cons (pv 1) (pa_cons (pv 3) pa_nil))))) pa_nil)) (pa_cons pe_bl pa_nil))))) (pss_one (ps_ret pe_bl)) pss_nil)))
  (pss_cons (ps_set (i := 4) sc_odd.nd rfl (Or.inl rfl) (pe_call C_great.G (hr.mono (by decide)) rfl C_great.mg C_great.kp C_great.B .nil pass0 (pa_cons (pe_call C_draw.G (hr.mono (by decide)) rfl C_draw.mg C_draw.kp C_draw.B .nil pass0 (pa_cons (pv 0) (pa_cons pe_int pa_nil))) pa_nil)))
  (pss_one (ps_ret (pe_call C_is.G (hr.mono (by decide)) rfl C_is.mg C_is.kp C_is.B .nil pass0 (pa_cons (pe_call C_is_plain.G (hr.mono (by decide)) rfl C_is_plain.mg C_is_plain.kp C_is_plain.B .nil pass0 (pa_cons (pe_call C_wrapped.G (hr.mono (by decide)) rfl C_wrapped.mg C_wrapped.kp C_wrapped.B .nil pass0 (pa_cons (pv 0) (pa_cons pe_int (pa_cons (pv 1) (pa_cons (pv 4) pa_nil))))) pa_nil)) (pa_cons (pe_cmpR op_eq (pv 4) (pe_op op_sub (pe_op op_pow pe_int pe_int) pe_int) (nomark _)) pa_nil))))))), ?_⟩
    -- the list of odd values
    refine ⟨_, rfl, by show 1 ≤ sizeLine; decide, fun p1 h1 => ?_⟩
    intro p2 h2
    intro x dx nx ndx nex
    refine ⟨x, dx, rfl, upd_same, fun fs H3 hins kp => ⟨rfl, ?_⟩⟩
    refine ⟨by show 1 ≤ sizeLine; decide, fun p3 h3 => ⟨by show 2 ≤ sizeLine; decide, fun p4 h4 => ?_⟩⟩
    have s1 : Same H (upd H p1 (.lst [v])) := same_new h1
    have s2 : Same (upd H p1 (.lst [v])) (upd (upd H p1 (.lst [v])) p2 (.dK [])) := same_new h2
    have e1 : H3 p1 = some (.lst [v]) := by
      refine kp p1 _ ?_ (ne_of_none (s2 _ _ upd_same) nx)
      rw [upd_ne (ne_of_none (s2 _ _ upd_same) nx), upd_ne (ne_of_none (s2 _ _ upd_same) ndx)]
      exact s2 _ _ upd_same
    have s3 : Same H H3 := fun b o e => by
      have e' := s2 _ _ (s1 _ _ e)
      refine kp b o ?_ (ne_of_none e' nx)
      rw [upd_ne (ne_of_none e' nx), upd_ne (ne_of_none e' ndx)]
      exact e'
    have e2 : H3 p2 = some (.dK []) := by
      have e' : (upd (upd H p1 (.lst [v])) p2 (.dK [])) p2 = some (.dK []) := upd_same
      refine kp p2 _ ?_ (ne_of_none e' nx)
      rw [upd_ne (ne_of_none e' nx), upd_ne (ne_of_none e' ndx)]
      exact e'
    have s4 : Same H3 (upd H3 p3 (.lst [.int 2])) := same_new h3
    have s5 := same_new (o := .tup [.int 1, .ref p3]) h4
    refine ⟨_, rfl, fun p5 h5 => ⟨upd_same, [(.inl 1, .int 2)], rfl, by decide, by show 2 ≤ sizeLine; decide, fun p6 h6 => ⟨by show 5 ≤ sizeLine; decide, fun pL hL => ?_⟩⟩⟩
    have e12 : ∀ {H1 : Hp} {p : Addr} {o o' : HO}, H1 p = none → Same H1 (upd (upd H1 p o) p o') := fun hn b o e => by
      rw [upd_ne (ne_of_none e hn), upd_ne (ne_of_none e hn)]
      exact e
    generalize hHA : upd H3 p3 (.lst [.int 2]) = HA at *
    have fA : HA p3 = some (.lst [.int 2]) := by rw [← hHA]; exact upd_same
    generalize hHB : upd HA p4 (.tup [.int 1, .ref p3]) = HB at *
    have fB : HB p4 = some (.tup [.int 1, .ref p3]) := by rw [← hHB]; exact upd_same
    have s6 : Same HB (upd (upd HB p5 (.dK [])) p5 (.dK (mergeK [] [(.inl 1, .int 2)]))) := e12 h5
    generalize hHC : upd (upd HB p5 (.dK [])) p5 (.dK (mergeK [] [(.inl 1, .int 2)])) = HC at *
    have fC : HC p5 = some (.dK (mergeK [] [(.inl 1, .int 2)])) := by rw [← hHC]; exact upd_same
    have s7 := same_new (o := .tup [v, .ref p5]) h6
    generalize hHD : upd HC p6 (.tup [v, .ref p5]) = HD at *
    have fD : HD p6 = some (.tup [v, .ref p5]) := by rw [← hHD]; exact upd_same
    have s8 := same_new (o := .lst [.ref p1, .ref p2, .ref x, .ref p4, .ref p6]) hL
    generalize hHE : upd HD pL (.lst [.ref p1, .ref p2, .ref x, .ref p4, .ref p6]) = HE at *
    have fE : HE pL = some (.lst [.ref p1, .ref p2, .ref x, .ref p4, .ref p6]) := by rw [← hHE]; exact upd_same
    have t3 : Same H3 HE := (((s4.trans s5).trans s6).trans s7).trans s8
    have tA : Same HA HE := ((s5.trans s6).trans s7).trans s8
    have tB : Same HB HE := (s6.trans s7).trans s8
    have tC : Same HC HE := s7.trans s8
    have tH : Same H HE := s3.trans t3
    have odds : Odds K HE [.ref p1, .ref p2, .ref x, .ref p4, .ref p6] := by
      intro i y hy
      match i, hy with
      | 0, hy => cases hy; exact ⟨_, rp_ref (.inl ⟨_, t3 _ _ e1⟩), rfl, by simp [sizeT]⟩
      | 1, hy => cases hy; exact ⟨_, rp_ref (.inr (.inl ⟨_, t3 _ _ e2⟩)), rfl, by simp [sizeT]⟩
      | 2, hy => cases hy; exact ⟨_, rp_ref (.inr (.inr ⟨_, _, _, t3 _ _ hins⟩)), rfl, by simp [sizeT]⟩
      | 3, hy => cases hy; exact ⟨_, .node (SqT.of (tB _ _ fB)) (.cons (.leaf (v := .int 1) trivial) (.cons (rp_ref (.inl ⟨_, tA _ _ fA⟩)) .nil)), rfl, by simp [sizeT, sizeTs]⟩
      | 4, hy => cases hy; exact ⟨_, .node (SqT.of (s8 _ _ fD)) (.cons (rp_same tH _ _ hv) (.cons (rp_ref (.inr (.inl ⟨_, tC _ _ fC⟩))) .nil)), by simp [allP, allPs, plainV], by simp only [sizeT, sizeTs]; omega⟩
      | i + 5, hy => simp at hy
    refine ⟨pL, rfl, ⟨_, SqL.of fE⟩, ?_⟩
    refine for_list (K := K) (a := pL) (xs := [.ref p1, .ref p2, .ref x, .ref p4, .ref p6]) (fun i σ H' => Same HE H' ∧ ∃ x3, σ = [some (.ref a), some (.int ct), some v, x3, none])
      ⟨Same.refl HE, none, rfl⟩ (fun i σ H' _ ⟨s, _⟩ => SqL.of (s _ _ fE)) ?_ ?_
    · rintro i y σ H' hi ⟨s9, x3, rfl⟩
      obtain ⟨ty, rpy, al, szy⟩ := odds i y hi
      refine ⟨_, rfl, _, rfl, _, rfl, a, ns, _, _, y, ty, rfl, (tH.trans s9).seq hS, hl, by decide, by decide, c0, by omega, rp_same s9 _ _ rpy, fun v' t' H4 s10 rp4 W => ?_⟩
      have wsz := W.size
      refine ⟨v', t', rfl, rp4, by omega, fun H5 s11 => ?_⟩
      have pf : plainT 0 t' = false := by
        rw [plain_eq t' 0 (by decide), W.all, al]
        rfl
      rw [pf]
      refine ⟨_, _, rfl, _, rfl, iteF ?_⟩
      exact ⟨(s9.trans s10).trans s11, _, rfl⟩
    · rintro σ H' ⟨s9, x3, rfl⟩
      refine ⟨_, rfl, a, ns, _, rfl, (tH.trans s9).seq hS, hl, by decide, by decide, ?_⟩
      refine ⟨_, rfl, fun i H4 s10 hi => ?_⟩
      have s11 : Same H H4 := (tH.trans s9).trans s10
      refine ⟨_, rfl, _, rfl, _, rfl, a, ns, _, _, _, .leaf (.int i), rfl, s11.seq hS, hl, by decide, by decide, c0, by omega, .leaf trivial, fun v' t' H5 s12 rp5 W => ?_⟩
      have wsz := W.size
      have wdep := W.dep
      have z1 : sizeT (.leaf (.int i)) = 1 := by simp [sizeT]
      have z2 : depthT (.leaf (.int i)) = 0 := by simp [depthT]
      have z3 : allP (.leaf (.int i)) = plainV (.int i) := by simp [allP]
      refine ⟨v', t', rfl, rp5, by omega, fun H6 s13 => ?_⟩
      have pf : plainT 0 t' = plainV (.int i) := by
        rw [plain_eq t' 0 (by decide), W.all, z3, decide_eq_true (by omega), Bool.and_true]
      rw [pf]
      refine ⟨_, rfl, _, _, rfl, rfl, ⟨by decide, by decide, by decide⟩, _, _, rfl, rfl, rfl, ?_⟩
      refine ⟨_, _, rfl, ?_⟩
      have e9 : decide (V.bl (plainV (.int i)) = V.bl (decide (V.int i = V.int ((10 ^ (60 : Int).toNat : Int) - 1)))) = true := by
        have e8 : decide (V.int i = V.int ((10 ^ (60 : Int).toNat : Int) - 1)) = plainV (.int i) := hi
        rw [e8]
        exact decide_eq_true rfl
      rw [e9]
      exact q _ (s11.trans (s12.trans s13))
end
end Vk
namespace Vk
open PySem PySem.Spec PyProof.Rows L2
open C8 (pss_cut tCut)
section
variable {P : Program} {w : World} {K : PySem.W.Frag} {mg : Str → Option Value} {base : Heap}
/-- a tree of plain parts, how deep and how large -/
structure Gd (t : Tr) (n : Nat) : Prop where
  good : goodT t
  all : allP t = true
  dep : depthT t ≤ n
  size : sizeT t ≤ 200 * (n + 1)
  enc : (encD (toD t)).length ≤ 200 * (n + 1)
theorem gd_of {d : PyData} (ok : okD d = true) (dep : d.depth ≤ 2) (len : (encD d).length ≤ 100) (pl : plD d = true) : Gd (trD d) 2 := by
  obtain ⟨z1, z2, z3, z4⟩ := toD_trD d ok
  have z5 := size_enc d ok
  exact ⟨⟨z2, by rw [z1]; exact ok⟩, by rw [z4]; exact pl, by omega, by omega, by rw [z1]; omega⟩
theorem gd_wr {t t' : Tr} {n : Nat} (g : Gd t 2) (W : Wr t n t') : Gd t' (2 + n) := by
  obtain ⟨h1, h2⟩ := W.good g.good
  have := W.dep
  have := W.size
  have := g.dep
  have := g.size
  have := g.enc
  exact ⟨h1, by rw [W.all]; exact g.all, by omega, by omega, by omega⟩
theorem gd_up {t : Tr} {n m : Nat} (g : Gd t n) (h : n ≤ m) : Gd t m :=
  ⟨g.good, g.all, by have := g.dep; omega, by have := g.size; omega, by have := g.enc; omega⟩
theorem gd_two {t u : Tr} {n : Nat} (g : Gd t n) (h : Gd u n) : Gd (.node [t, u]) (2 * n + 2) := by
  have := g.dep
  have := g.size
  have := g.enc
  have := h.dep
  have := h.size
  have := h.enc
  have e : toD (.node [t, u]) = .tuple [toD t, toD u] := by simp [toD, toDs]
  exact ⟨⟨by simp [scT, scTs, g.good.1, h.good.1], by rw [e]; exact okD_two g.good.2 h.good.2⟩, by simp only [allP, allPs, g.all, h.all, Bool.and_self], by simp only [depthT, depthTs]; omega, by simp only [sizeT, sizeTs]; omega, by rw [e, enc_two]; omega⟩
theorem gd_dep {t u : Tr} {n : Nat} (g : depthT t ≤ n) (h : depthT u ≤ n) : depthT (.node [t, u]) ≤ n + 1 := by
  simp only [depthT, depthTs]
  omega
theorem gd_one {t : Tr} {n : Nat} (g : Gd t n) : Gd (.node [t]) (n + 1) := by
  have := g.dep
  have := g.size
  have := g.enc
  have e : toD (.node [t]) = .tuple [toD t] := by simp [toD, toDs]
  exact ⟨⟨by simp [scT, scTs, g.good.1], by rw [e]; exact okD_one g.good.2⟩, by simp only [allP, allPs, g.all, Bool.and_self], by simp only [depthT, depthTs]; omega, by simp only [sizeT, sizeTs]; omega, by rw [e, enc_one]; omega⟩
def spLaw (K : PySem.W.Frag) : Sp := fun vs H Q _ => ∃ (a : Addr) (ns : List Int), vs = [.ref a] ∧ SqL K H a (ns.map V.int) ∧ ns.length ≤ 63 ∧ ∀ H', Q (.bl true) H'
abbrev s_law : Stmt := top 18
theorem sc_law : FnScope ["script", "number", "count", "leaf", "twin", "value", "other", "each", "again", "one", "two"] ["script"] (defScope s_law) := ⟨rfl, rfl, rfl, by decide +kernel, rfl, by decide +kernel, by decide +kernel⟩
theorem ok_law {f C fI fr fpa fw fp fd1 fi fo fs fls : Addr} {fd fdr fdpa fdw fdp fdd fdi fdo fds fdls : FuncData} (F : Fun K "law" "law" s_law f fd) (T : TReg K mg C fI)
    (C_draw : Cal P w K mg base "_law_draw" 1 fr fdr ["script", "k"] (spDraw K)) (C_part : Cal P w K mg base "_law_part" 1 fpa fdpa ["number"] (spPart K)) (C_wrapped : Cal P w K mg base "_law_wrapped" 2 fw fdw ["script", "start", "count", "value"] (spWrapped K))
    (C_is_plain : Cal P w K mg base "is_plain" 3 fp fdp ["value"] (spPlain K)) (C_deep : Cal P w K mg base "_law_deep" 40 fd1 fdd ["value"] (spDeep K 40)) (C_is : Cal P w K mg base "_law_is" 1 fi fdi ["answer", "due"] spIs)
    (C_odd : Cal P w K mg base "_law_odd" 4 fo fdo ["script", "count", "leaf"] (spOdd K)) (C_same : Cal P w K mg base "same" 1 fs fds ["first", "second"] (spSameP K)) (C_lsame : Cal P w K mg base "_law_same" 40 fls fdls ["first", "second"] (spSame K 40)) :
    FnOk P w K mg base CX0 42 f fd ["script"] (spLaw K) := by
  refine F.ok sc_law (fun vs H Q E h => ?_) (fun cdv A outer s H vs Q E hr h => ?_)
  · obtain ⟨a, ns, rfl, _⟩ := h
    rfl
  · obtain ⟨a, ns, rfl, hS, hl, q⟩ := h
    refine ⟨_, (pss_cons (ps_set (i := 1) sc_law.nd rfl (Or.inl rfl) (pe_call C_draw.G (hr.mono (by decide)) rfl C_draw.mg C_draw.kp C_draw.B .nil pass0 (pa_cons (pv 0) (pa_cons pe_int pa_nil))))
  (pss_cons (ps_set (i := 2) sc_law.nd rfl (Or.inl rfl) (pe_ix ix_list (pe_lst (pa_cons (pe_op op_mod (pv 1) pe_int) (pa_cons (pe_op op_add pe_int (pe_op op_mod (pe_op op_fdiv (pv 1) pe_int) pe_int)) pa_nil))) (pe_op op_mod (pe_call C_draw.G (hr.mono (by decide)) rfl C_draw.mg C_draw.kp C_draw.B .nil pass0 (pa_cons (pv 0) (pa_cons pe_int pa_nil))) pe_int) (fun _ _ => rfl)))
  (pss_cons (ps_set (i := 3) sc_law.nd rfl (Or.inl rfl) (pe_call C_part.G (hr.mono (by decide)) rfl C_part.mg C_part.kp C_part.B .nil pass0 (pa_cons (pe_call C_draw.G (hr.mono (by decide)) rfl C_draw.mg C_draw.kp C_draw.B .nil pass0 (pa_cons (pv 0) (pa_cons pe_int pa_nil))) pa_nil)))
  (pss_cons (ps_set (i := 4) sc_law.nd rfl (Or.inl rfl) (pe_call C_part.G (hr.mono (by decide)) rfl C_part.mg C_part.kp C_part.B .nil pass0 (pa_cons (pe_call C_draw.G (hr.mono (by decide)) rfl C_draw.mg C_draw.kp C_draw.B .nil pass0 (pa_cons (pv 0) (pa_cons pe_int pa_nil))) pa_nil)))
  (pss_cons (ps_set (i := 5) sc_law.nd rfl (Or.inl rfl) (pe_call C_wrapped.G (hr.mono (by decide)) rfl C_wrapped.mg C_wrapped.kp C_wrapped.B .nil pass0 (pa_cons (pv 0) (pa_cons pe_int (pa_cons (pv 2) (pa_cons (pv 3) pa_nil))))))
  (pss_cons (ps_set (i := 6) sc_law.nd rfl (Or.inl rfl) (pe_call C_wrapped.G (hr.mono (by decide)) rfl C_wrapped.mg C_wrapped.kp C_wrapped.B .nil pass0 (pa_cons (pv 0) (pa_cons pe_int (pa_cons (pv 2) (pa_cons (pv 4) pa_nil))))))
  (pss_cons (ps_for PassesOwn.never rfl (pi_list (pe_lst (pa_cons (pv 3) (pa_cons (pv 5) (pa_cons (pv 6) (pa_cons (pe_tup (pa_cons (pv 5) (pa_cons (pv 6) pa_nil))) pa_nil)))))) (pg_name (i := 7) sc_law.nd rfl (Or.inl rfl))
  (pss_one (ps_if (pt_not (pt_val (pe_call C_is.G (hr.mono (by decide)) rfl C_is.mg C_is.kp C_is.B .nil pass0 (pa_cons (pe_call C_is_plain.G (hr.mono (by decide)) rfl C_is_plain.mg C_is_plain.kp C_is_plain.B .nil pass0 (pa_cons (pv 7) pa_nil)) (pa_cons (pe_cmpR op_le (pe_call C_deep.G (hr.mono (by decide)) rfl C_deep.mg C_deep.kp C_deep.B .nil pass0 (pa_cons (pv 7) pa_nil)) pe_int (nomark _)) pa_nil))))) (pss_one (ps_ret pe_bl)) pss_nil)))
  (pss_cons (ps_if (pt_not (pt_val (pe_call C_odd.G (hr.mono (by decide)) rfl C_odd.mg C_odd.kp C_odd.B .nil pass0 (pa_cons (pv 0) (pa_cons (pe_op op_mod (pv 2) pe_int) (pa_cons (pv 3) pa_nil)))))) (pss_one (ps_ret pe_bl)) pss_nil)
  (pss_cons (ps_if (pt_cmpR op_gt (pe_call C_deep.G (hr.mono (by decide)) rfl C_deep.mg C_deep.kp C_deep.B .nil pass0 (pa_cons (pe_tup (pa_cons (pv 5) (pa_cons (pv 6) pa_nil))) pa_nil)) pe_int (nomark _)) (pss_one (ps_ret pe_bl)) pss_nil)
  (pss_cons (ps_set (i := 8) sc_law.nd rfl (Or.inl rfl) (pe_call C_wrapped.G (hr.mono (by decide)) rfl C_wrapped.mg C_wrapped.kp C_wrapped.B .nil pass0 (pa_cons (pv 0) (pa_cons pe_int (pa_cons (pv 2) (pa_cons (pe_call C_part.G (hr.mono (by decide)) rfl C_part.mg C_part.kp C_part.B .nil pass0 (pa_cons (pe_call C_draw.G (hr.mono (by decide)) rfl C_draw.mg C_draw.kp C_draw.B .nil pass0 (pa_cons (pv 0) (pa_cons pe_int pa_nil))) pa_nil)) pa_nil))))))
  (pss_cons (ps_for PassesOwn.never rfl (pi_list (pe_lst (pa_cons (pe_tup (pa_cons (pv 5) (pa_cons (pv 6) pa_nil))) (pa_cons (pe_tup (pa_cons (pv 6) (pa_cons (pv 5) pa_nil))) (pa_cons (pe_tup (pa_cons (pv 5) (pa_cons (pv 8) pa_nil))) (pa_cons (pe_tup (pa_cons (pv 5) (pa_cons (pe_tup (pa_cons (pv 5) pa_nil)) pa_nil))) (pa_cons (pe_tup (pa_cons (pe_tup (pa_cons (pv 5) (pa_cons (pv 3) pa_nil))) (pa_cons (pe_tup (pa_cons (pv 5) (pa_cons (pv 4) pa_nil))) pa_nil))) pa_nil))))))) (pg_tup rfl (pgs_cons (pg_name (i := 9) sc_law.nd rfl (Or.inl rfl)) (pgs_cons (pg_name (i := 10) sc_law.nd rfl (Or.inl rfl)) pgs_nil)))
  (pss_one (ps_if (pt_not (pt_val (pe_call C_is.G (hr.mono (by decide)) rfl C_is.mg C_is.kp C_is.B .nil pass0 (pa_cons (pe_call C_same.G (hr.mono (by decide)) rfl C_same.mg C_same.kp C_same.B .nil pass0 (pa_cons (pv 9) (pa_cons (pv 10) pa_nil))) (pa_cons (pe_call C_lsame.G (hr.mono (by decide)) rfl C_lsame.mg C_lsame.kp C_lsame.B .nil pass0 (pa_cons (pv 9) (pa_cons (pv 10) pa_nil))) pa_nil))))) (pss_one (ps_ret pe_bl)) pss_nil)))
  (pss_one (ps_ret pe_bl))))))))))))), ?_⟩
    have d0 := drawOf_nn ns 0
    have d1 := drawOf_nn ns 1
    have d2 := drawOf_nn ns 2
    have d3 := drawOf_nn ns 3
    have b2 := drawOf_lt ns 2
    have b3 := drawOf_lt ns 3
    -- number, count
    refine ⟨_, rfl, a, ns, _, rfl, hS, hl, by decide, by decide, ?_⟩
    refine ⟨_, rfl, _, _, rfl, rfl, (by show (0 : Int) < 35; decide), _, rfl, _, _, rfl, rfl, ⟨by decide, by decide⟩, _, _, rfl, rfl, (by show (0 : Int) < 10; decide), _, _, rfl, rfl, by show 2 ≤ sizeLine; decide, fun p hp => ?_⟩
    have s1 := same_new (o := .lst [.int (drawOf ns 0 % 35), .int (25 + drawOf ns 0 / 35 % 10)]) hp
    refine ⟨_, rfl, a, ns, _, rfl, s1.seq hS, hl, by decide, by decide, ?_⟩
    obtain ⟨v, hv, hm⟩ := atI_some (xs := [V.int (drawOf ns 0 % 35), .int (25 + drawOf ns 0 / 35 % 10)]) (i := drawOf ns 1 % 2) (by omega) (by show drawOf ns 1 % 2 < 2; omega)
    have hz : ∃ ct : Int, v = .int ct ∧ 0 ≤ ct ∧ ct ≤ 34 := by
      simp only [List.mem_cons, List.not_mem_nil, or_false] at hm
      rcases hm with h | h <;> exact ⟨_, h, by omega, by omega⟩
    obtain ⟨ct, rfl, c0, c1⟩ := hz
    refine ⟨_, _, rfl, rfl, (by show (0 : Int) < 2; decide), p, _, _, _, rfl, rfl, SqL.of upd_same, hv, ?_⟩
    -- leaf, twin
    refine ⟨_, rfl, a, ns, _, rfl, s1.seq hS, hl, by decide, by decide, _, rfl, d2, by omega, fun vl dl H2 s2 hdl okl depl lenl pll => ?_⟩
    have t2 := s1.trans s2
    refine ⟨_, rfl, a, ns, _, rfl, t2.seq hS, hl, by decide, by decide, _, rfl, d3, by omega, fun vt dt H3 s3 hdt okt dept lent plt => ?_⟩
    have t3 := t2.trans s3
    have gl := gd_of okl depl lenl pll
    have gt := gd_of okt dept lent plt
    have rl := rp_of_dp dl vl okl hdl
    have rt := rp_of_dp dt vt okt hdt
    generalize trD dl = tl at gl rl
    generalize trD dt = tt at gt rt
    -- value, other
    refine ⟨_, rfl, _, rfl, _, rfl, a, ns, _, _, vl, tl, rfl, t3.seq hS, hl, by decide, by decide, c0, by omega, rp_same s3 _ _ rl, fun vv tv H4 s4 rv Wv => ?_⟩
    have t4 := t3.trans s4
    refine ⟨_, rfl, _, rfl, _, rfl, a, ns, _, _, vt, tt, rfl, t4.seq hS, hl, by decide, by decide, c0, by omega, rp_same s4 _ _ rt, fun vo to H5 s5 ro Wo => ?_⟩
    have t5 := t4.trans s5
    have gv := gd_up (m := 36) (gd_wr gl Wv) (by omega)
    have go := gd_up (m := 36) (gd_wr gt Wo) (by omega)
    have rl5 := rp_same ((s3.trans s4).trans s5) _ _ rl
    have rt5 := rp_same (s4.trans s5) _ _ rt
    have rv5 := rp_same s5 _ _ rv
    have gp := gd_two gv go
    have gpd := gd_dep gv.dep go.dep
    -- each of four
    refine ⟨_, rfl, _, rfl, _, rfl, _, rfl, _, rfl, by show 2 ≤ sizeLine; decide, fun p1 h1 => ⟨by show 4 ≤ sizeLine; decide, fun p2 h2 => ?_⟩⟩
    have s6 := same_new (o := .tup [vv, vo]) h1
    generalize hH6 : upd H5 p1 (.tup [vv, vo]) = H6 at *
    have f6 : H6 p1 = some (.tup [vv, vo]) := by rw [← hH6]; exact upd_same
    have s7 := same_new (o := .lst [vl, vv, vo, .ref p1]) h2
    generalize hH7 : upd H6 p2 (.lst [vl, vv, vo, .ref p1]) = H7 at *
    have f7 : H7 p2 = some (.lst [vl, vv, vo, .ref p1]) := by rw [← hH7]; exact upd_same
    have s57 := s6.trans s7
    have four : ∀ (i : Nat) (x : V), ([vl, vv, vo, .ref p1] : List V)[i]? = some x → ∃ t, Rp K H7 x t ∧ Gd t 74 ∧ depthT t ≤ 37 := by
      intro i y hy
      match i, hy with
      | 0, hy => cases hy; exact ⟨_, rp_same s57 _ _ rl5, gd_up gl (by omega), by have := gl.dep; omega⟩
      | 1, hy => cases hy; exact ⟨_, rp_same s57 _ _ rv5, gd_up gv (by omega), by have := gv.dep; omega⟩
      | 2, hy => cases hy; exact ⟨_, rp_same s57 _ _ ro, gd_up go (by omega), by have := go.dep; omega⟩
      | 3, hy => cases hy; exact ⟨_, .node (SqT.of (s7 _ _ f6)) (.cons (rp_same s57 _ _ rv5) (.cons (rp_same s57 _ _ ro) .nil)), gp, gpd⟩
      | i + 4, hy => simp at hy
    refine ⟨p2, rfl, ⟨_, SqL.of f7⟩, ?_⟩
    refine for_list (K := K) (a := p2) (xs := [vl, vv, vo, .ref p1]) (fun i σ H8 => ∃ x7, σ = [some (.ref a), some (.int (drawOf ns 0)), some (.int ct), some vl, some vt, some vv, some vo, x7, none, none, none] ∧ Same H7 H8)
      ⟨none, rfl, Same.refl _⟩ (fun i σ H' _ ⟨_, _, s⟩ => SqL.of (s _ _ f7)) ?_ ?_
    · rintro i y σ H8 hi ⟨x7, rfl, s8⟩
      obtain ⟨t, rp, g, dep⟩ := four i y hi
      have rp8 := rp_same s8 _ _ rp
      refine ⟨_, rfl, y, t, rfl, rp8, by have := g.size; omega, fun H9 s9 => ?_⟩
      have rp9 := rp_same s9 _ _ rp8
      refine ⟨_, rfl, y, toD t, rfl, dp_of_rp t y g.good.1 rp9, g.good.2, by rw [depth_toD]; omega, _, _, rfl, rfl, _, _, rfl, ?_⟩
      have e : decide (V.bl (plainT 0 t) = V.bl (decide (((toD t).depth : Int) ≤ 30))) = true := by
        rw [plain_eq t 0 (by decide), g.all, Bool.true_and, depth_toD]
        have z : decide (0 + depthT t ≤ 30) = decide ((depthT t : Int) ≤ 30) := decide_eq_decide.mpr (by omega)
        rw [z]
        exact decide_eq_true rfl
      rw [e]
      exact ⟨_, rfl, iteF ⟨_, rfl, s8.trans s9⟩⟩
    rintro σ H8 ⟨x7, rfl, s8⟩
    have t8 := (t5.trans s57).trans s8
    -- odd ones
    refine ⟨_, rfl, _, rfl, _, _, rfl, rfl, (by show (0 : Int) < 27; decide), _, rfl, a, ns, ct % 27, vl, tl, rfl, t8.seq hS, hl, by omega, by omega, rp_same (s57.trans s8) _ _ rl5, by have := gl.size; omega, fun H9 s9 => ?_⟩
    refine ⟨_, rfl, iteF ?_⟩
    have t9 := t8.trans s9
    have s59 := (s57.trans s8).trans s9
    have rl9 := rp_same s59 _ _ rl5
    have rt9 := rp_same s59 _ _ rt5
    have rv9 := rp_same s59 _ _ rv5
    have ro9 := rp_same s59 _ _ ro
    -- too deep: nothing else is asked
    refine ⟨_, rfl, _, rfl, by show 2 ≤ sizeLine; decide, fun p3 h3 => ?_⟩
    have s10 := same_new (o := .tup [vv, vo]) h3
    generalize hH10 : upd H9 p3 (.tup [vv, vo]) = H10 at *
    have f10 : H10 p3 = some (.tup [vv, vo]) := by rw [← hH10]; exact upd_same
    have r10 : Rp K H10 (.ref p3) (.node [tv, to]) := .node (SqT.of f10) (.cons (rp_same s10 _ _ rv9) (.cons (rp_same s10 _ _ ro9) .nil))
    refine ⟨.ref p3, toD (.node [tv, to]), rfl, dp_of_rp _ _ gp.good.1 r10, gp.good.2, by rw [depth_toD]; omega, _, _, rfl, rfl, _, rfl, ?_⟩
    refine ite2 (fun _ => q _) (fun _ => ?_)
    have t10 := t9.trans s10
    -- again
    refine ⟨_, rfl, _, rfl, _, rfl, a, ns, _, rfl, t10.seq hS, hl, by decide, by decide, _, rfl, d2, by omega, fun va da H11 s11 hda oka depa lena pla => ?_⟩
    have ga := gd_of oka depa lena pla
    have ra := rp_of_dp da va oka hda
    generalize trD da = ta at ga ra
    refine ⟨a, ns, _, _, va, ta, rfl, (t10.trans s11).seq hS, hl, by decide, by decide, c0, by omega, ra, fun vg tg H12 s12 rg Wg => ?_⟩
    have gg := gd_up (m := 36) (gd_wr ga Wg) (by omega)
    have s912 := (s10.trans s11).trans s12
    have rl12 := rp_same s912 _ _ rl9
    have rt12 := rp_same s912 _ _ rt9
    have rv12 := rp_same s912 _ _ rv9
    have ro12 := rp_same s912 _ _ ro9
    -- five pairs
    refine ⟨_, rfl, _, rfl, by show 2 ≤ sizeLine; decide, fun p1 h1 => ?_⟩
    have u1 := same_new (o := .tup [vv, vo]) h1
    generalize hG1 : upd H12 p1 (.tup [vv, vo]) = G1 at *
    have g1 : G1 p1 = some (.tup [vv, vo]) := by rw [← hG1]; exact upd_same
    refine ⟨_, rfl, _, rfl, by show 2 ≤ sizeLine; decide, fun p2 h2 => ?_⟩
    have u2 := same_new (o := .tup [vo, vv]) h2
    generalize hG2 : upd G1 p2 (.tup [vo, vv]) = G2 at *
    have g2 : G2 p2 = some (.tup [vo, vv]) := by rw [← hG2]; exact upd_same
    refine ⟨_, rfl, _, rfl, by show 2 ≤ sizeLine; decide, fun p3 h3 => ?_⟩
    have u3 := same_new (o := .tup [vv, vg]) h3
    generalize hG3 : upd G2 p3 (.tup [vv, vg]) = G3 at *
    have g3 : G3 p3 = some (.tup [vv, vg]) := by rw [← hG3]; exact upd_same
    refine ⟨_, rfl, _, rfl, by show 1 ≤ sizeLine; decide, fun p4 h4 => ?_⟩
    have u4 := same_new (o := .tup [vv]) h4
    generalize hG4 : upd G3 p4 (.tup [vv]) = G4 at *
    have g4 : G4 p4 = some (.tup [vv]) := by rw [← hG4]; exact upd_same
    refine ⟨by show 2 ≤ sizeLine; decide, fun p5 h5 => ?_⟩
    have u5 := same_new (o := .tup [vv, .ref p4]) h5
    generalize hG5 : upd G4 p5 (.tup [vv, .ref p4]) = G5 at *
    have g5 : G5 p5 = some (.tup [vv, .ref p4]) := by rw [← hG5]; exact upd_same
    refine ⟨_, rfl, _, rfl, by show 2 ≤ sizeLine; decide, fun p6 h6 => ?_⟩
    have u6 := same_new (o := .tup [vv, vl]) h6
    generalize hG6 : upd G5 p6 (.tup [vv, vl]) = G6 at *
    have g6 : G6 p6 = some (.tup [vv, vl]) := by rw [← hG6]; exact upd_same
    refine ⟨_, rfl, _, rfl, by show 2 ≤ sizeLine; decide, fun p7 h7 => ?_⟩
    have u7 := same_new (o := .tup [vv, vt]) h7
    generalize hG7 : upd G6 p7 (.tup [vv, vt]) = G7 at *
    have g7 : G7 p7 = some (.tup [vv, vt]) := by rw [← hG7]; exact upd_same
    refine ⟨by show 2 ≤ sizeLine; decide, fun p8 h8 => ?_⟩
    have u8 := same_new (o := .tup [.ref p6, .ref p7]) h8
    generalize hG8 : upd G7 p8 (.tup [.ref p6, .ref p7]) = G8 at *
    have g8 : G8 p8 = some (.tup [.ref p6, .ref p7]) := by rw [← hG8]; exact upd_same
    refine ⟨by show 5 ≤ sizeLine; decide, fun pL hL => ?_⟩
    have u9 := same_new (o := .lst [.ref p1, .ref p2, .ref p3, .ref p5, .ref p8]) hL
    generalize hG9 : upd G8 pL (.lst [.ref p1, .ref p2, .ref p3, .ref p5, .ref p8]) = G9 at *
    have g9 : G9 pL = some (.lst [.ref p1, .ref p2, .ref p3, .ref p5, .ref p8]) := by rw [← hG9]; exact upd_same
    have w7 := u8.trans u9
    have w6 := u7.trans w7
    have w5 := u6.trans w6
    have w4 := u5.trans w5
    have w3 := u4.trans w4
    have w2 := u3.trans w3
    have w1 := u2.trans w2
    have w0 := u1.trans w1
    have rl13 := rp_same w0 _ _ rl12
    have rt13 := rp_same w0 _ _ rt12
    have rv13 := rp_same w0 _ _ rv12
    have ro13 := rp_same w0 _ _ ro12
    have rg13 := rp_same w0 _ _ rg
    have dl := gl.dep
    have dv := gv.dep
    have do_ := go.dep
    have dt_ := gt.dep
    have pairs : ∀ (i : Nat) (x : V), ([.ref p1, .ref p2, .ref p3, .ref p5, .ref p8] : List V)[i]? = some x → ∃ p x1 x2 t1 t2, x = .ref p ∧ G9 p = some (.tup [x1, x2]) ∧ Rp K G9 x1 t1 ∧ Rp K G9 x2 t2 ∧ Gd t1 74 ∧ Gd t2 74 ∧ depthT t1 ≤ 37 := by
      intro i y hy
      match i, hy with
      | 0, hy => cases hy; exact ⟨p1, vv, vo, tv, to, rfl, w1 _ _ g1, rv13, ro13, gd_up gv (by omega), gd_up go (by omega), by omega⟩
      | 1, hy => cases hy; exact ⟨p2, vo, vv, to, tv, rfl, w2 _ _ g2, ro13, rv13, gd_up go (by omega), gd_up gv (by omega), by omega⟩
      | 2, hy => cases hy; exact ⟨p3, vv, vg, tv, tg, rfl, w3 _ _ g3, rv13, rg13, gd_up gv (by omega), gd_up gg (by omega), by omega⟩
      | 3, hy => cases hy; exact ⟨p5, vv, .ref p4, tv, .node [tv], rfl, w5 _ _ g5, rv13, .node (SqT.of (w4 _ _ g4)) (.cons rv13 .nil), gd_up gv (by omega), gd_up (gd_one gv) (by omega), by omega⟩
      | 4, hy => cases hy; exact ⟨p8, .ref p6, .ref p7, .node [tv, tl], .node [tv, tt], rfl, u9 _ _ g8, .node (SqT.of (w6 _ _ g6)) (.cons rv13 (.cons rl13 .nil)), .node (SqT.of (w7 _ _ g7)) (.cons rv13 (.cons rt13 .nil)), gd_two gv (gd_up gl (by omega)), gd_two gv (gd_up gt (by omega)), gd_dep dv (by omega)⟩
      | i + 5, hy => simp at hy
    refine ⟨pL, rfl, ⟨_, SqL.of g9⟩, ?_⟩
    refine for_list (K := K) (a := pL) (xs := [.ref p1, .ref p2, .ref p3, .ref p5, .ref p8]) (fun i σ H' => Same G9 H' ∧ ∃ y9 y10, σ = [some (.ref a), some (.int (drawOf ns 0)), some (.int ct), some vl, some vt, some vv, some vo, x7, some vg, y9, y10])
      ⟨Same.refl _, none, none, rfl⟩ (fun i σ H' _ ⟨s, _⟩ => SqL.of (s _ _ g9)) ?_ ?_
    · rintro i y σ H' hi ⟨sA, y9, y10, rfl⟩
      obtain ⟨p, x1, x2, t1, t2, rfl, hp, r1, r2, k1, k2, dep1⟩ := pairs i y hi
      refine ⟨p, _, rfl, SqT.of (sA _ _ hp), rfl, _, _, rfl, _, _, rfl, rfl, ?_⟩
      have r1A := rp_same sA _ _ r1
      have r2A := rp_same sA _ _ r2
      refine ⟨_, rfl, _, rfl, x1, x2, t1, t2, rfl, r1A, r2A, k1.good.1, k2.good.1, by have := k1.size; omega, fun HB sB => ?_⟩
      refine ⟨_, rfl, _, rfl, x1, x2, toD t1, toD t2, rfl, dp_of_rp _ _ k1.good.1 (rp_same sB _ _ r1A), dp_of_rp _ _ k2.good.1 (rp_same sB _ _ r2A), k1.good.2, k2.good.2, by rw [depth_toD]; omega, by have := k1.enc; omega, ?_⟩
      refine ⟨_, _, rfl, ?_⟩
      have e : decide (V.bl (eqT t1 t2) = V.bl (eqD (toD t1) (toD t2))) = true := by
        rw [eqT_eqD t1 t2 k1.good.1 k2.good.1]
        exact decide_eq_true rfl
      rw [e]
      exact ⟨_, rfl, iteF ⟨sA.trans sB, _, _, rfl⟩⟩
    · rintro σ H' ⟨sA, y9, y10, rfl⟩
      exact q _
end
end Vk
namespace Vk
open PySem PySem.Spec PyProof.Rows L2
theorem all_mk {l : PySem.W.OpenLaw} {w : World} {K : PySem.W.Frag} {h : Heap} {mg : Str → Option Value} {fa fg fa_ fp fsm fi fd fr fw fgr fq fs fz fo fx C : Addr} (X : K.In h) (G : h.Ns mainGlobals mg) (hfa : mg "law" = some (.ref fa))
    {odg ang oda_ ana_ odp anp odsm ansm odi ani odd and odr anr odw anw odgr angr odq anq ods ans odz anz odo ano odx anx : Option Addr} {slg sla_ slp slsm sli sld slr slw slgr slq sls slz slo slx : Array (Option Value)}
    {ocg kVg dcg pmg cdg ctg oca_ kVa_ dca_ pma_ cda_ cta_ ocp kVp dcp pmp cdp ctp ocsm kVsm dcsm pmsm cdsm ctsm oci kVi dci pmi cdi cti ocd kVd dcd pmd cdd ctd ocr kVr dcr pmr cdr ctr ocw kVw dcw pmw cdw ctw ocgr kVgr dcgr pmgr cdgr ctgr ocq kVq dcq pmq cdq ctq ocs kVs dcs pms cds cts ocz kVz dcz pmz cdz ctz oco kVo dco pmo cdo cto ocx kVx dcx pmx cdx ctx : Value}
    {tb tm : Tok}
    (ag : PySem.W.nsIn K mainGlobals "is_integer" = some (some (.ref fg)))
    (lg : K.lookup fg = some ⟨ocg, odg, .func (PySem.W.fnOf "is_integer" "is_integer" (defArgs s_is_integer) (defBody s_is_integer) (defScope s_is_integer) .none kVg dcg pmg ang cdg ctg), slg⟩)
    (cg : PySem.W.codeIn K cdg "is_integer" = true) (kg : PySem.W.keepIn K (.ref fg) = true)
    (aa_ : PySem.W.nsIn K mainGlobals "_is_plain_atom" = some (some (.ref fa_)))
    (la_ : K.lookup fa_ = some ⟨oca_, oda_, .func (PySem.W.fnOf "_is_plain_atom" "_is_plain_atom" (defArgs s_atom) (defBody s_atom) (defScope s_atom) .none kVa_ dca_ pma_ ana_ cda_ cta_), sla_⟩)
    (ca_ : PySem.W.codeIn K cda_ "_is_plain_atom" = true) (ka_ : PySem.W.keepIn K (.ref fa_) = true)
    (ap : PySem.W.nsIn K mainGlobals "is_plain" = some (some (.ref fp)))
    (lp : K.lookup fp = some ⟨ocp, odp, .func (PySem.W.fnOf "is_plain" "is_plain" (defArgs s_is_plain) (defBody s_is_plain) (defScope s_is_plain) .none kVp dcp pmp anp cdp ctp), slp⟩)
    (cp : PySem.W.codeIn K cdp "is_plain" = true) (kp : PySem.W.keepIn K (.ref fp) = true)
    (asm : PySem.W.nsIn K mainGlobals "same" = some (some (.ref fsm)))
    (lsm : K.lookup fsm = some ⟨ocsm, odsm, .func (PySem.W.fnOf "same" "same" (defArgs s_same) (defBody s_same) (defScope s_same) .none kVsm dcsm pmsm ansm cdsm ctsm), slsm⟩)
    (csm : PySem.W.codeIn K cdsm "same" = true) (ksm : PySem.W.keepIn K (.ref fsm) = true)
    (ai : PySem.W.findIn K (.ref C) "__init__" = some (some (.ref fi))) (ii : PySem.W.isFn K (.ref fi) = true)
    (li : K.lookup fi = some ⟨oci, odi, .func (PySem.W.fnOf "__init__" "Registry.__init__" (defArgs s_init) (defBody s_init) (defScope s_init) .none kVi dci pmi ani cdi cti), sli⟩)
    (ci : PySem.W.codeIn K cdi "Registry.__init__" = true) (ki : PySem.W.keepIn K (.ref fi) = true)
    (ad : PySem.W.nsIn K mainGlobals "_law_draw" = some (some (.ref fd)))
    (ld : K.lookup fd = some ⟨ocd, odd, .func (PySem.W.fnOf "_law_draw" "_law_draw" (defArgs sDraw) (defBody sDraw) (defScope sDraw) .none kVd dcd pmd and cdd ctd), sld⟩)
    (cd : PySem.W.codeIn K cdd "_law_draw" = true) (kd : PySem.W.keepIn K (.ref fd) = true)
    (ar : PySem.W.nsIn K mainGlobals "_law_part" = some (some (.ref fr)))
    (lr : K.lookup fr = some ⟨ocr, odr, .func (PySem.W.fnOf "_law_part" "_law_part" (defArgs s_part) (defBody s_part) (defScope s_part) .none kVr dcr pmr anr cdr ctr), slr⟩)
    (cr : PySem.W.codeIn K cdr "_law_part" = true) (kr : PySem.W.keepIn K (.ref fr) = true)
    (aw : PySem.W.nsIn K mainGlobals "_law_wrapped" = some (some (.ref fw)))
    (lw : K.lookup fw = some ⟨ocw, odw, .func (PySem.W.fnOf "_law_wrapped" "_law_wrapped" (defArgs s_wrapped) (defBody s_wrapped) (defScope s_wrapped) .none kVw dcw pmw anw cdw ctw), slw⟩)
    (cw : PySem.W.codeIn K cdw "_law_wrapped" = true) (kw : PySem.W.keepIn K (.ref fw) = true)
    (agr : PySem.W.nsIn K mainGlobals "_law_great" = some (some (.ref fgr)))
    (lgr : K.lookup fgr = some ⟨ocgr, odgr, .func (PySem.W.fnOf "_law_great" "_law_great" (defArgs s_great) (defBody s_great) (defScope s_great) .none kVgr dcgr pmgr angr cdgr ctgr), slgr⟩)
    (cgr : PySem.W.codeIn K cdgr "_law_great" = true) (kgr : PySem.W.keepIn K (.ref fgr) = true)
    (aq : PySem.W.nsIn K mainGlobals "_law_deep" = some (some (.ref fq)))
    (lq : K.lookup fq = some ⟨ocq, odq, .func (PySem.W.fnOf "_law_deep" "_law_deep" (defArgs s_deep) (defBody s_deep) (defScope s_deep) .none kVq dcq pmq anq cdq ctq), slq⟩)
    (cq : PySem.W.codeIn K cdq "_law_deep" = true) (kq : PySem.W.keepIn K (.ref fq) = true)
    (as_ : PySem.W.nsIn K mainGlobals "_law_same" = some (some (.ref fs)))
    (ls : K.lookup fs = some ⟨ocs, ods, .func (PySem.W.fnOf "_law_same" "_law_same" (defArgs s_lsame) (defBody s_lsame) (defScope s_lsame) .none kVs dcs pms ans cds cts), sls⟩)
    (cs : PySem.W.codeIn K cds "_law_same" = true) (ks : PySem.W.keepIn K (.ref fs) = true)
    (az : PySem.W.nsIn K mainGlobals "_law_is" = some (some (.ref fz)))
    (lz : K.lookup fz = some ⟨ocz, odz, .func (PySem.W.fnOf "_law_is" "_law_is" (defArgs s_is) (defBody s_is) (defScope s_is) .none kVz dcz pmz anz cdz ctz), slz⟩)
    (cz : PySem.W.codeIn K cdz "_law_is" = true) (kz : PySem.W.keepIn K (.ref fz) = true)
    (ao : PySem.W.nsIn K mainGlobals "_law_odd" = some (some (.ref fo)))
    (lo : K.lookup fo = some ⟨oco, odo, .func (PySem.W.fnOf "_law_odd" "_law_odd" (defArgs s_odd) (defBody s_odd) (defScope s_odd) .none kVo dco pmo ano cdo cto), slo⟩)
    (co : PySem.W.codeIn K cdo "_law_odd" = true) (ko : PySem.W.keepIn K (.ref fo) = true)
    (ax : PySem.W.nsIn K mainGlobals "law" = some (some (.ref fx)))
    (lx : K.lookup fx = some ⟨ocx, odx, .func (PySem.W.fnOf "law" "law" (defArgs s_law) (defBody s_law) (defScope s_law) .none kVx dcx pmx anx cdx ctx), slx⟩)
    (cx : PySem.W.codeIn K cdx "law" = true) (kx : PySem.W.keepIn K (.ref fx) = true)
    (aC : PySem.W.nsIn K mainGlobals "Registry" = some (some (.ref C)))
    (pgC : PySem.W.plainGet K C Str.empty = true) (hdC : PySem.W.hasDictIn K C = true) (poC : PySem.W.plainOver K C = true) (saC : PySem.W.findIn K (.ref C) "__setattr__" = some (some (.builtin "object.__setattr__"))) (mkC : PySem.W.makesIn K C = true) (kcC : PySem.W.keepIn K (.ref C) = true)
    (nN : PySem.W.findIn K (.ref C) "_names" = some none)
    (nS : PySem.W.findIn K (.ref C) "_sealed" = some none)
    (nP : PySem.W.findIn K (.ref C) "_pens" = some none)
    (aB : PySem.W.nsIn K mainGlobals "INTEGER_BOUND" = some (some (.int (10 ^ 60) tb)))
    (aM : PySem.W.nsIn K mainGlobals "MOST_TUPLES" = some (some (.int 30 tm)))
    (z_type : PySem.W.nsIn K mainGlobals "type" = some none)
    (z_tuple : PySem.W.nsIn K mainGlobals "tuple" = some none)
    (z_int : PySem.W.nsIn K mainGlobals "int" = some none)
    (z_bool : PySem.W.nsIn K mainGlobals "bool" = some none)
    (z_str : PySem.W.nsIn K mainGlobals "str" = some none)
    (z_len : PySem.W.nsIn K mainGlobals "len" = some none)
    (z_list : PySem.W.nsIn K mainGlobals "list" = some none)
    (z_zip : PySem.W.nsIn K mainGlobals "zip" = some none)
    (z_range : PySem.W.nsIn K mainGlobals "range" = some none)
    (z_max : PySem.W.nsIn K mainGlobals "max" = some none)
    (z_min : PySem.W.nsIn K mainGlobals "min" = some none)
    (z_isinstance : PySem.W.nsIn K mainGlobals "isinstance" = some none)
    : ∃ fd : FuncData, (∀ (s : Shared) (v : Value), BindsTo s fd ⟨[v], []⟩ [("script", v)]) ∧ ∀ base : Heap, K.In base → base.Ns mainGlobals mg → FnOk l.prog w K mg base CX0 42 fa fd ["script"] (spLaw K) := by
  have e := hfa.symm.trans (PySem.W.mg_of X G ax)
  cases e
  have Fg := fun_mk (st := s_is_integer) lg cg kg
  have bg := Fg.binds (ps := ["value"]) fun _ _ _ _ _ _ us hl => match us, hl with | [_], _ => rfl
  have Fa_ := fun_mk (st := s_atom) la_ ca_ ka_
  have ba_ := Fa_.binds (ps := ["value"]) fun _ _ _ _ _ _ us hl => match us, hl with | [_], _ => rfl
  have Fp := fun_mk (st := s_is_plain) lp cp kp
  have bp := Fp.binds (ps := ["value"]) fun _ _ _ _ _ _ us hl => match us, hl with | [_], _ => rfl
  have Fsm := fun_mk (st := s_same) lsm csm ksm
  have bsm := Fsm.binds (ps := ["first", "second"]) fun _ _ _ _ _ _ us hl => match us, hl with | [_, _], _ => rfl
  have Fi := fun_mk (st := s_init) li ci ki
  have bi := Fi.binds (ps := ["self"]) fun _ _ _ _ _ _ us hl => match us, hl with | [_], _ => rfl
  have Fd := fun_mk (st := sDraw) ld cd kd
  have bd := Fd.binds (ps := ["script", "k"]) fun _ _ _ _ _ _ us hl => match us, hl with | [_, _], _ => rfl
  have Fr := fun_mk (st := s_part) lr cr kr
  have br := Fr.binds (ps := ["number"]) fun _ _ _ _ _ _ us hl => match us, hl with | [_], _ => rfl
  have Fw := fun_mk (st := s_wrapped) lw cw kw
  have bw := Fw.binds (ps := ["script", "start", "count", "value"]) fun _ _ _ _ _ _ us hl => match us, hl with | [_, _, _, _], _ => rfl
  have Fgr := fun_mk (st := s_great) lgr cgr kgr
  have bgr := Fgr.binds (ps := ["number"]) fun _ _ _ _ _ _ us hl => match us, hl with | [_], _ => rfl
  have Fq := fun_mk (st := s_deep) lq cq kq
  have bq := Fq.binds (ps := ["value"]) fun _ _ _ _ _ _ us hl => match us, hl with | [_], _ => rfl
  have Fs := fun_mk (st := s_lsame) ls cs ks
  have bs := Fs.binds (ps := ["first", "second"]) fun _ _ _ _ _ _ us hl => match us, hl with | [_, _], _ => rfl
  have Fz := fun_mk (st := s_is) lz cz kz
  have bz := Fz.binds (ps := ["answer", "due"]) fun _ _ _ _ _ _ us hl => match us, hl with | [_, _], _ => rfl
  have Fo := fun_mk (st := s_odd) lo co ko
  have bo := Fo.binds (ps := ["script", "count", "leaf"]) fun _ _ _ _ _ _ us hl => match us, hl with | [_, _, _], _ => rfl
  have Fx := fun_mk (st := s_law) lx cx kx
  refine ⟨PySem.W.fnOf "law" "law" (defArgs s_law) (defBody s_law) (defScope s_law) .none kVx dcx pmx anx cdx ctx, fun s v => .of_eq rfl, fun base _ _ => ?_⟩
  have T : TReg K mg C fi := ⟨⟨pgC, hdC, poC, saC⟩, nN, nS, nP, PySem.W.mg_of X G aC, ⟨mkC, ai, ii, kcC⟩⟩
  have T2 : T1 mg tb tm := ⟨PySem.W.mg_none_of X G z_type, PySem.W.mg_none_of X G z_tuple, PySem.W.mg_none_of X G z_int, PySem.W.mg_none_of X G z_bool, PySem.W.mg_none_of X G z_str, PySem.W.mg_none_of X G z_len, PySem.W.mg_none_of X G z_list, PySem.W.mg_none_of X G z_zip, PySem.W.mg_none_of X G z_range, PySem.W.mg_none_of X G z_max, PySem.W.mg_none_of X G z_isinstance, PySem.W.mg_of X G aB, PySem.W.mg_of X G aM⟩
  have Td : TDraw mg := ⟨T2.len, T2.int, PySem.W.mg_none_of X G z_min, T2.range⟩
  have Cg : Cal l.prog w K mg base "is_integer" 1 fg _ ["value"] (spInteger K) := ⟨ok_is_integer Fg T2, PySem.W.mg_of X G ag, kg, bg⟩
  have Ca : Cal l.prog w K mg base "_is_plain_atom" 2 fa_ _ ["value"] spAtom := ⟨ok_atom Fa_ T2 Cg, PySem.W.mg_of X G aa_, ka_, ba_⟩
  have Cp : Cal l.prog w K mg base "is_plain" 3 fp _ ["value"] (spPlain K) := ⟨ok_is_plain Fp T2 Ca, PySem.W.mg_of X G ap, kp, bp⟩
  have Ce : Cal l.prog w K mg base "same" 1 fsm _ ["first", "second"] (spSameP K) := ⟨ok_sameP Fsm T2, PySem.W.mg_of X G asm, ksm, bsm⟩
  have Cd : Cal l.prog w K mg base "_law_draw" 1 fd _ ["script", "k"] (spDraw K) := ⟨ok_draw Fd Td, PySem.W.mg_of X G ad, kd, bd⟩
  have Cr : Cal l.prog w K mg base "_law_part" 1 fr _ ["number"] (spPart K) := ⟨ok_part Fr, PySem.W.mg_of X G ar, kr, br⟩
  have Cw : Cal l.prog w K mg base "_law_wrapped" 2 fw _ ["script", "start", "count", "value"] (spWrapped K) := ⟨ok_wrapped Fw Td Cd Cr, PySem.W.mg_of X G aw, kw, bw⟩
  have Ct : Cal l.prog w K mg base "_law_great" 1 fgr _ ["number"] spGreat := ⟨ok_great Fgr, PySem.W.mg_of X G agr, kgr, bgr⟩
  have Cq : Cal l.prog w K mg base "_law_deep" 40 fq _ ["value"] (spDeep K 40) := ⟨ok_deep Fq T2 (PySem.W.mg_of X G aq) kq bq 40, PySem.W.mg_of X G aq, kq, bq⟩
  have Cs : Cal l.prog w K mg base "_law_same" 40 fs _ ["first", "second"] (spSame K 40) := ⟨ok_lsame Fs T2 (PySem.W.mg_of X G as_) ks bs 40, PySem.W.mg_of X G as_, ks, bs⟩
  have Cz : Cal l.prog w K mg base "_law_is" 1 fz _ ["answer", "due"] spIs := ⟨ok_is Fz T2, PySem.W.mg_of X G az, kz, bz⟩
  have Co : Cal l.prog w K mg base "_law_odd" 4 fo _ ["script", "count", "leaf"] (spOdd K) := ⟨ok_odd Fo T T2 Cd Cw Cp Ct Cz (ok_init Fi T) bi, PySem.W.mg_of X G ao, ko, bo⟩
  exact ok_law Fx T Cd Cr Cw Cp Cq Cz Co Ce Cs
theorem walk {l : PySem.W.OpenLaw} {q : Program} {loose : List Str} {XP : (Str → Option Value) → Heap → Prop} {YP : World → Heap → Prop} {d : DefRec} {K : Params → PySem.W.Frag} (hn : l.most = some 63) (hdf : d.params.defaults = [])
    (hY : ∀ (w : World) (h : Heap), YP w h → (K w.params).In h)
    (F : ∀ (w : World) (mg : Str → Option Value) (fa : Addr) (h : Heap), (K w.params).In h → h.Ns mainGlobals mg → mg d.name = some (.ref fa) →
      ∃ fd : FuncData, (∀ (s : Shared) (u : Value), BindsTo s fd ⟨[u], []⟩ [("script", u)]) ∧ ∀ base : Heap, (K w.params).In base → base.Ns mainGlobals mg → FnOk l.prog w (K w.params) mg base CX0 42 fa fd ["script"] (spLaw (K w.params))) :
    PySem.W.WalkO q loose XP YP l.row.toRowW d [] (fun f vs => PySem.call f vs) :=
  L2.walk_of (n := 63) (k := 42) (x := "script") (CX := fun _ => CX0) (sp := fun w => spLaw (K w.params)) hn (by decide) hdf ⟨rfl, by decide, by decide⟩ hY F (fun _ _ a ns hl _ hS => ⟨a, ns, rfl, hS, hl, fun _ => rfl⟩) fun _ _ _ _ _ z => z
end Vk
open PySem PySem.W PyProof.Rows
set_option maxRecDepth 100000 in
set_option maxHeartbeats 0 in
theorem PySem.Challenge.cw_trothbase_k01_plain_and_same_holds : PySem.Challenge.rw_trothbase_k01_plain_and_same.Holds := by
  w_on; o_law; k_head; (case hw => w_witness2)
  k_fill
  refine Vk.walk (l := PySem.Challenge.rw_trothbase_k01_plain_and_same) rfl rfl (fun w h Y => PySem.W.kIn_of Y) ?F
  case F =>
    intro w mg fa h KX G hmg
    refine' Vk.all_mk KX G hmg ?ag ?lg ?cg ?kg ?aa_ ?la_ ?ca_ ?ka_ ?ap ?lp ?cp ?kp ?asm ?lsm ?csm ?ksm ?ai ?ii ?li ?ci ?ki ?ad ?ld ?cd ?kd ?ar ?lr ?cr ?kr ?aw ?lw ?cw ?kw ?agr ?lgr ?cgr ?kgr ?aq ?lq ?cq ?kq ?as_ ?ls ?cs ?ks ?az ?lz ?cz ?kz ?ao ?lo ?co ?ko ?ax ?lx ?cx ?kx ?aC ?pgC ?hdC ?poC ?saC ?mkC ?kcC ?nN ?nS ?nP ?aB ?aM ?z_type ?z_tuple ?z_int ?z_bool ?z_str ?z_len ?z_list ?z_zip ?z_range ?z_max ?z_min ?z_isinstance
    (case aC => k_is)
    (case ag => k_is)
    (case lg => k_is)
    (case cg => k_is)
    (case kg => k_is)
    (case aa_ => k_is)
    (case la_ => k_is)
    (case ca_ => k_is)
    (case ka_ => k_is)
    (case ap => k_is)
    (case lp => k_is)
    (case cp => k_is)
    (case kp => k_is)
    (case asm => k_is)
    (case lsm => k_is)
    (case csm => k_is)
    (case ksm => k_is)
    (case ai => k_is)
    (case ii => k_is)
    (case li => k_is)
    (case ci => k_is)
    (case ki => k_is)
    (case ad => k_is)
    (case ld => k_is)
    (case cd => k_is)
    (case kd => k_is)
    (case ar => k_is)
    (case lr => k_is)
    (case cr => k_is)
    (case kr => k_is)
    (case aw => k_is)
    (case lw => k_is)
    (case cw => k_is)
    (case kw => k_is)
    (case agr => k_is)
    (case lgr => k_is)
    (case cgr => k_is)
    (case kgr => k_is)
    (case aq => k_is)
    (case lq => k_is)
    (case cq => k_is)
    (case kq => k_is)
    (case as_ => k_is)
    (case ls => k_is)
    (case cs => k_is)
    (case ks => k_is)
    (case az => k_is)
    (case lz => k_is)
    (case cz => k_is)
    (case kz => k_is)
    (case ao => k_is)
    (case lo => k_is)
    (case co => k_is)
    (case ko => k_is)
    (case ax => k_is)
    (case lx => k_is)
    (case cx => k_is)
    (case kx => k_is)
    (case pgC => k_is)
    (case hdC => k_is)
    (case poC => k_is)
    (case saC => k_is)
    (case mkC => k_is)
    (case kcC => k_is)
    (case nN => k_is)
    (case nS => k_is)
    (case nP => k_is)
    (case aB => k_is)
    (case aM => k_is)
    (case z_type => k_is)
    (case z_tuple => k_is)
    (case z_int => k_is)
    (case z_bool => k_is)
    (case z_str => k_is)
    (case z_len => k_is)
    (case z_list => k_is)
    (case z_zip => k_is)
    (case z_range => k_is)
    (case z_max => k_is)
    (case z_min => k_is)
    (case z_isinstance => k_is)
#print axioms PySem.Challenge.cw_trothbase_k01_plain_and_same_holds
