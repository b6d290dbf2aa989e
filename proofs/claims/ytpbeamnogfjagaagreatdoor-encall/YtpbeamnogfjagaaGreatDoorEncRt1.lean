/-
  What the document's own Text of layer 6 (package suzerainref06) is: it answers as the program's: contracts over the translation.
  Conditions: the arguments are numbers of their kinds; the tables hold what the program's text lays.
-/
import Derived.Test.YtpbeamnogfjagaaGreatDoorEncRt0
namespace Go.Proofs.YtpbeamnogfjagaaGreatDoor.refEnc
open Go Go.RowKit F W M D E refWord
set_option linter.unusedVariables false
set_option maxRecDepth 100000
set_option maxHeartbeats 4000000 in
theorem text0 (o rd rs1 rs2 im n : Int) (ho : I64 o) (h1 : I64 rd) (h2 : I64 rs1) (h3 : I64 rs2) (hi : I64 im) (k : o ≤ 0) (w : World) (hT : Tabs w) :
    Calls Tryz.prog 14 #[E.six o rd rs1 rs2 im n] w fun e w' => e = .returned (.string (txt (textV o rd rs1 rs2 im))) ∧ w.grownBy w' none := by
  have HV := Lib.hid (show txt (textV o rd rs1 rs2 im) = _ from by rw [textV, ops0 k, join0 _])
  have HK := Lib.hid (show kindV o = 0 from kind0 k)
  have hS := heldT_new w hT o rd rs1 rs2 im n
  have HN := Lib.hid (rName_c o ho)
  have HI := Lib.hid (fun W h => itoa_c im hi W h)
  have H1 := Lib.hid (fun W h => reg_c rd h1 W h)
  have H2 := Lib.hid (fun W h => reg_c rs1 h2 W h)
  have H3 := Lib.hid (fun W h => reg_c rs2 h3 W h)
  have HR := Lib.hid (fun W => rKind_c o ho W)
  have s1 := reg_size h1
  have s2 := reg_size h2
  have s3 := reg_size h3
  have s0 := name_size o
  have s4 := itoa_size im hi
  have HE := Lib.hid (show (⟨#[32]⟩ : ByteArray) ++ txt (Lib.itoa im) = txt (32 :: Lib.itoa im) from txt_app [32] (Lib.itoa im))
  have s5 : (txt (32 :: Lib.itoa im)).size ≤ 30 := by rw [txt_size]; rw [txt_size] at s4; simp; omega
  rw [HK.out] at HR
  generalize txt (32 :: regT rd) = t1 at *
  generalize txt (32 :: regT rs1) = t2 at *
  generalize txt (32 :: regT rs2) = t3 at *
  generalize txt (32 :: Lib.itoa im) = t4 at *
  generalize txt (Lib.itoa im) = t5 at *
  generalize txt (nameV o) = t0 at *
  have HS := Lib.hid hS
  obtain ⟨c0, c1, c2, c3, c4, c5, _, _, _⟩ := hS
  go_enter Tryz.func14, Tryz.ntmps14
  go_wp2_with fail
  refine (HN.out _).mono ?_
  rintro e w1 ⟨rfl, hG1⟩
  have HS1 := Lib.hid (HS.out.on hG1)
  clear c0 c1 c2 c3 c4 c5 hG1 HS
  have c4 := HS1.out.2.2.2.2.1
  go_wp2_with fail
  refine (HI.out _ HS1.out.tabs).mono ?_
  rintro e w2 ⟨rfl, hG2⟩
  have HS2 := Lib.hid (HS1.out.on hG2)
  clear c4 hG2 HS1
  have c0 := HS2.out.1
  have he := HE.out
  go_wp2_with fail
  refine (HR.out _).mono ?_
  rintro e w3 ⟨rfl, hG3⟩
  have HS3 := Lib.hid (HS2.out.on hG3)
  clear c0 hG3 HS2 he HE
  have hS0 := HS3.out
  unfold HeldT at hS0
  obtain ⟨c0, c1, c2, c3, c4, c5, _, _, _⟩ := HS3.out
  go_wp2_with fail
  go_ret
  exact ⟨by rw [HV.out]; rfl, HS3.out.gr⟩
set_option maxHeartbeats 4000000 in
theorem text1 (o rd rs1 rs2 im n : Int) (ho : I64 o) (h1 : I64 rd) (h2 : I64 rs1) (h3 : I64 rs2) (hi : I64 im) (k : o = 1) (w : World) (hT : Tabs w) :
    Calls Tryz.prog 14 #[E.six o rd rs1 rs2 im n] w fun e w' => e = .returned (.string (txt (textV o rd rs1 rs2 im))) ∧ w.grownBy w' none := by
  have HV := Lib.hid (show txt (textV o rd rs1 rs2 im) = _ from by rw [textV, ops1 k, join2 _ _ _])
  have HK := Lib.hid (show kindV o = 1 from kind1 (by omega))
  subst k
  have hS := heldT_new w hT 1 rd rs1 rs2 im n
  have HN := Lib.hid (rName_c 1 (by decide))
  have HI := Lib.hid (fun W h => itoa_c im hi W h)
  have H1 := Lib.hid (fun W h => reg_c rd h1 W h)
  have H2 := Lib.hid (fun W h => reg_c rs1 h2 W h)
  have H3 := Lib.hid (fun W h => reg_c rs2 h3 W h)
  have HR := Lib.hid (fun W => rKind_c 1 (by decide) W)
  have s1 := reg_size h1
  have s2 := reg_size h2
  have s3 := reg_size h3
  have s0 := name_size 1
  have s4 := itoa_size im hi
  have HE := Lib.hid (show (⟨#[32]⟩ : ByteArray) ++ txt (Lib.itoa im) = txt (32 :: Lib.itoa im) from txt_app [32] (Lib.itoa im))
  have s5 : (txt (32 :: Lib.itoa im)).size ≤ 30 := by rw [txt_size]; rw [txt_size] at s4; simp; omega
  rw [HK.out] at HR
  generalize txt (32 :: regT rd) = t1 at *
  generalize txt (32 :: regT rs1) = t2 at *
  generalize txt (32 :: regT rs2) = t3 at *
  generalize txt (32 :: Lib.itoa im) = t4 at *
  generalize txt (Lib.itoa im) = t5 at *
  generalize txt (nameV 1) = t0 at *
  have HS := Lib.hid hS
  obtain ⟨c0, c1, c2, c3, c4, c5, _, _, _⟩ := hS
  go_enter Tryz.func14, Tryz.ntmps14
  go_wp2_with fail
  refine (HN.out _).mono ?_
  rintro e w1 ⟨rfl, hG1⟩
  have HS1 := Lib.hid (HS.out.on hG1)
  clear c0 c1 c2 c3 c4 c5 hG1 HS
  have c4 := HS1.out.2.2.2.2.1
  go_wp2_with fail
  refine (HI.out _ HS1.out.tabs).mono ?_
  rintro e w2 ⟨rfl, hG2⟩
  have HS2 := Lib.hid (HS1.out.on hG2)
  clear c4 hG2 HS1
  have c0 := HS2.out.1
  have he := HE.out
  go_wp2_with fail
  refine (HR.out _).mono ?_
  rintro e w3 ⟨rfl, hG3⟩
  have HS3 := Lib.hid (HS2.out.on hG3)
  clear c0 hG3 HS2 he HE
  have hS0 := HS3.out
  unfold HeldT at hS0
  obtain ⟨c0, c1, c2, c3, c4, c5, _, _, _⟩ := HS3.out
  go_wp2_with fail
  refine (H1.out _ HS3.out.tabs).mono ?_
  rintro e w4 ⟨rfl, hG4⟩
  go_wp2_with fail
  go_ret
  exact ⟨by rw [HV.out]; rfl, gr_trans HS3.out.gr hG4⟩
set_option maxHeartbeats 4000000 in
theorem text2 (o rd rs1 rs2 im n : Int) (ho : I64 o) (h1 : I64 rd) (h2 : I64 rs1) (h3 : I64 rs2) (hi : I64 im) (k : o = 2) (w : World) (hT : Tabs w) :
    Calls Tryz.prog 14 #[E.six o rd rs1 rs2 im n] w fun e w' => e = .returned (.string (txt (textV o rd rs1 rs2 im))) ∧ w.grownBy w' none := by
  have HV := Lib.hid (show txt (textV o rd rs1 rs2 im) = _ from by rw [textV, ops2 k, join2 _ _ _])
  have HK := Lib.hid (show kindV o = 1 from kind1 (by omega))
  subst k
  have hS := heldT_new w hT 2 rd rs1 rs2 im n
  have HN := Lib.hid (rName_c 2 (by decide))
  have HI := Lib.hid (fun W h => itoa_c im hi W h)
  have H1 := Lib.hid (fun W h => reg_c rd h1 W h)
  have H2 := Lib.hid (fun W h => reg_c rs1 h2 W h)
  have H3 := Lib.hid (fun W h => reg_c rs2 h3 W h)
  have HR := Lib.hid (fun W => rKind_c 2 (by decide) W)
  have s1 := reg_size h1
  have s2 := reg_size h2
  have s3 := reg_size h3
  have s0 := name_size 2
  have s4 := itoa_size im hi
  have HE := Lib.hid (show (⟨#[32]⟩ : ByteArray) ++ txt (Lib.itoa im) = txt (32 :: Lib.itoa im) from txt_app [32] (Lib.itoa im))
  have s5 : (txt (32 :: Lib.itoa im)).size ≤ 30 := by rw [txt_size]; rw [txt_size] at s4; simp; omega
  rw [HK.out] at HR
  generalize txt (32 :: regT rd) = t1 at *
  generalize txt (32 :: regT rs1) = t2 at *
  generalize txt (32 :: regT rs2) = t3 at *
  generalize txt (32 :: Lib.itoa im) = t4 at *
  generalize txt (Lib.itoa im) = t5 at *
  generalize txt (nameV 2) = t0 at *
  have HS := Lib.hid hS
  obtain ⟨c0, c1, c2, c3, c4, c5, _, _, _⟩ := hS
  go_enter Tryz.func14, Tryz.ntmps14
  go_wp2_with fail
  refine (HN.out _).mono ?_
  rintro e w1 ⟨rfl, hG1⟩
  have HS1 := Lib.hid (HS.out.on hG1)
  clear c0 c1 c2 c3 c4 c5 hG1 HS
  have c4 := HS1.out.2.2.2.2.1
  go_wp2_with fail
  refine (HI.out _ HS1.out.tabs).mono ?_
  rintro e w2 ⟨rfl, hG2⟩
  have HS2 := Lib.hid (HS1.out.on hG2)
  clear c4 hG2 HS1
  have c0 := HS2.out.1
  have he := HE.out
  go_wp2_with fail
  refine (HR.out _).mono ?_
  rintro e w3 ⟨rfl, hG3⟩
  have HS3 := Lib.hid (HS2.out.on hG3)
  clear c0 hG3 HS2 he HE
  have hS0 := HS3.out
  unfold HeldT at hS0
  obtain ⟨c0, c1, c2, c3, c4, c5, _, _, _⟩ := HS3.out
  go_wp2_with fail
  refine (H1.out _ HS3.out.tabs).mono ?_
  rintro e w4 ⟨rfl, hG4⟩
  go_wp2_with fail
  go_ret
  exact ⟨by rw [HV.out]; rfl, gr_trans HS3.out.gr hG4⟩
set_option maxHeartbeats 4000000 in
theorem text3 (o rd rs1 rs2 im n : Int) (ho : I64 o) (h1 : I64 rd) (h2 : I64 rs1) (h3 : I64 rs2) (hi : I64 im) (k : o = 3) (w : World) (hT : Tabs w) :
    Calls Tryz.prog 14 #[E.six o rd rs1 rs2 im n] w fun e w' => e = .returned (.string (txt (textV o rd rs1 rs2 im))) ∧ w.grownBy w' none := by
  have HV := Lib.hid (show txt (textV o rd rs1 rs2 im) = _ from by rw [textV, ops3 k, join2 _ _ _])
  have HK := Lib.hid (show kindV o = 1 from kind1 (by omega))
  subst k
  have hS := heldT_new w hT 3 rd rs1 rs2 im n
  have HN := Lib.hid (rName_c 3 (by decide))
  have HI := Lib.hid (fun W h => itoa_c im hi W h)
  have H1 := Lib.hid (fun W h => reg_c rd h1 W h)
  have H2 := Lib.hid (fun W h => reg_c rs1 h2 W h)
  have H3 := Lib.hid (fun W h => reg_c rs2 h3 W h)
  have HR := Lib.hid (fun W => rKind_c 3 (by decide) W)
  have s1 := reg_size h1
  have s2 := reg_size h2
  have s3 := reg_size h3
  have s0 := name_size 3
  have s4 := itoa_size im hi
  have HE := Lib.hid (show (⟨#[32]⟩ : ByteArray) ++ txt (Lib.itoa im) = txt (32 :: Lib.itoa im) from txt_app [32] (Lib.itoa im))
  have s5 : (txt (32 :: Lib.itoa im)).size ≤ 30 := by rw [txt_size]; rw [txt_size] at s4; simp; omega
  rw [HK.out] at HR
  generalize txt (32 :: regT rd) = t1 at *
  generalize txt (32 :: regT rs1) = t2 at *
  generalize txt (32 :: regT rs2) = t3 at *
  generalize txt (32 :: Lib.itoa im) = t4 at *
  generalize txt (Lib.itoa im) = t5 at *
  generalize txt (nameV 3) = t0 at *
  have HS := Lib.hid hS
  obtain ⟨c0, c1, c2, c3, c4, c5, _, _, _⟩ := hS
  go_enter Tryz.func14, Tryz.ntmps14
  go_wp2_with fail
  refine (HN.out _).mono ?_
  rintro e w1 ⟨rfl, hG1⟩
  have HS1 := Lib.hid (HS.out.on hG1)
  clear c0 c1 c2 c3 c4 c5 hG1 HS
  have c4 := HS1.out.2.2.2.2.1
  go_wp2_with fail
  refine (HI.out _ HS1.out.tabs).mono ?_
  rintro e w2 ⟨rfl, hG2⟩
  have HS2 := Lib.hid (HS1.out.on hG2)
  clear c4 hG2 HS1
  have c0 := HS2.out.1
  have he := HE.out
  go_wp2_with fail
  refine (HR.out _).mono ?_
  rintro e w3 ⟨rfl, hG3⟩
  have HS3 := Lib.hid (HS2.out.on hG3)
  clear c0 hG3 HS2 he HE
  have hS0 := HS3.out
  unfold HeldT at hS0
  obtain ⟨c0, c1, c2, c3, c4, c5, _, _, _⟩ := HS3.out
  go_wp2_with fail
  refine (H1.out _ HS3.out.tabs).mono ?_
  rintro e w4 ⟨rfl, hG4⟩
  go_wp2_with fail
  go_ret
  exact ⟨by rw [HV.out]; rfl, gr_trans HS3.out.gr hG4⟩
set_option maxHeartbeats 4000000 in
theorem text4 (o rd rs1 rs2 im n : Int) (ho : I64 o) (h1 : I64 rd) (h2 : I64 rs1) (h3 : I64 rs2) (hi : I64 im) (k : o = 4) (w : World) (hT : Tabs w) :
    Calls Tryz.prog 14 #[E.six o rd rs1 rs2 im n] w fun e w' => e = .returned (.string (txt (textV o rd rs1 rs2 im))) ∧ w.grownBy w' none := by
  have HV := Lib.hid (show txt (textV o rd rs1 rs2 im) = _ from by rw [textV, ops4 (by omega), join3 _ _ _ _])
  have HK := Lib.hid (show kindV o = 1 from kind1 (by omega))
  subst k
  have hS := heldT_new w hT 4 rd rs1 rs2 im n
  have HN := Lib.hid (rName_c 4 (by decide))
  have HI := Lib.hid (fun W h => itoa_c im hi W h)
  have H1 := Lib.hid (fun W h => reg_c rd h1 W h)
  have H2 := Lib.hid (fun W h => reg_c rs1 h2 W h)
  have H3 := Lib.hid (fun W h => reg_c rs2 h3 W h)
  have HR := Lib.hid (fun W => rKind_c 4 (by decide) W)
  have s1 := reg_size h1
  have s2 := reg_size h2
  have s3 := reg_size h3
  have s0 := name_size 4
  have s4 := itoa_size im hi
  have HE := Lib.hid (show (⟨#[32]⟩ : ByteArray) ++ txt (Lib.itoa im) = txt (32 :: Lib.itoa im) from txt_app [32] (Lib.itoa im))
  have s5 : (txt (32 :: Lib.itoa im)).size ≤ 30 := by rw [txt_size]; rw [txt_size] at s4; simp; omega
  rw [HK.out] at HR
  generalize txt (32 :: regT rd) = t1 at *
  generalize txt (32 :: regT rs1) = t2 at *
  generalize txt (32 :: regT rs2) = t3 at *
  generalize txt (32 :: Lib.itoa im) = t4 at *
  generalize txt (Lib.itoa im) = t5 at *
  generalize txt (nameV 4) = t0 at *
  have HS := Lib.hid hS
  obtain ⟨c0, c1, c2, c3, c4, c5, _, _, _⟩ := hS
  go_enter Tryz.func14, Tryz.ntmps14
  go_wp2_with fail
  refine (HN.out _).mono ?_
  rintro e w1 ⟨rfl, hG1⟩
  have HS1 := Lib.hid (HS.out.on hG1)
  clear c0 c1 c2 c3 c4 c5 hG1 HS
  have c4 := HS1.out.2.2.2.2.1
  go_wp2_with fail
  refine (HI.out _ HS1.out.tabs).mono ?_
  rintro e w2 ⟨rfl, hG2⟩
  have HS2 := Lib.hid (HS1.out.on hG2)
  clear c4 hG2 HS1
  have c0 := HS2.out.1
  have he := HE.out
  go_wp2_with fail
  refine (HR.out _).mono ?_
  rintro e w3 ⟨rfl, hG3⟩
  have HS3 := Lib.hid (HS2.out.on hG3)
  clear c0 hG3 HS2 he HE
  have hS0 := HS3.out
  unfold HeldT at hS0
  obtain ⟨c0, c1, c2, c3, c4, c5, _, _, _⟩ := HS3.out
  have z1 : ¬ 9223372036854775807 < t0.size + t1.size := by omega
  have z2 : ¬ 9223372036854775807 < t0.size + t1.size + t2.size := by omega
  have z3 : ¬ 9223372036854775807 < t0.size + t1.size + t2.size + t4.size := by omega
  clear c1 c2 c3 c4 c5
  go_wp2_with fail
  clear c0 HS3
  generalize w.heap.size = b at *
  go_region_held3 (fun w' => w'.cell? ⟨b, 0, none⟩ = some (.int .i64 4) ∧ w'.cell? ⟨b, 1, none⟩ = some (.int .i64 rd) ∧ w'.cell? ⟨b, 2, none⟩ = some (.int .i64 rs1) ∧ w'.cell? ⟨b, 3, none⟩ = some (.int .i64 rs2) ∧ w'.cell? ⟨b, 4, none⟩ = some (.int .i64 im) ∧ w'.cell? ⟨b, 5, none⟩ = some (.int .i64 n) ∧ Row w' b 23 [.int .i64 4, .int .i64 rd, .int .i64 rs1, .int .i64 rs2, .int .i64 im, .int .i64 n] ∧ Tabs w' ∧ w.grownBy w' none)
    (first | assumption | (exact HeldT.on (gr_drew (gr_refl _ none)) (by assumption)) | (exact HeldT.on (by assumption) (by assumption)))
    (first
      | (go_at_call 25; refine (H1.out _ (HeldT.tabs (by assumption))).mono ?_; rintro e w' ⟨rfl, hg⟩)
      | (go_at_call 25; refine (H2.out _ (HeldT.tabs (by assumption))).mono ?_; rintro e w' ⟨rfl, hg⟩))
  all_goals
    rename_i hHeld
    have hBe := HeldT.gr hHeld
    clear hHeld
    go_wp2_with fail
    go_ret
    exact ⟨by rw [HV.out]; rfl, hBe⟩
set_option maxHeartbeats 4000000 in
theorem text5 (o rd rs1 rs2 im n : Int) (ho : I64 o) (h1 : I64 rd) (h2 : I64 rs1) (h3 : I64 rs2) (hi : I64 im) (k : 5 ≤ o ∧ o ≤ 10) (w : World) (hT : Tabs w) :
    Calls Tryz.prog 14 #[E.six o rd rs1 rs2 im n] w fun e w' => e = .returned (.string (txt (textV o rd rs1 rs2 im))) ∧ w.grownBy w' none := by
  have HV := Lib.hid (show txt (textV o rd rs1 rs2 im) = _ from by rw [textV, ops5 k, join3 _ _ _ _])
  have HK := Lib.hid (show kindV o = 2 from kind2 k)
  have hS := heldT_new w hT o rd rs1 rs2 im n
  have HN := Lib.hid (rName_c o ho)
  have HI := Lib.hid (fun W h => itoa_c im hi W h)
  have H1 := Lib.hid (fun W h => reg_c rd h1 W h)
  have H2 := Lib.hid (fun W h => reg_c rs1 h2 W h)
  have H3 := Lib.hid (fun W h => reg_c rs2 h3 W h)
  have HR := Lib.hid (fun W => rKind_c o ho W)
  have s1 := reg_size h1
  have s2 := reg_size h2
  have s3 := reg_size h3
  have s0 := name_size o
  have s4 := itoa_size im hi
  have HE := Lib.hid (show (⟨#[32]⟩ : ByteArray) ++ txt (Lib.itoa im) = txt (32 :: Lib.itoa im) from txt_app [32] (Lib.itoa im))
  have s5 : (txt (32 :: Lib.itoa im)).size ≤ 30 := by rw [txt_size]; rw [txt_size] at s4; simp; omega
  rw [HK.out] at HR
  generalize txt (32 :: regT rd) = t1 at *
  generalize txt (32 :: regT rs1) = t2 at *
  generalize txt (32 :: regT rs2) = t3 at *
  generalize txt (32 :: Lib.itoa im) = t4 at *
  generalize txt (Lib.itoa im) = t5 at *
  generalize txt (nameV o) = t0 at *
  have HS := Lib.hid hS
  obtain ⟨c0, c1, c2, c3, c4, c5, _, _, _⟩ := hS
  go_enter Tryz.func14, Tryz.ntmps14
  go_wp2_with fail
  refine (HN.out _).mono ?_
  rintro e w1 ⟨rfl, hG1⟩
  have HS1 := Lib.hid (HS.out.on hG1)
  clear c0 c1 c2 c3 c4 c5 hG1 HS
  have c4 := HS1.out.2.2.2.2.1
  go_wp2_with fail
  refine (HI.out _ HS1.out.tabs).mono ?_
  rintro e w2 ⟨rfl, hG2⟩
  have HS2 := Lib.hid (HS1.out.on hG2)
  clear c4 hG2 HS1
  have c0 := HS2.out.1
  have he := HE.out
  go_wp2_with fail
  refine (HR.out _).mono ?_
  rintro e w3 ⟨rfl, hG3⟩
  have HS3 := Lib.hid (HS2.out.on hG3)
  clear c0 hG3 HS2 he HE
  have hS0 := HS3.out
  unfold HeldT at hS0
  obtain ⟨c0, c1, c2, c3, c4, c5, _, _, _⟩ := HS3.out
  have z1 : ¬ 9223372036854775807 < t0.size + t2.size := by omega
  have z2 : ¬ 9223372036854775807 < t0.size + t2.size + t3.size := by omega
  have z3 : ¬ 9223372036854775807 < t0.size + t2.size + t3.size + t4.size := by omega
  clear c1 c2 c3 c4 c5
  go_wp2_with fail
  clear c0 HS3
  generalize w.heap.size = b at *
  go_region_held3 (fun w' => w'.cell? ⟨b, 0, none⟩ = some (.int .i64 o) ∧ w'.cell? ⟨b, 1, none⟩ = some (.int .i64 rd) ∧ w'.cell? ⟨b, 2, none⟩ = some (.int .i64 rs1) ∧ w'.cell? ⟨b, 3, none⟩ = some (.int .i64 rs2) ∧ w'.cell? ⟨b, 4, none⟩ = some (.int .i64 im) ∧ w'.cell? ⟨b, 5, none⟩ = some (.int .i64 n) ∧ Row w' b 23 [.int .i64 o, .int .i64 rd, .int .i64 rs1, .int .i64 rs2, .int .i64 im, .int .i64 n] ∧ Tabs w' ∧ w.grownBy w' none)
    (first | assumption | (exact HeldT.on (gr_drew (gr_refl _ none)) (by assumption)) | (exact HeldT.on (by assumption) (by assumption)))
    (first
      | (go_at_call 25; refine (H2.out _ (HeldT.tabs (by assumption))).mono ?_; rintro e w' ⟨rfl, hg⟩)
      | (go_at_call 25; refine (H3.out _ (HeldT.tabs (by assumption))).mono ?_; rintro e w' ⟨rfl, hg⟩))
  all_goals
    rename_i hHeld
    have hBe := HeldT.gr hHeld
    clear hHeld
    go_wp2_with fail
    go_ret
    exact ⟨by rw [HV.out]; rfl, hBe⟩
set_option maxHeartbeats 4000000 in
theorem text6 (o rd rs1 rs2 im n : Int) (ho : I64 o) (h1 : I64 rd) (h2 : I64 rs1) (h3 : I64 rs2) (hi : I64 im) (k : 11 ≤ o ∧ o ≤ 17) (w : World) (hT : Tabs w) :
    Calls Tryz.prog 14 #[E.six o rd rs1 rs2 im n] w fun e w' => e = .returned (.string (txt (textV o rd rs1 rs2 im))) ∧ w.grownBy w' none := by
  have HV := Lib.hid (show txt (textV o rd rs1 rs2 im) = _ from by rw [textV, ops6 k, join3 _ _ _ _])
  have HK := Lib.hid (show kindV o = 3 from kind3 k)
  have n1 : (o == 1) = false := by simp; omega
  have n2 : (o == 2) = false := by simp; omega
  have n3 : (o == 3) = false := by simp; omega
  have hS := heldT_new w hT o rd rs1 rs2 im n
  have HN := Lib.hid (rName_c o ho)
  have HI := Lib.hid (fun W h => itoa_c im hi W h)
  have H1 := Lib.hid (fun W h => reg_c rd h1 W h)
  have H2 := Lib.hid (fun W h => reg_c rs1 h2 W h)
  have H3 := Lib.hid (fun W h => reg_c rs2 h3 W h)
  have HR := Lib.hid (fun W => rKind_c o ho W)
  have s1 := reg_size h1
  have s2 := reg_size h2
  have s3 := reg_size h3
  have s0 := name_size o
  have s4 := itoa_size im hi
  have HE := Lib.hid (show (⟨#[32]⟩ : ByteArray) ++ txt (Lib.itoa im) = txt (32 :: Lib.itoa im) from txt_app [32] (Lib.itoa im))
  have s5 : (txt (32 :: Lib.itoa im)).size ≤ 30 := by rw [txt_size]; rw [txt_size] at s4; simp; omega
  rw [HK.out] at HR
  generalize txt (32 :: regT rd) = t1 at *
  generalize txt (32 :: regT rs1) = t2 at *
  generalize txt (32 :: regT rs2) = t3 at *
  generalize txt (32 :: Lib.itoa im) = t4 at *
  generalize txt (Lib.itoa im) = t5 at *
  generalize txt (nameV o) = t0 at *
  have HS := Lib.hid hS
  obtain ⟨c0, c1, c2, c3, c4, c5, _, _, _⟩ := hS
  go_enter Tryz.func14, Tryz.ntmps14
  go_wp2_with fail
  refine (HN.out _).mono ?_
  rintro e w1 ⟨rfl, hG1⟩
  have HS1 := Lib.hid (HS.out.on hG1)
  clear c0 c1 c2 c3 c4 c5 hG1 HS
  have c4 := HS1.out.2.2.2.2.1
  go_wp2_with fail
  refine (HI.out _ HS1.out.tabs).mono ?_
  rintro e w2 ⟨rfl, hG2⟩
  have HS2 := Lib.hid (HS1.out.on hG2)
  clear c4 hG2 HS1
  have c0 := HS2.out.1
  have he := HE.out
  go_wp2_with fail
  refine (HR.out _).mono ?_
  rintro e w3 ⟨rfl, hG3⟩
  have HS3 := Lib.hid (HS2.out.on hG3)
  clear c0 hG3 HS2 he HE
  have hS0 := HS3.out
  unfold HeldT at hS0
  obtain ⟨c0, c1, c2, c3, c4, c5, _, _, _⟩ := HS3.out
  have z1 : ¬ 9223372036854775807 < t0.size + t1.size := by omega
  have z2 : ¬ 9223372036854775807 < t0.size + t1.size + t2.size := by omega
  have z3 : ¬ 9223372036854775807 < t0.size + t1.size + t2.size + t4.size := by omega
  clear c1 c2 c3 c4 c5
  go_wp2_with fail
  clear c0 HS3
  generalize w.heap.size = b at *
  go_region_held3 (fun w' => w'.cell? ⟨b, 0, none⟩ = some (.int .i64 o) ∧ w'.cell? ⟨b, 1, none⟩ = some (.int .i64 rd) ∧ w'.cell? ⟨b, 2, none⟩ = some (.int .i64 rs1) ∧ w'.cell? ⟨b, 3, none⟩ = some (.int .i64 rs2) ∧ w'.cell? ⟨b, 4, none⟩ = some (.int .i64 im) ∧ w'.cell? ⟨b, 5, none⟩ = some (.int .i64 n) ∧ Row w' b 23 [.int .i64 o, .int .i64 rd, .int .i64 rs1, .int .i64 rs2, .int .i64 im, .int .i64 n] ∧ Tabs w' ∧ w.grownBy w' none)
    (first | assumption | (exact HeldT.on (gr_drew (gr_refl _ none)) (by assumption)) | (exact HeldT.on (by assumption) (by assumption)))
    (first
      | (go_at_call 25; refine (H1.out _ (HeldT.tabs (by assumption))).mono ?_; rintro e w' ⟨rfl, hg⟩)
      | (go_at_call 25; refine (H2.out _ (HeldT.tabs (by assumption))).mono ?_; rintro e w' ⟨rfl, hg⟩))
  all_goals
    rename_i hHeld
    have hBe := HeldT.gr hHeld
    clear hHeld
    go_wp2_with fail
    go_ret
    exact ⟨by rw [HV.out]; rfl, hBe⟩
end Go.Proofs.YtpbeamnogfjagaaGreatDoor.refEnc
