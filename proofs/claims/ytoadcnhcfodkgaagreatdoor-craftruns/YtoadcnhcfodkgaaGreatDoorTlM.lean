/-
  What the body tells, as plain steps, for the seat YtoadcnhcfodkgaaGreatDoor. (Made by mktl.py.)
-/
import Derived.Test.YtoadcnhcfodkgaaGreatDoorByM
namespace Go.Proofs.YtoadcnhcfodkgaaGreatDoor
open Go.RowKit

/-- What is told. -/
structure Tl where
  t : Int
  m : Int
  fa : Int
  ak : Int
  er : Int
  rj : Int
  q0 : Int
  q1 : Int
  q2 : Int
  q3 : Int
  d0 : Int
  d1 : Int
  d2 : Int
def tl0 : Tl := ⟨0, 0, 0, 0, 0, 0, 0, 0, 0, 0, 0, 0, 0⟩
def inR (n a b : Int) : Bool := decide (a ≤ n) && decide (n ≤ b)
theorem inR_iff {n a b : Int} : inR n a b = true ↔ a ≤ n ∧ n ≤ b := by
  unfold inR
  simp
def tlOk (T : Tl) : Bool := cRight T.t && inR T.m 0 3 && inR T.fa 0 15 && inR T.ak 0 255 && inR T.er 0 255 && inR T.rj 0 65535 && inR T.q0 (-32768) 32767 && inR T.q1 (-32768) 32767 && inR T.q2 (-32768) 32767 && inR T.q3 (-32768) 32767 && inR T.d0 (-32768) 32767 && inR T.d1 (-32768) 32767 && inR T.d2 (-32768) 32767
structure TlIn (T : Tl) : Prop where
  t : 0 ≤ T.t ∧ T.t ≤ 157766400000
  m : 0 ≤ T.m ∧ T.m ≤ 3
  fa : 0 ≤ T.fa ∧ T.fa ≤ 15
  ak : 0 ≤ T.ak ∧ T.ak ≤ 255
  er : 0 ≤ T.er ∧ T.er ≤ 255
  rj : 0 ≤ T.rj ∧ T.rj ≤ 65535
  q0 : -32768 ≤ T.q0 ∧ T.q0 ≤ 32767
  q1 : -32768 ≤ T.q1 ∧ T.q1 ≤ 32767
  q2 : -32768 ≤ T.q2 ∧ T.q2 ≤ 32767
  q3 : -32768 ≤ T.q3 ∧ T.q3 ≤ 32767
  d0 : -32768 ≤ T.d0 ∧ T.d0 ≤ 32767
  d1 : -32768 ≤ T.d1 ∧ T.d1 ≤ 32767
  d2 : -32768 ≤ T.d2 ∧ T.d2 ≤ 32767
theorem tl_in {T : Tl} (h : tlOk T = true) : TlIn T := by
  unfold tlOk cRight at h
  simp only [Bool.and_eq_true, inR_iff, decide_eq_true_eq] at h
  obtain ⟨⟨⟨⟨⟨⟨⟨⟨⟨⟨⟨⟨⟨h0, h1⟩, h2⟩, h3⟩, h4⟩, h5⟩, h6⟩, h7⟩, h8⟩, h9⟩, h10⟩, h11⟩, h12⟩, h13⟩ := h
  exact ⟨⟨h0, h1⟩, h2, h3, h4, h5, h6, h7, h8, h9, h10, h11, h12, h13⟩
def twoL (n : Int) : List Int := [IntKind.u8.wrap (IntKind.u16.wrap n / 256), IntKind.u8.wrap (IntKind.u16.wrap n)]
def tlL (T : Tl) : List Int := [IntKind.u8.wrap (T.t / 1099511627776), IntKind.u8.wrap (T.t / 4294967296), IntKind.u8.wrap (T.t / 16777216), IntKind.u8.wrap (T.t / 65536), IntKind.u8.wrap (T.t / 256), IntKind.u8.wrap T.t, T.m, T.fa, T.ak, T.er, IntKind.u8.wrap (IntKind.u16.wrap T.rj / 256), IntKind.u8.wrap (IntKind.u16.wrap T.rj), IntKind.u8.wrap (IntKind.u16.wrap T.q0 / 256), IntKind.u8.wrap (IntKind.u16.wrap T.q0), IntKind.u8.wrap (IntKind.u16.wrap T.q1 / 256), IntKind.u8.wrap (IntKind.u16.wrap T.q1), IntKind.u8.wrap (IntKind.u16.wrap T.q2 / 256), IntKind.u8.wrap (IntKind.u16.wrap T.q2), IntKind.u8.wrap (IntKind.u16.wrap T.q3 / 256), IntKind.u8.wrap (IntKind.u16.wrap T.q3), IntKind.u8.wrap (IntKind.u16.wrap T.d0 / 256), IntKind.u8.wrap (IntKind.u16.wrap T.d0), IntKind.u8.wrap (IntKind.u16.wrap T.d1 / 256), IntKind.u8.wrap (IntKind.u16.wrap T.d1), IntKind.u8.wrap (IntKind.u16.wrap T.d2 / 256), IntKind.u8.wrap (IntKind.u16.wrap T.d2)]
def tlW (T : Tl) : Int × ByteArray := if tlOk T then (32, strOf (tlL T)) else (0, ⟨#[]⟩)
/-- What 26 bytes tell. -/
def tlE (s : ByteArray) : Tl := ⟨tickS s, (bt s 6 : Nat), (bt s 7 : Nat), (bt s 8 : Nat), (bt s 9 : Nat), (cnt s 10 : Nat), sg (cnt s 12), sg (cnt s 14), sg (cnt s 16), sg (cnt s 18), sg (cnt s 20), sg (cnt s 22), sg (cnt s 24)⟩
def tlR (k : Int) (s : ByteArray) : Tl × Bool := if k = 32 ∧ s.size = 26 ∧ tlOk (tlE s) = true then (tlE s, true) else (tl0, false)
theorem tlL_rng {T : Tl} (h : TlIn T) : ∀ b ∈ tlL T, 0 ≤ b ∧ b < 256 := by
  intro b hb
  unfold tlL at hb
  simp only [List.mem_cons, List.not_mem_nil, or_false] at hb
  have h1 := h.m
  have h2 := h.fa
  have h3 := h.ak
  have h4 := h.er
  rcases hb with rfl | rfl | rfl | rfl | rfl | rfl | rfl | rfl | rfl | rfl | rfl | rfl | rfl | rfl | rfl | rfl | rfl | rfl | rfl | rfl | rfl | rfl | rfl | rfl | rfl | rfl <;> first | exact wrap8_in _ | omega
theorem sg_back {n : Int} {a b : Nat} (h : -32768 ≤ n ∧ n ≤ 32767) (ha : (a : Int) = IntKind.u8.wrap (IntKind.u16.wrap n / 256)) (hb : (b : Int) = IntKind.u8.wrap (IntKind.u16.wrap n)) : sg (a * 256 + b) = n := by
  rw [IntKind.wrap_u8, IntKind.wrap_u16] at ha hb
  unfold sg
  split <;> omega
/-- What is written is read again. -/
theorem tl_back {T : Tl} (h : tlOk T = true) : tlE (strOf (tlL T)) = T := by
  have H := tl_in h
  have hb := fun i hi => bt_strOf (tlL_rng H) i hi
  have b0 : ((bt (strOf (tlL T)) 0 : Nat) : Int) = IntKind.u8.wrap (T.t / 1099511627776) := hb 0 (Nat.le_of_ble_eq_true rfl)
  have b1 : ((bt (strOf (tlL T)) 1 : Nat) : Int) = IntKind.u8.wrap (T.t / 4294967296) := hb 1 (Nat.le_of_ble_eq_true rfl)
  have b2 : ((bt (strOf (tlL T)) 2 : Nat) : Int) = IntKind.u8.wrap (T.t / 16777216) := hb 2 (Nat.le_of_ble_eq_true rfl)
  have b3 : ((bt (strOf (tlL T)) 3 : Nat) : Int) = IntKind.u8.wrap (T.t / 65536) := hb 3 (Nat.le_of_ble_eq_true rfl)
  have b4 : ((bt (strOf (tlL T)) 4 : Nat) : Int) = IntKind.u8.wrap (T.t / 256) := hb 4 (Nat.le_of_ble_eq_true rfl)
  have b5 : ((bt (strOf (tlL T)) 5 : Nat) : Int) = IntKind.u8.wrap T.t := hb 5 (Nat.le_of_ble_eq_true rfl)
  have b6 : ((bt (strOf (tlL T)) 6 : Nat) : Int) = T.m := hb 6 (Nat.le_of_ble_eq_true rfl)
  have b7 : ((bt (strOf (tlL T)) 7 : Nat) : Int) = T.fa := hb 7 (Nat.le_of_ble_eq_true rfl)
  have b8 : ((bt (strOf (tlL T)) 8 : Nat) : Int) = T.ak := hb 8 (Nat.le_of_ble_eq_true rfl)
  have b9 : ((bt (strOf (tlL T)) 9 : Nat) : Int) = T.er := hb 9 (Nat.le_of_ble_eq_true rfl)
  have b10 : ((bt (strOf (tlL T)) 10 : Nat) : Int) = IntKind.u8.wrap (IntKind.u16.wrap T.rj / 256) := hb 10 (Nat.le_of_ble_eq_true rfl)
  have b11 : ((bt (strOf (tlL T)) 11 : Nat) : Int) = IntKind.u8.wrap (IntKind.u16.wrap T.rj) := hb 11 (Nat.le_of_ble_eq_true rfl)
  have b12 : ((bt (strOf (tlL T)) 12 : Nat) : Int) = IntKind.u8.wrap (IntKind.u16.wrap T.q0 / 256) := hb 12 (Nat.le_of_ble_eq_true rfl)
  have b13 : ((bt (strOf (tlL T)) 13 : Nat) : Int) = IntKind.u8.wrap (IntKind.u16.wrap T.q0) := hb 13 (Nat.le_of_ble_eq_true rfl)
  have b14 : ((bt (strOf (tlL T)) 14 : Nat) : Int) = IntKind.u8.wrap (IntKind.u16.wrap T.q1 / 256) := hb 14 (Nat.le_of_ble_eq_true rfl)
  have b15 : ((bt (strOf (tlL T)) 15 : Nat) : Int) = IntKind.u8.wrap (IntKind.u16.wrap T.q1) := hb 15 (Nat.le_of_ble_eq_true rfl)
  have b16 : ((bt (strOf (tlL T)) 16 : Nat) : Int) = IntKind.u8.wrap (IntKind.u16.wrap T.q2 / 256) := hb 16 (Nat.le_of_ble_eq_true rfl)
  have b17 : ((bt (strOf (tlL T)) 17 : Nat) : Int) = IntKind.u8.wrap (IntKind.u16.wrap T.q2) := hb 17 (Nat.le_of_ble_eq_true rfl)
  have b18 : ((bt (strOf (tlL T)) 18 : Nat) : Int) = IntKind.u8.wrap (IntKind.u16.wrap T.q3 / 256) := hb 18 (Nat.le_of_ble_eq_true rfl)
  have b19 : ((bt (strOf (tlL T)) 19 : Nat) : Int) = IntKind.u8.wrap (IntKind.u16.wrap T.q3) := hb 19 (Nat.le_of_ble_eq_true rfl)
  have b20 : ((bt (strOf (tlL T)) 20 : Nat) : Int) = IntKind.u8.wrap (IntKind.u16.wrap T.d0 / 256) := hb 20 (Nat.le_of_ble_eq_true rfl)
  have b21 : ((bt (strOf (tlL T)) 21 : Nat) : Int) = IntKind.u8.wrap (IntKind.u16.wrap T.d0) := hb 21 (Nat.le_of_ble_eq_true rfl)
  have b22 : ((bt (strOf (tlL T)) 22 : Nat) : Int) = IntKind.u8.wrap (IntKind.u16.wrap T.d1 / 256) := hb 22 (Nat.le_of_ble_eq_true rfl)
  have b23 : ((bt (strOf (tlL T)) 23 : Nat) : Int) = IntKind.u8.wrap (IntKind.u16.wrap T.d1) := hb 23 (Nat.le_of_ble_eq_true rfl)
  have b24 : ((bt (strOf (tlL T)) 24 : Nat) : Int) = IntKind.u8.wrap (IntKind.u16.wrap T.d2 / 256) := hb 24 (Nat.le_of_ble_eq_true rfl)
  have b25 : ((bt (strOf (tlL T)) 25 : Nat) : Int) = IntKind.u8.wrap (IntKind.u16.wrap T.d2) := hb 25 (Nat.le_of_ble_eq_true rfl)
  clear hb
  have e0 : tickS (strOf (tlL T)) = T.t := by
    have ht := H.t
    have hk : tickS (strOf (tlL T)) = ((((((0 * 256 + bt (strOf (tlL T)) 0) * 256 + bt (strOf (tlL T)) 1) * 256 + bt (strOf (tlL T)) 2) * 256 + bt (strOf (tlL T)) 3) * 256 + bt (strOf (tlL T)) 4) * 256 + bt (strOf (tlL T)) 5 : Nat) := rfl
    rw [hk]
    simp only [IntKind.wrap_u8] at b0 b1 b2 b3 b4 b5
    omega
  have e5 : ((cnt (strOf (tlL T)) 10 : Nat) : Int) = T.rj := by
    have ht := H.rj
    have hk : cnt (strOf (tlL T)) 10 = bt (strOf (tlL T)) 10 * 256 + bt (strOf (tlL T)) 11 := rfl
    rw [hk]
    simp only [IntKind.wrap_u8, IntKind.wrap_u16] at b10 b11
    omega
  have e6 : sg (cnt (strOf (tlL T)) 12) = T.q0 := sg_back H.q0 b12 b13
  have e7 : sg (cnt (strOf (tlL T)) 14) = T.q1 := sg_back H.q1 b14 b15
  have e8 : sg (cnt (strOf (tlL T)) 16) = T.q2 := sg_back H.q2 b16 b17
  have e9 : sg (cnt (strOf (tlL T)) 18) = T.q3 := sg_back H.q3 b18 b19
  have e10 : sg (cnt (strOf (tlL T)) 20) = T.d0 := sg_back H.d0 b20 b21
  have e11 : sg (cnt (strOf (tlL T)) 22) = T.d1 := sg_back H.d1 b22 b23
  have e12 : sg (cnt (strOf (tlL T)) 24) = T.d2 := sg_back H.d2 b24 b25
  unfold tlE
  rw [e0, b6, b7, b8, b9, e5, e6, e7, e8, e9, e10, e11, e12]
theorem two_there {a b : Nat} (ha : a < 256) (hb : b < 256) : IntKind.u8.wrap (IntKind.u16.wrap (sg (a * 256 + b)) / 256) = (a : Int) ∧ IntKind.u8.wrap (IntKind.u16.wrap (sg (a * 256 + b))) = (b : Int) := by
  rw [IntKind.wrap_u8, IntKind.wrap_u16, IntKind.wrap_u8]
  unfold sg
  split <;> omega
theorem two_plain {a b : Nat} (ha : a < 256) (hb : b < 256) : IntKind.u8.wrap (IntKind.u16.wrap ((a * 256 + b : Nat) : Int) / 256) = (a : Int) ∧ IntKind.u8.wrap (IntKind.u16.wrap ((a * 256 + b : Nat) : Int)) = (b : Int) := by
  rw [IntKind.wrap_u8, IntKind.wrap_u16, IntKind.wrap_u8]
  omega
/-- What is read is written as just these bytes. -/
theorem tl_there (s : ByteArray) (h : s.size = 26) : strOf (tlL (tlE s)) = s := by
  have hk : tickS s = ((((((0 * 256 + bt s 0) * 256 + bt s 1) * 256 + bt s 2) * 256 + bt s 3) * 256 + bt s 4) * 256 + bt s 5 : Nat) := rfl
  have hl : tlL (tlE s) = [(bt s 0 : Int), (bt s 1 : Int), (bt s 2 : Int), (bt s 3 : Int), (bt s 4 : Int), (bt s 5 : Int), (bt s 6 : Int), (bt s 7 : Int), (bt s 8 : Int), (bt s 9 : Int), (bt s 10 : Int), (bt s 11 : Int), (bt s 12 : Int), (bt s 13 : Int), (bt s 14 : Int), (bt s 15 : Int), (bt s 16 : Int), (bt s 17 : Int), (bt s 18 : Int), (bt s 19 : Int), (bt s 20 : Int), (bt s 21 : Int), (bt s 22 : Int), (bt s 23 : Int), (bt s 24 : Int), (bt s 25 : Int)] := by
    unfold tlL tlE
    dsimp only
    have l0 := bt_lt s 0
    have l1 := bt_lt s 1
    have l2 := bt_lt s 2
    have l3 := bt_lt s 3
    have l4 := bt_lt s 4
    have l5 := bt_lt s 5
    have l6 := bt_lt s 6
    have l7 := bt_lt s 7
    have l8 := bt_lt s 8
    have l9 := bt_lt s 9
    have l10 := bt_lt s 10
    have l11 := bt_lt s 11
    have l12 := bt_lt s 12
    have l13 := bt_lt s 13
    have l14 := bt_lt s 14
    have l15 := bt_lt s 15
    have l16 := bt_lt s 16
    have l17 := bt_lt s 17
    have l18 := bt_lt s 18
    have l19 := bt_lt s 19
    have l20 := bt_lt s 20
    have l21 := bt_lt s 21
    have l22 := bt_lt s 22
    have l23 := bt_lt s 23
    have l24 := bt_lt s 24
    have l25 := bt_lt s 25
    have p10 : IntKind.u8.wrap (IntKind.u16.wrap (((cnt s 10 : Nat) : Int)) / 256) = (bt s 10 : Int) ∧ IntKind.u8.wrap (IntKind.u16.wrap (((cnt s 10 : Nat) : Int))) = (bt s 11 : Int) := two_plain l10 l11
    have p12 : IntKind.u8.wrap (IntKind.u16.wrap (sg (cnt s 12)) / 256) = (bt s 12 : Int) ∧ IntKind.u8.wrap (IntKind.u16.wrap (sg (cnt s 12))) = (bt s 13 : Int) := two_there l12 l13
    have p14 : IntKind.u8.wrap (IntKind.u16.wrap (sg (cnt s 14)) / 256) = (bt s 14 : Int) ∧ IntKind.u8.wrap (IntKind.u16.wrap (sg (cnt s 14))) = (bt s 15 : Int) := two_there l14 l15
    have p16 : IntKind.u8.wrap (IntKind.u16.wrap (sg (cnt s 16)) / 256) = (bt s 16 : Int) ∧ IntKind.u8.wrap (IntKind.u16.wrap (sg (cnt s 16))) = (bt s 17 : Int) := two_there l16 l17
    have p18 : IntKind.u8.wrap (IntKind.u16.wrap (sg (cnt s 18)) / 256) = (bt s 18 : Int) ∧ IntKind.u8.wrap (IntKind.u16.wrap (sg (cnt s 18))) = (bt s 19 : Int) := two_there l18 l19
    have p20 : IntKind.u8.wrap (IntKind.u16.wrap (sg (cnt s 20)) / 256) = (bt s 20 : Int) ∧ IntKind.u8.wrap (IntKind.u16.wrap (sg (cnt s 20))) = (bt s 21 : Int) := two_there l20 l21
    have p22 : IntKind.u8.wrap (IntKind.u16.wrap (sg (cnt s 22)) / 256) = (bt s 22 : Int) ∧ IntKind.u8.wrap (IntKind.u16.wrap (sg (cnt s 22))) = (bt s 23 : Int) := two_there l22 l23
    have p24 : IntKind.u8.wrap (IntKind.u16.wrap (sg (cnt s 24)) / 256) = (bt s 24 : Int) ∧ IntKind.u8.wrap (IntKind.u16.wrap (sg (cnt s 24))) = (bt s 25 : Int) := two_there l24 l25
    rw [p10.1, p10.2, p12.1, p12.2, p14.1, p14.2, p16.1, p16.2, p18.1, p18.2, p20.1, p20.2, p22.1, p22.2, p24.1, p24.2]
    have t5 : IntKind.u8.wrap (tickS s) = (bt s 5 : Int) := by rw [IntKind.wrap_u8, hk]; omega
    have t0 : IntKind.u8.wrap (tickS s / 1099511627776) = (bt s 0 : Int) := by rw [IntKind.wrap_u8, hk]; omega
    have t1 : IntKind.u8.wrap (tickS s / 4294967296) = (bt s 1 : Int) := by rw [IntKind.wrap_u8, hk]; omega
    have t2 : IntKind.u8.wrap (tickS s / 16777216) = (bt s 2 : Int) := by rw [IntKind.wrap_u8, hk]; omega
    have t3 : IntKind.u8.wrap (tickS s / 65536) = (bt s 3 : Int) := by rw [IntKind.wrap_u8, hk]; omega
    have t4 : IntKind.u8.wrap (tickS s / 256) = (bt s 4 : Int) := by rw [IntKind.wrap_u8, hk]; omega
    rw [t0, t1, t2, t3, t4, t5]
  rw [hl]
  refine strOf_is (by rw [h]; rfl) ?_
  intro i hi
  match i, hi with
  | 0, _ => rfl
  | 1, _ => rfl
  | 2, _ => rfl
  | 3, _ => rfl
  | 4, _ => rfl
  | 5, _ => rfl
  | 6, _ => rfl
  | 7, _ => rfl
  | 8, _ => rfl
  | 9, _ => rfl
  | 10, _ => rfl
  | 11, _ => rfl
  | 12, _ => rfl
  | 13, _ => rfl
  | 14, _ => rfl
  | 15, _ => rfl
  | 16, _ => rfl
  | 17, _ => rfl
  | 18, _ => rfl
  | 19, _ => rfl
  | 20, _ => rfl
  | 21, _ => rfl
  | 22, _ => rfl
  | 23, _ => rfl
  | 24, _ => rfl
  | 25, _ => rfl
  | n + 26, h => exact absurd (show n + 26 < 26 from h) (by omega)
end Go.Proofs.YtoadcnhcfodkgaaGreatDoor
