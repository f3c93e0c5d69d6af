/- A part. -/
import Derived.Test.YtpjobkbefgehjaaGreatFRMeet
import Derived.Test.YtpjobkbefgehjaaGreatJB
import Derived.Test.YtpjobkbefgehjaaGreatJC
namespace Go.Proofs.YtpjobkbefgehjaaGreat
open Go.RowKit
theorem fMeetC_any (b : Nat) (bad : Bool) (g : Nat → Int) (sky : Nat → Int) (body : Nat → Int) (w : World) (hw : Fl b bad w) (hb : bad = false) :
  Calls Tryz.prog 9 #[.pointer (some ⟨b, 0, none⟩), .agg (row 43 g).toArray, .agg (row 6 sky).toArray, .agg (row 6 body).toArray] w fun e w' => e = .returned (.tuple #[.agg (row 43 ((hMeetS bad g sky body).1).1).toArray, .int .i64 ((hMeetS bad g sky body).1).2.1, .bool ((hMeetS bad g sky body).1).2.2]) ∧ Fl b (hMeetS bad g sky body).2 w' ∧ Kept b w w' := by
 subst hb
 obtain ⟨e1, e2, e3⟩ := meet_core g sky body
 rw [e1, e2, row_congr e3]
 exact fMeet_any b false g sky body w hw
end Go.Proofs.YtpjobkbefgehjaaGreat
