import PyProof.Rows.All
import Wide.All
import OpenK.AllK
import Wide.FinOn
import PySem.Challenge.RW_orderwheel_k02_wider_and_narrower
open PySem PySem.W PyProof.Rows
set_option Elab.async false
set_option maxRecDepth 100000 in
set_option maxHeartbeats 8000000 in
theorem PySem.Challenge.cw_orderwheel_k02_wider_and_narrower_holds : PySem.Challenge.rw_orderwheel_k02_wider_and_narrower.Holds := by
  k_with "pyIter ref" => k_state (fun pre before size => 3 ≤ size ∧ ((size = 3 ∧ before = 3) ∨ (7 ≤ size ∧ size = 2 * before + 1))) "_law_before" "_law_size"
  open_k
