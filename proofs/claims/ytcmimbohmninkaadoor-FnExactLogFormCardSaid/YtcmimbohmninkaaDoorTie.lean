/-
  DERIVED. GIVEN WITH THE SEED: THE PROGRAM's TIES (one call each: nine closed facts by the kernel) AND EACH ROW's TIE, after the 31st guide's Derived/Test/Toyas{Tie, Card}.lean. No idea stands in it: it is a product of the set-up. Laid BY PROGRAM, IN A SANDBOX (cutbox-door.mjs). By AI agents, Wed Nov 11 2026. No macro, syntax, notation, axiom, sorry.
-/
import Derived.Test.YtcmimbohmninkaaDoorRows
import Derived.LaidByTextLater
import Derived.SevenTiedAt
import Derived.LaidSub
import Derived.LaidOnce
namespace Go.Proofs.YtcmimbohmninkaaDoor
open Go
set_option maxRecDepth 100000
theorem seatTie1 : Tryd.prog.laidByTextLater [("math/bits.deBruijn32tab", Rows.laid_math_bits_deBruijn32tab), ("math/bits.deBruijn64tab", Rows.laid_math_bits_deBruijn64tab), ("internal/strconv.uint64pow10", Rows.laid_internal_strconv_uint64pow10), ("strconv.ErrRange", Rows.laid_strconv_ErrRange), ("strconv.ErrSyntax", Rows.laid_strconv_ErrSyntax), ("loop.example/wharflog/impl.errLogTicket", Rows.laid_loop_example_wharflog_impl_errLogTicket), ("loop.example/wharflog/impl.errLogBundle", Rows.laid_loop_example_wharflog_impl_errLogBundle), ("loop.example/wharflog/impl.errLogWrite", Rows.laid_loop_example_wharflog_impl_errLogWrite), ("loop.example/wharflog/impl.errLogLong", Rows.laid_loop_example_wharflog_impl_errLogLong), ("loop.example/wharflog/impl.errLogQuotes", Rows.laid_loop_example_wharflog_impl_errLogQuotes)] [.data, .data, .data, .sentinel, .sentinel, .sentinel, .sentinel, .sentinel, .sentinel, .sentinel] true :=
  Program.laidByTextLater_by_one 157 8 65 (by kernel_rfl) (by kernel_rfl) (by kernel_rfl) (by kernel_rfl) (by kernel_rfl) (by kernel_rfl) (fun _ _ => by kernel_rfl)
theorem noOwnUnsafe : Tryd.pinned.checked.prog.headLifts.contains "ownunsafe" = false := by kernel_rfl
theorem tie : Tryd.prog.laidByTextLater [("math/bits.deBruijn32tab", Rows.laid_math_bits_deBruijn32tab), ("math/bits.deBruijn64tab", Rows.laid_math_bits_deBruijn64tab), ("internal/strconv.uint64pow10", Rows.laid_internal_strconv_uint64pow10), ("strconv.ErrRange", Rows.laid_strconv_ErrRange), ("strconv.ErrSyntax", Rows.laid_strconv_ErrSyntax), ("loop.example/wharflog/impl.errLogTicket", Rows.laid_loop_example_wharflog_impl_errLogTicket), ("loop.example/wharflog/impl.errLogBundle", Rows.laid_loop_example_wharflog_impl_errLogBundle), ("loop.example/wharflog/impl.errLogWrite", Rows.laid_loop_example_wharflog_impl_errLogWrite), ("loop.example/wharflog/impl.errLogLong", Rows.laid_loop_example_wharflog_impl_errLogLong), ("loop.example/wharflog/impl.errLogQuotes", Rows.laid_loop_example_wharflog_impl_errLogQuotes)] [.data, .data, .data, .sentinel, .sentinel, .sentinel, .sentinel, .sentinel, .sentinel, .sentinel] true :=
  Program.laidByTextLater.sub seatTie1 ["math/bits.deBruijn32tab", "math/bits.deBruijn64tab", "internal/strconv.uint64pow10", "strconv.ErrRange", "strconv.ErrSyntax", "loop.example/wharflog/impl.errLogTicket", "loop.example/wharflog/impl.errLogBundle", "loop.example/wharflog/impl.errLogWrite", "loop.example/wharflog/impl.errLogLong", "loop.example/wharflog/impl.errLogQuotes"] (by kernel_rfl) (by kernel_rfl)
theorem fnExactLogForm_row_tie : Rows.fnExactLogFormRow.laidByTextAt .later Tryd.pinned [.data, .data, .data, .sentinel, .sentinel, .sentinel, .sentinel, .sentinel, .sentinel, .sentinel] true :=
  OpenClaim.laidByTextAt_later rfl rfl tie noOwnUnsafe
theorem fnExactLogFormUpto_row_tie : Rows.fnExactLogFormUptoRow.laidByTextAt .later Tryd.pinned [.data, .data, .data, .sentinel, .sentinel, .sentinel, .sentinel, .sentinel, .sentinel, .sentinel] true :=
  OpenClaim.laidByTextAt_later rfl rfl tie noOwnUnsafe
end Go.Proofs.YtcmimbohmninkaaDoor
