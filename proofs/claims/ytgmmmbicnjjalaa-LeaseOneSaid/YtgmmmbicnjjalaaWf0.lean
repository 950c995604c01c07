/-
  The functions with bodies, as a table.
-/
import Derived.Test.YtgmmmbicnjjalaaWt
import Derived.Test.YtgmmmbicnjjalaaWq
namespace Go.Proofs.Ytgmmmbicnjjalaa
open Go Go.RowKit Wx
noncomputable def ftab : FTab := [(3, Try.f3), (4, Try.f4), (5, Try.f5), (6, Try.f6), (7, Try.f7), (8, Try.f8), (9, Try.f9), (10, Try.f10), (11, Try.f11), (12, Try.f12), (13, Try.f13), (14, Try.f14), (15, Try.f15), (16, Try.f16), (17, Try.f17), (18, Try.f18), (19, Try.f19), (20, Try.f20), (21, Try.f21), (22, Try.f22), (23, Try.f23), (24, Try.f24), (25, Try.f25), (26, Try.f26), (27, Try.f27)]
theorem ftabOk : FtOk Try.prog ftab := .cons Try.func3 (by kernel_rfl) (.cons Try.func4 (by kernel_rfl) (.cons Try.func5 (by kernel_rfl) (.cons Try.func6 (by kernel_rfl) (.cons Try.func7 (by kernel_rfl) (.cons Try.func8 (by kernel_rfl) (.cons Try.func9 (by kernel_rfl) (.cons Try.func10 (by kernel_rfl) (.cons Try.func11 (by kernel_rfl) (.cons Try.func12 (by kernel_rfl) (.cons Try.func13 (by kernel_rfl) (.cons Try.func14 (by kernel_rfl) (.cons Try.func15 (by kernel_rfl) (.cons Try.func16 (by kernel_rfl) (.cons Try.func17 (by kernel_rfl) (.cons Try.func18 (by kernel_rfl) (.cons Try.func19 (by kernel_rfl) (.cons Try.func20 (by kernel_rfl) (.cons Try.func21 (by kernel_rfl) (.cons Try.func22 (by kernel_rfl) (.cons Try.func23 (by kernel_rfl) (.cons Try.func24 (by kernel_rfl) (.cons Try.func25 (by kernel_rfl) (.cons Try.func26 (by kernel_rfl) (.cons Try.func27 (by kernel_rfl) (.nil)))))))))))))))))))))))))
end Go.Proofs.Ytgmmmbicnjjalaa
