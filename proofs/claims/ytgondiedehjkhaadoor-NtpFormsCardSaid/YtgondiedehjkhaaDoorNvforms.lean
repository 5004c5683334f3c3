/-
 Layer 41 by the second engine: whatever times and packets; NtpAsks.
-/
import Derived.Test.YtgondiedehjkhaaDoorSycforms
import Derived.Test.YtgondiedehjkhaaDoorNuforms
import Derived.Test.YtgondiedehjkhaaDoorE00forms
import Derived.Test.YtgondiedehjkhaaDoorNumforms
import Derived.Test.YtgondiedehjkhaaDoorW02bforms
import Derived.Test.YtgondiedehjkhaaDoorW02sforms
import Derived.Test.YtgondiedehjkhaaDoorBig2forms
import Derived.Test.YtgondiedehjkhaaDoorW17forms
namespace Go.Proofs.YtgondiedehjkhaaDoor
open Go.RowKit Go.Extern.Stop Go.Stop Go.Extern Go.Proofs.YtgondiedehjkhaaDoor.Sy
set_option linter.unusedVariables false
set_option linter.unusedSimpArgs false
abbrev xvformsk0_ : Tm := (.agg (.cons (.bool (.bapp 3 (.cons z0_ .nil))) (.cons (.int .u64 (.iapp 39 (.cons (.int .i64 (.iapp 40 (.cons z0_ .nil))) (.cons (.int .i64 (.lit 0)) .nil)))) (.cons (.int .u64 (.iapp 39 (.cons (.int .i64 (.iapp 40 (.cons z0_ .nil))) (.cons (.int .i64 (.lit 1)) .nil)))) (.cons (.int .u64 (.iapp 39 (.cons (.int .i64 (.iapp 40 (.cons z0_ .nil))) (.cons (.int .i64 (.lit 2)) .nil)))) (.cons (.int .u64 (.iapp 39 (.cons (.int .i64 (.iapp 40 (.cons z0_ .nil))) (.cons (.int .i64 (.lit 3)) .nil)))) (.cons (.int .u64 (.iapp 39 (.cons (.int .i64 (.iapp 40 (.cons z0_ .nil))) (.cons (.int .i64 (.lit 4)) .nil)))) (.cons (.int .u64 (.iapp 39 (.cons (.int .i64 (.iapp 40 (.cons z0_ .nil))) (.cons (.int .i64 (.lit 5)) .nil)))) (.cons (.int .u64 (.iapp 39 (.cons (.int .i64 (.iapp 40 (.cons z0_ .nil))) (.cons (.int .i64 (.lit 6)) .nil)))) (.cons (.int .u64 (.iapp 39 (.cons (.int .i64 (.iapp 40 (.cons z0_ .nil))) (.cons (.int .i64 (.lit 7)) .nil)))) .nil))))))))))
abbrev xvformsk44_ : Tm := (wr_ (sb_ v1_ (wr_ (ad_ (wr_ (ml_ (wr_ (sb_ (wr_ (.i2 (.shr .u64) v0_ (.lit 32))) (.lit 2208988800))) (.lit 1000000000))) (.iapp 38 (.cons (.int .i64 (wr_ (ml_ (wr_ (.wrap .u32 v0_)) (.lit 1000000000)))) (.cons (.int .i64 (.lit 4294967296)) .nil)))))))
abbrev xvformsk1_ : Tm := (.iapp 37 (.cons (.int .i64 xvformsk44_) (.cons (.int .i64 (.lit 4294967296000000000)) .nil)))
abbrev xvformsk2_ : Tm := (sb_ (.iapp 40 (.cons z1_ .nil)) (.iapp 40 (.cons z0_ .nil)))
abbrev xvformsk3_ : Tm := (sb_ (.iapp 40 (.cons z0_ .nil)) (.iapp 40 (.cons z1_ .nil)))
abbrev xvformsk4_ : Tm := (ad_ (.iapp 40 (.cons z0_ .nil)) (.iapp 40 (.cons z1_ .nil)))
abbrev xvformsk5_ : Tm := (.agg (.cons (.bool (.bapp 3 (.cons (.int .i64 (sb_ v0_ v1_)) .nil))) (.cons (.int .u64 (.iapp 39 (.cons (.int .i64 (.iapp 40 (.cons (.int .i64 (sb_ v0_ v1_)) .nil))) (.cons (.int .i64 (.lit 0)) .nil)))) (.cons (.int .u64 (.iapp 39 (.cons (.int .i64 (.iapp 40 (.cons (.int .i64 (sb_ v0_ v1_)) .nil))) (.cons (.int .i64 (.lit 1)) .nil)))) (.cons (.int .u64 (.iapp 39 (.cons (.int .i64 (.iapp 40 (.cons (.int .i64 (sb_ v0_ v1_)) .nil))) (.cons (.int .i64 (.lit 2)) .nil)))) (.cons (.int .u64 (.iapp 39 (.cons (.int .i64 (.iapp 40 (.cons (.int .i64 (sb_ v0_ v1_)) .nil))) (.cons (.int .i64 (.lit 3)) .nil)))) (.cons (.int .u64 (.iapp 39 (.cons (.int .i64 (.iapp 40 (.cons (.int .i64 (sb_ v0_ v1_)) .nil))) (.cons (.int .i64 (.lit 4)) .nil)))) (.cons (.int .u64 (.iapp 39 (.cons (.int .i64 (.iapp 40 (.cons (.int .i64 (sb_ v0_ v1_)) .nil))) (.cons (.int .i64 (.lit 5)) .nil)))) (.cons (.int .u64 (.iapp 39 (.cons (.int .i64 (.iapp 40 (.cons (.int .i64 (sb_ v0_ v1_)) .nil))) (.cons (.int .i64 (.lit 6)) .nil)))) (.cons (.int .u64 (.iapp 39 (.cons (.int .i64 (.iapp 40 (.cons (.int .i64 (sb_ v0_ v1_)) .nil))) (.cons (.int .i64 (.lit 7)) .nil)))) .nil))))))))))
abbrev xvformsk6_ : Tm := (wr_ (.i2 .quo (wr_ (ml_ (wr_ (.i2 .rem v0_ (.lit 4294967296))) (.lit 1000000000))) (.lit 4294967296)))
abbrev xvformsk7_ : Tm := (.agg (.cons (.bool (.bapp 3 (.cons z1_ .nil))) (.cons (.int .u64 (.iapp 39 (.cons (.int .i64 (.iapp 40 (.cons z1_ .nil))) (.cons (.int .i64 (.lit 0)) .nil)))) (.cons (.int .u64 (.iapp 39 (.cons (.int .i64 (.iapp 40 (.cons z1_ .nil))) (.cons (.int .i64 (.lit 1)) .nil)))) (.cons (.int .u64 (.iapp 39 (.cons (.int .i64 (.iapp 40 (.cons z1_ .nil))) (.cons (.int .i64 (.lit 2)) .nil)))) (.cons (.int .u64 (.iapp 39 (.cons (.int .i64 (.iapp 40 (.cons z1_ .nil))) (.cons (.int .i64 (.lit 3)) .nil)))) (.cons (.int .u64 (.iapp 39 (.cons (.int .i64 (.iapp 40 (.cons z1_ .nil))) (.cons (.int .i64 (.lit 4)) .nil)))) (.cons (.int .u64 (.iapp 39 (.cons (.int .i64 (.iapp 40 (.cons z1_ .nil))) (.cons (.int .i64 (.lit 5)) .nil)))) (.cons (.int .u64 (.iapp 39 (.cons (.int .i64 (.iapp 40 (.cons z1_ .nil))) (.cons (.int .i64 (.lit 6)) .nil)))) (.cons (.int .u64 (.iapp 39 (.cons (.int .i64 (.iapp 40 (.cons z1_ .nil))) (.cons (.int .i64 (.lit 7)) .nil)))) .nil))))))))))
abbrev xvformsk8_ : Tm := (.agg (.cons (.int .u64 (.iapp 39 (.cons z0_ (.cons (.int .i64 (.lit 0)) .nil)))) (.cons (.int .u64 (.iapp 39 (.cons z0_ (.cons (.int .i64 (.lit 1)) .nil)))) (.cons (.int .u64 (.iapp 39 (.cons z0_ (.cons (.int .i64 (.lit 2)) .nil)))) (.cons (.int .u64 (.iapp 39 (.cons z0_ (.cons (.int .i64 (.lit 3)) .nil)))) (.cons (.int .u64 (.iapp 39 (.cons z0_ (.cons (.int .i64 (.lit 4)) .nil)))) (.cons (.int .u64 (.iapp 39 (.cons z0_ (.cons (.int .i64 (.lit 5)) .nil)))) (.cons (.int .u64 (.iapp 39 (.cons z0_ (.cons (.int .i64 (.lit 6)) .nil)))) (.cons (.int .u64 (.iapp 39 (.cons z0_ (.cons (.int .i64 (.lit 7)) .nil)))) .nil)))))))))
abbrev xvformsk9_ : Tm := (wr_ (sb_ (wr_ (.wrap .u64 (.i2 .quo v0_ (.lit 4294967296)))) (.lit 2208988800)))
abbrev xvformsk10_ : Tm := (ad_ v3_ (.lit 4294967296000000000))
abbrev xvformsk11_ : Tm := (.agg (.cons (.bool (.not (eq_ xvformsk4_ (.lit 0)))) (.cons (.int .u64 (.iapp 39 (.cons (.int .i64 xvformsk4_) (.cons (.int .i64 (.lit 0)) .nil)))) (.cons (.int .u64 (.iapp 39 (.cons (.int .i64 xvformsk4_) (.cons (.int .i64 (.lit 1)) .nil)))) (.cons (.int .u64 (.iapp 39 (.cons (.int .i64 xvformsk4_) (.cons (.int .i64 (.lit 2)) .nil)))) (.cons (.int .u64 (.iapp 39 (.cons (.int .i64 xvformsk4_) (.cons (.int .i64 (.lit 3)) .nil)))) (.cons (.int .u64 (.iapp 39 (.cons (.int .i64 xvformsk4_) (.cons (.int .i64 (.lit 4)) .nil)))) (.cons (.int .u64 (.iapp 39 (.cons (.int .i64 xvformsk4_) (.cons (.int .i64 (.lit 5)) .nil)))) (.cons (.int .u64 (.iapp 39 (.cons (.int .i64 xvformsk4_) (.cons (.int .i64 (.lit 6)) .nil)))) (.cons (.int .u64 (.iapp 39 (.cons (.int .i64 xvformsk4_) (.cons (.int .i64 (.lit 7)) .nil)))) .nil))))))))))
abbrev xvformsk12_ : Tm := (.agg (.cons (.bool (.not (eq_ xvformsk3_ (.lit 0)))) (.cons (.int .u64 (.iapp 39 (.cons (.int .i64 xvformsk3_) (.cons (.int .i64 (.lit 0)) .nil)))) (.cons (.int .u64 (.iapp 39 (.cons (.int .i64 xvformsk3_) (.cons (.int .i64 (.lit 1)) .nil)))) (.cons (.int .u64 (.iapp 39 (.cons (.int .i64 xvformsk3_) (.cons (.int .i64 (.lit 2)) .nil)))) (.cons (.int .u64 (.iapp 39 (.cons (.int .i64 xvformsk3_) (.cons (.int .i64 (.lit 3)) .nil)))) (.cons (.int .u64 (.iapp 39 (.cons (.int .i64 xvformsk3_) (.cons (.int .i64 (.lit 4)) .nil)))) (.cons (.int .u64 (.iapp 39 (.cons (.int .i64 xvformsk3_) (.cons (.int .i64 (.lit 5)) .nil)))) (.cons (.int .u64 (.iapp 39 (.cons (.int .i64 xvformsk3_) (.cons (.int .i64 (.lit 6)) .nil)))) (.cons (.int .u64 (.iapp 39 (.cons (.int .i64 xvformsk3_) (.cons (.int .i64 (.lit 7)) .nil)))) .nil))))))))))
abbrev xvformsk13_ : Tm := (.agg (.cons (.bool (.not (eq_ xvformsk2_ (.lit 0)))) (.cons (.int .u64 (.iapp 39 (.cons (.int .i64 xvformsk2_) (.cons (.int .i64 (.lit 0)) .nil)))) (.cons (.int .u64 (.iapp 39 (.cons (.int .i64 xvformsk2_) (.cons (.int .i64 (.lit 1)) .nil)))) (.cons (.int .u64 (.iapp 39 (.cons (.int .i64 xvformsk2_) (.cons (.int .i64 (.lit 2)) .nil)))) (.cons (.int .u64 (.iapp 39 (.cons (.int .i64 xvformsk2_) (.cons (.int .i64 (.lit 3)) .nil)))) (.cons (.int .u64 (.iapp 39 (.cons (.int .i64 xvformsk2_) (.cons (.int .i64 (.lit 4)) .nil)))) (.cons (.int .u64 (.iapp 39 (.cons (.int .i64 xvformsk2_) (.cons (.int .i64 (.lit 5)) .nil)))) (.cons (.int .u64 (.iapp 39 (.cons (.int .i64 xvformsk2_) (.cons (.int .i64 (.lit 6)) .nil)))) (.cons (.int .u64 (.iapp 39 (.cons (.int .i64 xvformsk2_) (.cons (.int .i64 (.lit 7)) .nil)))) .nil))))))))))
abbrev xvformsk14_ : Tm := (.agg (.cons (.bool (.tt false)) (.cons (.int .u64 (.iapp 39 (.cons (.int .i64 xvformsk4_) (.cons (.int .i64 (.lit 0)) .nil)))) (.cons (.int .u64 (.iapp 39 (.cons (.int .i64 xvformsk4_) (.cons (.int .i64 (.lit 1)) .nil)))) (.cons (.int .u64 (.iapp 39 (.cons (.int .i64 xvformsk4_) (.cons (.int .i64 (.lit 2)) .nil)))) (.cons (.int .u64 (.iapp 39 (.cons (.int .i64 xvformsk4_) (.cons (.int .i64 (.lit 3)) .nil)))) (.cons (.int .u64 (.iapp 39 (.cons (.int .i64 xvformsk4_) (.cons (.int .i64 (.lit 4)) .nil)))) (.cons (.int .u64 (.iapp 39 (.cons (.int .i64 xvformsk4_) (.cons (.int .i64 (.lit 5)) .nil)))) (.cons (.int .u64 (.iapp 39 (.cons (.int .i64 xvformsk4_) (.cons (.int .i64 (.lit 6)) .nil)))) (.cons (.int .u64 (.iapp 39 (.cons (.int .i64 xvformsk4_) (.cons (.int .i64 (.lit 7)) .nil)))) .nil))))))))))
abbrev xvformsk15_ : Tm := (.agg (.cons (.bool (.tt false)) (.cons (.int .u64 (.iapp 39 (.cons (.int .i64 xvformsk3_) (.cons (.int .i64 (.lit 0)) .nil)))) (.cons (.int .u64 (.iapp 39 (.cons (.int .i64 xvformsk3_) (.cons (.int .i64 (.lit 1)) .nil)))) (.cons (.int .u64 (.iapp 39 (.cons (.int .i64 xvformsk3_) (.cons (.int .i64 (.lit 2)) .nil)))) (.cons (.int .u64 (.iapp 39 (.cons (.int .i64 xvformsk3_) (.cons (.int .i64 (.lit 3)) .nil)))) (.cons (.int .u64 (.iapp 39 (.cons (.int .i64 xvformsk3_) (.cons (.int .i64 (.lit 4)) .nil)))) (.cons (.int .u64 (.iapp 39 (.cons (.int .i64 xvformsk3_) (.cons (.int .i64 (.lit 5)) .nil)))) (.cons (.int .u64 (.iapp 39 (.cons (.int .i64 xvformsk3_) (.cons (.int .i64 (.lit 6)) .nil)))) (.cons (.int .u64 (.iapp 39 (.cons (.int .i64 xvformsk3_) (.cons (.int .i64 (.lit 7)) .nil)))) .nil))))))))))
abbrev xvformsk16_ : Tm := (.agg (.cons (.bool (.tt false)) (.cons (.int .u64 (.iapp 39 (.cons (.int .i64 xvformsk2_) (.cons (.int .i64 (.lit 0)) .nil)))) (.cons (.int .u64 (.iapp 39 (.cons (.int .i64 xvformsk2_) (.cons (.int .i64 (.lit 1)) .nil)))) (.cons (.int .u64 (.iapp 39 (.cons (.int .i64 xvformsk2_) (.cons (.int .i64 (.lit 2)) .nil)))) (.cons (.int .u64 (.iapp 39 (.cons (.int .i64 xvformsk2_) (.cons (.int .i64 (.lit 3)) .nil)))) (.cons (.int .u64 (.iapp 39 (.cons (.int .i64 xvformsk2_) (.cons (.int .i64 (.lit 4)) .nil)))) (.cons (.int .u64 (.iapp 39 (.cons (.int .i64 xvformsk2_) (.cons (.int .i64 (.lit 5)) .nil)))) (.cons (.int .u64 (.iapp 39 (.cons (.int .i64 xvformsk2_) (.cons (.int .i64 (.lit 6)) .nil)))) (.cons (.int .u64 (.iapp 39 (.cons (.int .i64 xvformsk2_) (.cons (.int .i64 (.lit 7)) .nil)))) .nil))))))))))
abbrev xvformsk17_ : Tm := (an_ (le_ (.lit (-1569275433846670190958947355801916604025588861116008628224)) v3_) (le_ v3_ (.lit 1569275433846670190958947355801916604025588861116008628224)))
abbrev xvformsk18_ : Tm := (.agg (.cons (.int .u64 (.iapp 39 (.cons z1_ (.cons (.int .i64 (.lit 0)) .nil)))) (.cons (.int .u64 (.iapp 39 (.cons z1_ (.cons (.int .i64 (.lit 1)) .nil)))) (.cons (.int .u64 (.iapp 39 (.cons z1_ (.cons (.int .i64 (.lit 2)) .nil)))) (.cons (.int .u64 (.iapp 39 (.cons z1_ (.cons (.int .i64 (.lit 3)) .nil)))) (.cons (.int .u64 (.iapp 39 (.cons z1_ (.cons (.int .i64 (.lit 4)) .nil)))) (.cons (.int .u64 (.iapp 39 (.cons z1_ (.cons (.int .i64 (.lit 5)) .nil)))) (.cons (.int .u64 (.iapp 39 (.cons z1_ (.cons (.int .i64 (.lit 6)) .nil)))) (.cons (.int .u64 (.iapp 39 (.cons z1_ (.cons (.int .i64 (.lit 7)) .nil)))) .nil)))))))))
abbrev xvformsk19_ : Tm := (an_ (le_ (.lit 0) v2_) (an_ (le_ v2_ (.lit 6)) (an_ (eq_ (.iapp 37 (.cons (.int .i64 (sb_ v3_ (.iapp 50 (.cons (.int .u64 v0_) .nil)))) (.cons (.int .i64 (.lit 4294967296000000000)) .nil))) (.lit 0)) (.b2 .or (an_ (eq_ v2_ (.lit 0)) (an_ (le_ (.lit (-6850000000000000000)) (sb_ v3_ v1_)) (le_ (sb_ v3_ v1_) (.lit 6850000000000000000)))) (.b2 .or (an_ (eq_ v2_ (.lit 1)) (an_ (le_ (.lit (-2600000000000000000)) (sb_ v3_ v1_)) (le_ (sb_ v3_ v1_) (.lit 2600000000000000000)))) (an_ (le_ (.lit 2) v2_) (an_ (le_ (.lit (-2147483648000000000)) (sb_ v3_ v1_)) (lt_ (sb_ v3_ v1_) (.lit 2147483648000000000)))))))))
abbrev xvformsk20_ : Tm := (an_ (le_ (.lit (-1569275433846670190958947355801916604025588861116008628224)) v0_) (le_ v0_ (.lit 1569275433846670190958947355801916604025588861116008628224)))
abbrev xvformsk21_ : Tm := (an_ (le_ (.lit 0) (wr_ (ad_ v2_ (.lit 1)))) (an_ (le_ (wr_ (ad_ v2_ (.lit 1))) (.lit 6)) (an_ (eq_ (.iapp 37 (.cons (.int .i64 (sb_ (sb_ xvformsk10_ (.lit 4294967296000000000)) (.iapp 50 (.cons (.int .u64 v0_) .nil)))) (.cons (.int .i64 (.lit 4294967296000000000)) .nil))) (.lit 0)) (.b2 .or (an_ (eq_ (wr_ (ad_ v2_ (.lit 1))) (.lit 0)) (an_ (le_ (.lit (-6850000000000000000)) (sb_ (sb_ xvformsk10_ (.lit 4294967296000000000)) v1_)) (le_ (sb_ (sb_ xvformsk10_ (.lit 4294967296000000000)) v1_) (.lit 6850000000000000000)))) (.b2 .or (an_ (eq_ (wr_ (ad_ v2_ (.lit 1))) (.lit 1)) (an_ (le_ (.lit (-2600000000000000000)) (sb_ (sb_ xvformsk10_ (.lit 4294967296000000000)) v1_)) (le_ (sb_ (sb_ xvformsk10_ (.lit 4294967296000000000)) v1_) (.lit 2600000000000000000)))) (an_ (le_ (.lit 2) (wr_ (ad_ v2_ (.lit 1)))) (an_ (le_ (.lit (-2147483648000000000)) (sb_ (sb_ xvformsk10_ (.lit 4294967296000000000)) v1_)) (lt_ (sb_ (sb_ xvformsk10_ (.lit 4294967296000000000)) v1_) (.lit 2147483648000000000)))))))))
abbrev xvformsk22_ : Tm := (an_ (le_ (.lit 0) (wr_ (ad_ v2_ (.lit 1)))) (an_ (le_ (wr_ (ad_ v2_ (.lit 1))) (.lit 6)) (an_ (eq_ (.iapp 37 (.cons (.int .i64 (sb_ (sb_ v3_ (.lit 4294967296000000000)) (.iapp 50 (.cons (.int .u64 v0_) .nil)))) (.cons (.int .i64 (.lit 4294967296000000000)) .nil))) (.lit 0)) (.b2 .or (an_ (eq_ (wr_ (ad_ v2_ (.lit 1))) (.lit 0)) (an_ (le_ (.lit (-6850000000000000000)) (sb_ (sb_ v3_ (.lit 4294967296000000000)) v1_)) (le_ (sb_ (sb_ v3_ (.lit 4294967296000000000)) v1_) (.lit 6850000000000000000)))) (.b2 .or (an_ (eq_ (wr_ (ad_ v2_ (.lit 1))) (.lit 1)) (an_ (le_ (.lit (-2600000000000000000)) (sb_ (sb_ v3_ (.lit 4294967296000000000)) v1_)) (le_ (sb_ (sb_ v3_ (.lit 4294967296000000000)) v1_) (.lit 2600000000000000000)))) (an_ (le_ (.lit 2) (wr_ (ad_ v2_ (.lit 1)))) (an_ (le_ (.lit (-2147483648000000000)) (sb_ (sb_ v3_ (.lit 4294967296000000000)) v1_)) (lt_ (sb_ (sb_ v3_ (.lit 4294967296000000000)) v1_) (.lit 2147483648000000000)))))))))
abbrev xvformsk23_ : Tm := (an_ (an_ (le_ (.lit 0) (.iapp 40 (.cons z0_ .nil))) (le_ (.iapp 40 (.cons z0_ .nil)) (.lit 1606938044258990275541962092341162602522202993782792835301376))) (an_ (le_ (.lit 0) (.iapp 40 (.cons z1_ .nil))) (le_ (.iapp 40 (.cons z1_ .nil)) (.lit 1606938044258990275541962092341162602522202993782792835301376))))
abbrev xvformsk24_ : Tm := (.iapp 40 (.cons (.int .i64 (.lit 4294967296000000000)) .nil))
abbrev xvformsk46_ : Tm := (.iapp 45 (.cons (.int .u64 v0_) (.cons z1_ .nil)))
abbrev xvformsk25_ : Tm := (.iapp 35 (.cons (.int .i64 xvformsk46_) (.cons (.int .i64 (.iapp 27 (.cons (.int .u64 v0_) (.cons z1_ .nil)))) .nil)))
abbrev xvformsk26_ : Tm := (an_ (le_ (.lit 0) (wr_ (ad_ v2_ (.lit 1)))) (an_ (le_ (wr_ (ad_ v2_ (.lit 1))) (.lit 6)) (an_ (eq_ (.iapp 37 (.cons (.int .i64 (sb_ xvformsk10_ (.iapp 50 (.cons (.int .u64 v0_) .nil)))) (.cons (.int .i64 (.lit 4294967296000000000)) .nil))) (.lit 0)) (.b2 .or (an_ (eq_ (wr_ (ad_ v2_ (.lit 1))) (.lit 0)) (an_ (le_ (.lit (-6850000000000000000)) (sb_ xvformsk10_ v1_)) (le_ (sb_ xvformsk10_ v1_) (.lit 6850000000000000000)))) (.b2 .or (an_ (eq_ (wr_ (ad_ v2_ (.lit 1))) (.lit 1)) (an_ (le_ (.lit (-2600000000000000000)) (sb_ xvformsk10_ v1_)) (le_ (sb_ xvformsk10_ v1_) (.lit 2600000000000000000)))) (an_ (le_ (.lit 2) (wr_ (ad_ v2_ (.lit 1)))) (an_ (le_ (.lit (-2147483648000000000)) (sb_ xvformsk10_ v1_)) (lt_ (sb_ xvformsk10_ v1_) (.lit 2147483648000000000)))))))))
abbrev xvformsk27_ : Tm := (an_ (le_ (.lit 0) (wr_ (ad_ v2_ (.lit 1)))) (an_ (le_ (wr_ (ad_ v2_ (.lit 1))) (.lit 6)) (an_ (eq_ (.iapp 37 (.cons (.int .i64 (sb_ v3_ (.iapp 50 (.cons (.int .u64 v0_) .nil)))) (.cons (.int .i64 (.lit 4294967296000000000)) .nil))) (.lit 0)) (.b2 .or (an_ (eq_ (wr_ (ad_ v2_ (.lit 1))) (.lit 0)) (an_ (le_ (.lit (-6850000000000000000)) (sb_ v3_ v1_)) (le_ (sb_ v3_ v1_) (.lit 6850000000000000000)))) (.b2 .or (an_ (eq_ (wr_ (ad_ v2_ (.lit 1))) (.lit 1)) (an_ (le_ (.lit (-2600000000000000000)) (sb_ v3_ v1_)) (le_ (sb_ v3_ v1_) (.lit 2600000000000000000)))) (an_ (le_ (.lit 2) (wr_ (ad_ v2_ (.lit 1)))) (an_ (le_ (.lit (-2147483648000000000)) (sb_ v3_ v1_)) (lt_ (sb_ v3_ v1_) (.lit 2147483648000000000)))))))))
abbrev xvformsk28_ : Tm := (an_ (an_ (le_ (.lit 0) v0_) (le_ v0_ (.lit 18446744073709551615))) (an_ (le_ lm_ v1_) (le_ v1_ lM_)))
abbrev xvformsk29_ : Tm := (an_ (le_ (.lit (-1569275433846670190958947355801916604025588861116008628224)) xvformsk10_) (le_ xvformsk10_ (.lit 1569275433846670190958947355801916604025588861116008628224)))
abbrev xvformsk30_ : Tm := (.iapp 37 (.cons z0_ (.cons (.int .i64 (.lit 1000000000)) .nil)))
abbrev xvformsk31_ : Tm := (.iapp 41 (.cons (.int .i64 (.iapp 40 (.cons (.int .i64 (sb_ v0_ v2_)) .nil))) (.cons (.int .i64 (.iapp 40 (.cons (.int .i64 (sb_ v1_ v2_)) .nil))) .nil)))
abbrev xvformsk32_ : Tm := (an_ (an_ (le_ (.lit 0) (.iapp 40 (.cons (.int .i64 (sb_ v0_ v2_)) .nil))) (le_ (.iapp 40 (.cons (.int .i64 (sb_ v0_ v2_)) .nil)) (.lit 1606938044258990275541962092341162602522202993782792835301376))) (an_ (le_ (.lit 0) (.iapp 40 (.cons (.int .i64 (sb_ v1_ v2_)) .nil))) (le_ (.iapp 40 (.cons (.int .i64 (sb_ v1_ v2_)) .nil)) (.lit 1606938044258990275541962092341162602522202993782792835301376))))
abbrev xvformsk33_ : Tm := (an_ (le_ (.lit (-1208925819614629174706176)) v3_) (an_ (le_ v3_ (.lit 1208925819614629174706176)) (an_ (le_ lm_ v1_) (le_ v1_ lM_))))
abbrev xvformsk34_ : Tm := (an_ (lt_ (.lit (-4611686018427387904)) v1_) (lt_ v1_ (.lit 4611686018427387904)))
abbrev xvformsk35_ : Tm := (an_ (lt_ (.lit (-4611686018427387904)) v0_) (lt_ v0_ (.lit 4611686018427387904)))
abbrev xvformsk36_ : Tm := (le_ (.lit 0) (.iapp 41 (.cons (.int .i64 (.iapp 40 (.cons z0_ .nil))) (.cons (.int .i64 (.iapp 40 (.cons z1_ .nil))) .nil))))
abbrev xvformsk37_ : Tm := (.iapp 43 (.cons (.int .i64 (.iapp 42 (.cons z3_ .nil))) (.cons z3_ .nil)))
abbrev xvformsk38_ : Tm := (an_ (le_ (.lit (-1569275433846670190958947355801916604025588861116008628224)) v1_) (le_ v1_ (.lit 1569275433846670190958947355801916604025588861116008628224)))
abbrev xvformsk39_ : Tm := (ad_ (ml_ xvformsk9_ (.lit 1000000000)) (wr_ (ad_ xvformsk6_ (.lit 1))))
abbrev xvformsk40_ : Tm := (an_ (le_ (.lit (-1208925819614629174706176)) (sb_ xvformsk10_ (.lit 4294967296000000000))) (an_ (le_ (sb_ xvformsk10_ (.lit 4294967296000000000)) (.lit 1208925819614629174706176)) (an_ (le_ (.lit (-1208925819614629174706176)) xvformsk10_) (an_ (le_ xvformsk10_ (.lit 1208925819614629174706176)) (an_ (le_ lm_ v1_) (le_ v1_ lM_))))))
abbrev xvformsk41_ : Tm := (.iapp 40 (.cons (.int .i64 (ml_ v0_ v1_)) .nil))
abbrev xvformsk42_ : Tm := (.iapp 40 (.cons (.int .i64 (ad_ v0_ v1_)) .nil))
abbrev xvformsk43_ : Tm := (wr_ (ad_ (.iapp 36 (.cons z0_ (.cons (.int .i64 (.lit 1000000000)) .nil))) (.lit 2208988800)))
abbrev xvformsk45_ : Tm := (sb_ (.lit 6) (wr_ (ad_ v2_ (.lit 1))))
abbrev xvformsk47_ : Tm := (wr_ (ad_ (wr_ (sb_ v1_ xvformsk1_)) (.lit 4294967296000000000)))
abbrev xvformsk48_ : Tm := (an_ (le_ (.lit (-1569275433846670190958947355801916604025588861116008628224)) (ml_ xvformsk9_ (.lit 1000000000))) (le_ (ml_ xvformsk9_ (.lit 1000000000)) (.lit 1569275433846670190958947355801916604025588861116008628224)))
abbrev xvformsk49_ : Tm := (sb_ (ad_ (ml_ xvformsk9_ (.lit 1000000000)) xvformsk6_) v1_)
abbrev xvformsk50_ : Tm := (an_ (le_ (.lit 0) xvformsk4_) (le_ xvformsk4_ (.lit 1606938044258990275541962092341162602522202993782792835301376)))
abbrev xvformsk51_ : Tm := (an_ (le_ (.lit 0) xvformsk3_) (le_ xvformsk3_ (.lit 1606938044258990275541962092341162602522202993782792835301376)))
abbrev xvformsk52_ : Tm := (an_ (le_ (.lit 0) xvformsk2_) (le_ xvformsk2_ (.lit 1606938044258990275541962092341162602522202993782792835301376)))
abbrev xvformsk53_ : Tm := (wr_ (.i2 .quo v0_ (.lit 4294967296)))
abbrev xvformsk54_ : Tm := (wr_ (.i2 .quo v0_ (.lit 1000000000)))
abbrev xvformsk55_ : Tm := (.tup (.cons (.int .i64 (.lit 0)) (.cons (.int .i64 (.lit 2)) .nil)))
def sgI (b : Bool) (m : Int) : Int := if b then -m else m
def abI (x : Int) : Int := if x < 0 then -x else x
def r6E (x : Int) : Int := if InR x then 0 else 2
def gdF (e x : Int) : Int := if e = 0 then x else 0
theorem sizeR_spec (x y : Int) : (y < x ∧ sizeR x y = 1) ∨ (x < y ∧ sizeR x y = -1) ∨ (x = y ∧ sizeR x y = 0) := by unfold sizeR; split <;> (try split) <;> omega
theorem sg_f (m : Int) : sgI false m = m := Eq.trans rfl rfl
theorem sg_t (m : Int) : sgI true m = -m := Eq.trans rfl rfl
theorem ab_spec (x : Int) : (x < 0 ∧ abI x = -x) ∨ (0 ≤ x ∧ abI x = x) := by unfold abI; split <;> omega
theorem sg_ab (x : Int) : sgI (decide (x < 0)) (abI x) = x := by
 by_cases h : x < 0
 · rw [decide_eq_true h, sg_t]; unfold abI; rw [if_pos h]; omega
 · rw [decide_eq_false h, sg_f]; unfold abI; rw [if_neg h]
theorem r6_spec (x : Int) : ((-9223372036854775808 ≤ x ∧ x ≤ 9223372036854775807) ∧ r6E x = 0) ∨ ((x < -9223372036854775808 ∨ 9223372036854775807 < x) ∧ r6E x = 2) := by
 unfold r6E
 split
 · rename_i h; exact .inl ⟨h, rfl⟩
 · rename_i h; exact .inr ⟨by omega, rfl⟩
theorem gw_y {e : Int} (h : e = 0) (x : Int) : gdF e x = x := by unfold gdF; rw [if_pos h]
theorem gw_n {e : Int} (h : e ≠ 0) (x : Int) : gdF e x = 0 := by unfold gdF; rw [if_neg h]
theorem number_w (b : Bool) (m : Int) (w : World) (h0 : 0 ≤ m) (h1 : m < B8) (hb : ¬ (b = true ∧ m = 0)) : Calls Tryd.prog 17 #[.agg #[.bool (b), .int .u64 (dg (m) 0), .int .u64 (dg (m) 1), .int .u64 (dg (m) 2), .int .u64 (dg (m) 3), .int .u64 (dg (m) 4), .int .u64 (dg (m) 5), .int .u64 (dg (m) 6), .int .u64 (dg (m) 7)]] w fun e w' => e = .returned (.tuple #[.int .i64 (gdF (r6E (sgI b m)) (sgI b m)), .bool (r6E (sgI b m) == 0)]) ∧ Below w.heap.size w w' := by
 cases b with
 | false =>
   rcases r6_spec (sgI false m) with ⟨h, e⟩ | ⟨h, e⟩ <;> rw [sg_f] at h e
   · simp only [sg_f, e, gw_y rfl]
     exact number_p0 m w h0 (by omega)
   · simp only [sg_f, e, gw_n (show (2 : Int) ≠ 0 by decide)]
     exact number_pos_no m w (by omega) h1
 | true =>
   have hm : m ≠ 0 := fun h => hb ⟨rfl, h⟩
   rcases r6_spec (sgI true m) with ⟨h, e⟩ | ⟨h, e⟩ <;> rw [sg_t] at h e
   · simp only [sg_t, e, gw_y rfl]
     exact number_n0 m w (by omega) (by omega)
   · simp only [sg_t, e, gw_n (show (2 : Int) ≠ 0 by decide)]
     exact number_neg_no m w (by omega) h1
theorem zero_w (m : Int) (w : World) (h0 : 0 ≤ m) (h1 : m < B8) : Calls Tryd.prog 16 #[.agg #[.int .u64 (dg m 0), .int .u64 (dg m 1), .int .u64 (dg m 2), .int .u64 (dg m 3), .int .u64 (dg m 4), .int .u64 (dg m 5), .int .u64 (dg m 6), .int .u64 (dg m 7)]] w fun e w' => e = .returned (.bool (m == 0)) ∧ Below w.heap.size w w' := by
 by_cases h : m = 0
 · subst h; exact zero_yes w
 · rw [show (m == 0) = false from beq_eq_false_iff_ne.2 h]; exact zero_no m w ⟨h0, h1⟩ h
theorem bmul_w (b c : Bool) (m n : Int) (w : World) (h0 : 0 ≤ m) (h1 : m < BS ^ 4) (h2 : 0 ≤ n) (h3 : n < BS ^ 4) : Calls Tryd.prog 24 #[.agg #[.bool (b), .int .u64 (dg (m) 0), .int .u64 (dg (m) 1), .int .u64 (dg (m) 2), .int .u64 (dg (m) 3), .int .u64 (dg (m) 4), .int .u64 (dg (m) 5), .int .u64 (dg (m) 6), .int .u64 (dg (m) 7)], .agg #[.bool (c), .int .u64 (dg (n) 0), .int .u64 (dg (n) 1), .int .u64 (dg (n) 2), .int .u64 (dg (n) 3), .int .u64 (dg (n) 4), .int .u64 (dg (n) 5), .int .u64 (dg (n) 6), .int .u64 (dg (n) 7)]] w fun e w' => e = .returned (.agg #[.bool (decide (sgI b m * sgI c n < 0)), .int .u64 (dg (abI (sgI b m * sgI c n)) 0), .int .u64 (dg (abI (sgI b m * sgI c n)) 1), .int .u64 (dg (abI (sgI b m * sgI c n)) 2), .int .u64 (dg (abI (sgI b m * sgI c n)) 3), .int .u64 (dg (abI (sgI b m * sgI c n)) 4), .int .u64 (dg (abI (sgI b m * sgI c n)) 5), .int .u64 (dg (abI (sgI b m * sgI c n)) 6), .int .u64 (dg (abI (sgI b m * sgI c n)) 7)]) ∧ Below w.heap.size w w' := by
 have h := mul_raw b c m n w h0 h1 h2 h3
 have hp := Int.mul_nonneg h0 h2
 have e2 : abI (sgI b m * sgI c n) = m * n := by
   have := ab_spec (sgI b m * sgI c n)
   cases b <;> cases c <;> simp only [sg_f, sg_t, Int.neg_mul, Int.mul_neg, Int.neg_neg] at * <;> omega
 have e1 : decide (sgI b m * sgI c n < 0) = (b != c && decide (m * n ≠ 0)) := by
   clear h e2
   cases b <;> cases c <;> simp only [sg_f, sg_t, Int.neg_mul, Int.mul_neg, Int.neg_neg]
   all_goals by_cases hz : m * n = 0
   all_goals first
     | (rw [decide_eq_false (show ¬ m * n < 0 by omega)]; first | done | rfl)
     | (rw [hz]; rfl)
     | (rw [decide_eq_true (show -(m * n) < 0 by omega), decide_eq_true hz]; first | done | rfl)
 rw [e1, e2]
 exact h
theorem ab_rng {x : Int} (h0 : -1569275433846670190958947355801916604025588861116008628224 ≤ x) (h1 : x ≤ 1569275433846670190958947355801916604025588861116008628224) : 0 ≤ abI x ∧ abI x < B8 := by
 have := ab_spec x
 unfold B8
 omega
theorem numN_w (x : Int) (w : World) (h0 : -1569275433846670190958947355801916604025588861116008628224 ≤ x) (h1 : x ≤ 1569275433846670190958947355801916604025588861116008628224) : Calls Tryd.prog 17 #[.agg #[.bool (decide (x < 0)), .int .u64 (dg (abI (x)) 0), .int .u64 (dg (abI (x)) 1), .int .u64 (dg (abI (x)) 2), .int .u64 (dg (abI (x)) 3), .int .u64 (dg (abI (x)) 4), .int .u64 (dg (abI (x)) 5), .int .u64 (dg (abI (x)) 6), .int .u64 (dg (abI (x)) 7)]] w fun e w' => e = .returned (.tuple #[.int .i64 (gdF (r6E x) x), .bool (r6E x == 0)]) ∧ Below w.heap.size w w' := by
 have h := number_w (decide (x < 0)) (abI x) w (ab_rng h0 h1).1 (ab_rng h0 h1).2 (fun h => by have h1 := of_decide_eq_true h.1; have h2 := ab_spec x; omega)
 rw [sg_ab] at h
 exact h
theorem zeroN_w (x : Int) (w : World) (h0 : -1569275433846670190958947355801916604025588861116008628224 ≤ x) (h1 : x ≤ 1569275433846670190958947355801916604025588861116008628224) : Calls Tryd.prog 16 #[.agg #[.int .u64 (dg (abI x) 0), .int .u64 (dg (abI x) 1), .int .u64 (dg (abI x) 2), .int .u64 (dg (abI x) 3), .int .u64 (dg (abI x) 4), .int .u64 (dg (abI x) 5), .int .u64 (dg (abI x) 6), .int .u64 (dg (abI x) 7)]] w fun e w' => e = .returned (.bool (x == 0)) ∧ Below w.heap.size w w' := by
 have h := zero_w (abI x) w (ab_rng h0 h1).1 (ab_rng h0 h1).2
 rw [show (abI x == 0) = (x == 0) by (rw [Bool.eq_iff_iff]; simp only [beq_iff_eq]; have := ab_spec x; omega)] at h
 exact h
theorem mulN_w (x y : Int) (w : World) (h0 : -9223372036854775808 ≤ x) (h1 : x ≤ 9223372036854775807) (h2 : -9223372036854775808 ≤ y) (h3 : y ≤ 9223372036854775807) : Calls Tryd.prog 24 #[.agg #[.bool (decide (x < 0)), .int .u64 (dg (abI (x)) 0), .int .u64 (dg (abI (x)) 1), .int .u64 (dg (abI (x)) 2), .int .u64 (dg (abI (x)) 3), .int .u64 (dg (abI (x)) 4), .int .u64 (dg (abI (x)) 5), .int .u64 (dg (abI (x)) 6), .int .u64 (dg (abI (x)) 7)], .agg #[.bool (decide (y < 0)), .int .u64 (dg (abI (y)) 0), .int .u64 (dg (abI (y)) 1), .int .u64 (dg (abI (y)) 2), .int .u64 (dg (abI (y)) 3), .int .u64 (dg (abI (y)) 4), .int .u64 (dg (abI (y)) 5), .int .u64 (dg (abI (y)) 6), .int .u64 (dg (abI (y)) 7)]] w fun e w' => e = .returned (.agg #[.bool (decide (x * y < 0)), .int .u64 (dg (abI (x * y)) 0), .int .u64 (dg (abI (x * y)) 1), .int .u64 (dg (abI (x * y)) 2), .int .u64 (dg (abI (x * y)) 3), .int .u64 (dg (abI (x * y)) 4), .int .u64 (dg (abI (x * y)) 5), .int .u64 (dg (abI (x * y)) 6), .int .u64 (dg (abI (x * y)) 7)]) ∧ Below w.heap.size w w' := by
 have e : BS ^ 4 = 340282366920938463463374607431768211456 := rfl
 have a := ab_spec x
 have b := ab_spec y
 have h := bmul_w (decide (x < 0)) (decide (y < 0)) (abI x) (abI y) w (by omega) (by omega) (by omega) (by omega)
 rw [sg_ab, sg_ab] at h
 exact h
def tpE (t : Int) : Int := if tmP t then 0 else 1
def nrE (s t : Int) : Int := if tmP t then (if tmP (nrN s t) then 0 else 2) else 1
def chE (a b : Int) : Int := if a = 0 then b else a
def syE (l s : Int) : Int := if l = 3 ∨ s < 1 ∨ 15 < s then 13 else 0
def anE (k m e : Int) : Int := if k = 0 ∧ m = 3 ∧ 0 ≤ e ∧ e ≤ 1073741824 then 0 else 1
def saE (x y : Int) : Int := if x = y then 0 else 19
def nqB (x y t : Int) (b : Bool) : Bool := decide (abI (x - t) < abI (y - t)) || (decide (abI (x - t) = abI (y - t)) && b)
def pwB (k : Int) : Bool := k == 0 || k == 1 || k == 2 || k == 4 || k == 8 || k == 16 || k == 32 || k == 64 || k == 128 || k == 256 || k == 512 || k == 1024 || k == 2048 || k == 4096 || k == 8192 || k == 16384 || k == 32768 || k == 65536 || k == 131072
theorem tp_spec (t : Int) : ((-4611686018427387904 < t ∧ t < 4611686018427387904) ∧ tpE t = 0) ∨ ((t ≤ -4611686018427387904 ∨ 4611686018427387904 ≤ t) ∧ tpE t = 1) := by
 unfold tpE
 split
 · exact .inl ⟨by assumption, rfl⟩
 · rename_i h; unfold tmP at h; exact .inr ⟨by omega, rfl⟩
theorem nr_spec (s t : Int) : (tpE t = 1 ∧ nrE s t = 1) ∨ (tpE t = 0 ∧ tpE (nrN s t) = 0 ∧ nrE s t = 0) ∨ (tpE t = 0 ∧ tpE (nrN s t) = 1 ∧ nrE s t = 2) := by
 unfold nrE tpE
 split
 · split
   · exact .inr (.inl ⟨rfl, rfl, rfl⟩)
   · exact .inr (.inr ⟨rfl, rfl, rfl⟩)
 · exact .inl ⟨rfl, rfl⟩
def thV (s : Int) : Int := (s / 4294967296 - 2208988800) * 1000000000 + -((-(s % 4294967296 * 1000000000)) / 4294967296)
theorem th_rng {s : Int} (s0 : 0 ≤ s) (s1 : s ≤ 18446744073709551615) : -2208988800000000000 ≤ thV s ∧ thV s ≤ 2085978497000000000 := by unfold thV; omega
theorem th_a {s : Int} (h : s % 4294967296 * 1000000000 / 4294967296 * 4294967296 = s % 4294967296 * 1000000000) : (s / 4294967296 - 2208988800) * 1000000000 + s % 4294967296 * 1000000000 / 4294967296 = thV s := by
 unfold thV
 omega
theorem th_b {s : Int} (h : ¬ s % 4294967296 * 1000000000 / 4294967296 * 4294967296 = s % 4294967296 * 1000000000) : (s / 4294967296 - 2208988800) * 1000000000 + (s % 4294967296 * 1000000000 / 4294967296 + 1) = thV s := by
 unfold thV
 omega
theorem nq_spec (x y t : Int) (b : Bool) : (nqB x y t b = true ∧ (abI (x - t) < abI (y - t) ∨ (abI (x - t) = abI (y - t) ∧ b = true))) ∨ (nqB x y t b = false ∧ (abI (y - t) < abI (x - t) ∨ (abI (x - t) = abI (y - t) ∧ b = false))) := by
 unfold nqB
 rcases Int.lt_trichotomy (abI (x - t)) (abI (y - t)) with h | h | h
 · rw [decide_eq_true h]; exact .inl ⟨rfl, .inl h⟩
 · rw [decide_eq_false (by omega), decide_eq_true h]
   cases b
   · exact .inr ⟨rfl, .inr ⟨h, rfl⟩⟩
   · exact .inl ⟨rfl, .inr ⟨h, rfl⟩⟩
 · rw [decide_eq_false (by omega), decide_eq_false (by omega)]; exact .inr ⟨rfl, .inl h⟩
theorem nq_up (v t : Int) : nqB (v + 4294967296000000000) v t false = true ↔ 2 * (v - t) + 4294967296000000000 < 0 := by
 have a := ab_spec (v + 4294967296000000000 - t)
 have b := ab_spec (v - t)
 rcases nq_spec (v + 4294967296000000000) v t false with ⟨e, h⟩ | ⟨e, h⟩ <;> rw [e] <;> simp only [Bool.false_eq_true, and_false, or_false, and_true, true_iff, false_iff] at * <;> omega
theorem nq_dn (v t : Int) : nqB (v - 4294967296000000000) v t true = true ↔ 4294967296000000000 ≤ 2 * (v - t) := by
 have a := ab_spec (v - 4294967296000000000 - t)
 have b := ab_spec (v - t)
 rcases nq_spec (v - 4294967296000000000) v t true with ⟨e, h⟩ | ⟨e, h⟩ <;> rw [e] <;> simp only [Bool.false_eq_true, Bool.true_eq_false, and_false, or_false, and_true, true_iff, false_iff] at * <;> omega
theorem near_fin {s t v : Int} (s0 : 0 ≤ s) (h0 : (v - thV s) % 4294967296000000000 = 0) (h1 : -2147483648000000000 ≤ v - t) (h2 : v - t < 2147483648000000000) : nrN s t = v := by
 obtain ⟨T, hT⟩ : ∃ x, (s / 4294967296 - 2208988800) * 1000000000 + -((-(s % 4294967296 * 1000000000)) / 4294967296) = x := ⟨_, rfl⟩
 unfold thV at h0
 unfold nrN
 rw [hT] at h0 ⊢
 by_cases h : 0 ≤ t - v
 · have e : (t - T) % 4294967296000000000 = t - v := by omega
   rw [e, if_neg (by omega)]
   omega
 · have e : (t - T) % 4294967296000000000 = t - v + 4294967296000000000 := by omega
   rw [e, if_pos (by omega)]
   omega
def erI (d s : Int) : Int := (shI d + 1) / 2 + shI s + 2
def ofE (k m a st l su c s x : Int) : Int := if k ≠ 0 ∨ m ≠ 4 then 1 else if a ≠ 0 then a else if st ≠ 0 then 19 else if syE l su ≠ 0 then 13 else if c ≠ 0 then c else if s ≠ 0 then s else if x ≠ 0 then 2 else 0
noncomputable def nvI : Nat → List Value → Int
 | 39, [.int _ m, .int _ k] => dg m k.toNat
 | 40, [.int _ x] => abI x
 | 41, [.int _ x, .int _ y] => sizeR x y
 | 42, [.int _ x] => r6E x
 | 43, [.int _ e, .int _ x] => gdF e x
 | 44, [.int _ t] => tpE t
 | 45, [.int _ s, .int _ t] => nrE s t
 | 46, [.int _ a, .int _ b] => chE a b
 | 47, [.int _ l, .int _ s] => syE l s
 | 48, [.int _ k, .int _ m, .int _ e] => anE k m e
 | 49, [.int _ x, .int _ y] => saE x y
 | 50, [.int _ s] => thV s
 | 51, [.int _ d, .int _ s] => erI d s
 | 52, [.int _ k, .int _ m, .int _ a, .int _ st, .int _ l, .int _ su, .int _ c, .int _ s, .int _ x] => ofE k m a st l su c s x
 | i, l => nuI i l
noncomputable def nvB : Nat → List Value → Bool
 | 3, [.int _ x] => decide (x < 0)
 | 4, [.int _ x, .int _ y, .int _ t, .bool b] => nqB x y t b
 | 5, [.int _ k] => pwB k
 | i, l => nuB i l
noncomputable def nvV : Nat → List Value → Value
 | i, l => nuV i l
noncomputable abbrev nvE (iv : List Int) (bv : List Bool) (vv : List Value) (sv : List ByteArray) : Env := { iv := iv, bv := bv, vv := vv, sv := sv, fi := nvI, fb := nvB, fv := nvV, et := 142 }
set_option maxHeartbeats 8000000 in
theorem nvup : Agree 39 3 0 (nuE [] [] [] []) (nvE [] [] [] []) := ⟨rfl, (by
   intro f hf
   funext l
   show nvI f l = nuI f l
   unfold nvI
   split <;> first | rfl | omega), (by
   intro f hf
   funext l
   show nvB f l = nuB f l
   unfold nvB
   split <;> first | rfl | omega), (by
   intro f hf
   funext l
   show nvV f l = nuV f l
   unfold nvV
   split <;> first | rfl | omega)⟩
theorem nvi_mdn (k1 : IntKind) (a : Int) (k2 : IntKind) (b : Int) (k3 : IntKind) (c : Int) : nvI 6 [.int k1 a, .int k2 b, .int k3 c] = mdN a b c := rfl
theorem nvi_mde (k1 : IntKind) (a : Int) (k2 : IntKind) (b : Int) (k3 : IntKind) (c : Int) : nvI 7 [.int k1 a, .int k2 b, .int k3 c] = mdE a b c := rfl
theorem nvi_stv (k1 : IntKind) (t : Int) : nvI 26 [.int k1 t] = stV t := rfl
theorem nvi_nr (k1 : IntKind) (s : Int) (k2 : IntKind) (t : Int) : nvI 27 [.int k1 s, .int k2 t] = nrN s t := rfl
theorem nvi_gd (k1 : IntKind) (e : Int) (k2 : IntKind) (x : Int) : nvI 35 [.int k1 e, .int k2 x] = gnF e x := rfl
theorem nvi_dv (k1 : IntKind) (a : Int) (k2 : IntKind) (b : Int) : nvI 36 [.int k1 a, .int k2 b] = a / b := rfl
theorem nvi_dw (k1 : IntKind) (a : Int) (k2 : IntKind) (b : Int) : nvI 37 [.int k1 a, .int k2 b] = a % b := rfl
theorem nvi_cl (k1 : IntKind) (a : Int) (k2 : IntKind) (b : Int) : nvI 38 [.int k1 a, .int k2 b] = -((-a) / b) := rfl
theorem nvi_dg (k1 : IntKind) (m : Int) (k2 : IntKind) (k : Int) : nvI 39 [.int k1 m, .int k2 k] = dg m k.toNat := rfl
theorem nvi_ab (k1 : IntKind) (x : Int) : nvI 40 [.int k1 x] = abI x := rfl
theorem nvi_szr (k1 : IntKind) (x : Int) (k2 : IntKind) (y : Int) : nvI 41 [.int k1 x, .int k2 y] = sizeR x y := rfl
theorem nvi_r6 (k1 : IntKind) (x : Int) : nvI 42 [.int k1 x] = r6E x := rfl
theorem nvi_gdw (k1 : IntKind) (e : Int) (k2 : IntKind) (x : Int) : nvI 43 [.int k1 e, .int k2 x] = gdF e x := rfl
theorem nvi_tpe (k1 : IntKind) (t : Int) : nvI 44 [.int k1 t] = tpE t := rfl
theorem nvi_nre (k1 : IntKind) (s : Int) (k2 : IntKind) (t : Int) : nvI 45 [.int k1 s, .int k2 t] = nrE s t := rfl
theorem nvi_th (k1 : IntKind) (s : Int) : nvI 50 [.int k1 s] = thV s := rfl
theorem nvb_ng (k1 : IntKind) (x : Int) : nvB 3 [.int k1 x] = decide (x < 0) := rfl
theorem nvb_nq (k1 : IntKind) (x : Int) (k2 : IntKind) (y : Int) (k3 : IntKind) (t : Int) (b : Bool) : nvB 4 [.int k1 x, .int k2 y, .int k3 t, .bool b] = nqB x y t b := rfl
abbrev nvc_bint : Con := ⟨22, [z0_], (an_ (le_ lm_ v0_) (le_ v0_ lM_)), xvformsk0_, ⟨1, 0, 0, 0⟩, none⟩
theorem nvg_bint : nvc_bint.Good Tryd.prog syG (nvE [] [] [] []) := good_flat rfl rfl rfl (by
 intro a hc β ok w hG
 have hc' := hc
 simp only [Tree.holds, Sy.holds, AllN, Env.more, nvE, List.cons_append, List.nil_append, List.append_nil, denV, denI, denB, denL, I2.den, VOp.den, List.getD_cons_zero, List.getD_cons_succ, Cst.den, syso, syse, syio, sybo, nvi_dg, nvi_ab, nvb_ng, List.map_nil, List.map_cons, B2.ofInts, B2.denI, B2.denB, if_true, Bool.false_eq_true, if_false, Nat.div_one, Nat.mul_one, Nat.add_zero, holds] at hc
 exact int_c a w hc)
abbrev nvc_bplus : Con := ⟨67, [xvformsk8_, xvformsk18_], (.tt true), (.agg (.cons (.int .u64 (.iapp 39 (.cons (.int .i64 (ad_ v0_ v1_)) (.cons (.int .i64 (.lit 0)) .nil)))) (.cons (.int .u64 (.iapp 39 (.cons (.int .i64 (ad_ v0_ v1_)) (.cons (.int .i64 (.lit 1)) .nil)))) (.cons (.int .u64 (.iapp 39 (.cons (.int .i64 (ad_ v0_ v1_)) (.cons (.int .i64 (.lit 2)) .nil)))) (.cons (.int .u64 (.iapp 39 (.cons (.int .i64 (ad_ v0_ v1_)) (.cons (.int .i64 (.lit 3)) .nil)))) (.cons (.int .u64 (.iapp 39 (.cons (.int .i64 (ad_ v0_ v1_)) (.cons (.int .i64 (.lit 4)) .nil)))) (.cons (.int .u64 (.iapp 39 (.cons (.int .i64 (ad_ v0_ v1_)) (.cons (.int .i64 (.lit 5)) .nil)))) (.cons (.int .u64 (.iapp 39 (.cons (.int .i64 (ad_ v0_ v1_)) (.cons (.int .i64 (.lit 6)) .nil)))) (.cons (.int .u64 (.iapp 39 (.cons (.int .i64 (ad_ v0_ v1_)) (.cons (.int .i64 (.lit 7)) .nil)))) .nil))))))))), ⟨2, 0, 0, 0⟩, none⟩
theorem nvg_bplus : nvc_bplus.Good Tryd.prog syG (nvE [] [] [] []) := good_flat rfl rfl rfl (by
 intro x y hc β ok w hG
 have hc' := hc
 simp only [Tree.holds, Sy.holds, AllN, Env.more, nvE, List.cons_append, List.nil_append, List.append_nil, denV, denI, denB, denL, I2.den, VOp.den, List.getD_cons_zero, List.getD_cons_succ, Cst.den, syso, syse, syio, sybo, nvi_dg, List.map_nil, List.map_cons, B2.ofInts, B2.denI, B2.denB, if_true, Bool.false_eq_true, if_false, Nat.div_one, Nat.mul_one, Nat.add_zero, holds] at hc
 exact plus_c x y w)
abbrev nvc_bless : Con := ⟨72, [xvformsk8_, xvformsk18_], (.tt true), (.agg (.cons (.int .u64 (.iapp 39 (.cons (.int .i64 (sb_ v0_ v1_)) (.cons (.int .i64 (.lit 0)) .nil)))) (.cons (.int .u64 (.iapp 39 (.cons (.int .i64 (sb_ v0_ v1_)) (.cons (.int .i64 (.lit 1)) .nil)))) (.cons (.int .u64 (.iapp 39 (.cons (.int .i64 (sb_ v0_ v1_)) (.cons (.int .i64 (.lit 2)) .nil)))) (.cons (.int .u64 (.iapp 39 (.cons (.int .i64 (sb_ v0_ v1_)) (.cons (.int .i64 (.lit 3)) .nil)))) (.cons (.int .u64 (.iapp 39 (.cons (.int .i64 (sb_ v0_ v1_)) (.cons (.int .i64 (.lit 4)) .nil)))) (.cons (.int .u64 (.iapp 39 (.cons (.int .i64 (sb_ v0_ v1_)) (.cons (.int .i64 (.lit 5)) .nil)))) (.cons (.int .u64 (.iapp 39 (.cons (.int .i64 (sb_ v0_ v1_)) (.cons (.int .i64 (.lit 6)) .nil)))) (.cons (.int .u64 (.iapp 39 (.cons (.int .i64 (sb_ v0_ v1_)) (.cons (.int .i64 (.lit 7)) .nil)))) .nil))))))))), ⟨2, 0, 0, 0⟩, none⟩
theorem nvg_bless : nvc_bless.Good Tryd.prog syG (nvE [] [] [] []) := good_flat rfl rfl rfl (by
 intro x y hc β ok w hG
 have hc' := hc
 simp only [Tree.holds, Sy.holds, AllN, Env.more, nvE, List.cons_append, List.nil_append, List.append_nil, denV, denI, denB, denL, I2.den, VOp.den, List.getD_cons_zero, List.getD_cons_succ, Cst.den, syso, syse, syio, sybo, nvi_dg, List.map_nil, List.map_cons, B2.ofInts, B2.denI, B2.denB, if_true, Bool.false_eq_true, if_false, Nat.div_one, Nat.mul_one, Nat.add_zero, holds] at hc
 exact less_c x y w)
abbrev nvc_bsize : Con := ⟨71, [xvformsk8_, xvformsk18_], (an_ (an_ (le_ (.lit 0) v0_) (le_ v0_ (.lit 1606938044258990275541962092341162602522202993782792835301376))) (an_ (le_ (.lit 0) v1_) (le_ v1_ (.lit 1606938044258990275541962092341162602522202993782792835301376)))), (.int .i64 (.iapp 41 (.cons z0_ (.cons z1_ .nil)))), ⟨2, 0, 0, 0⟩, none⟩
theorem nvg_bsize : nvc_bsize.Good Tryd.prog syG (nvE [] [] [] []) := good_flat rfl rfl rfl (by
 intro x y hc β ok w hG
 have hc' := hc
 simp only [Tree.holds, Sy.holds, AllN, Env.more, nvE, List.cons_append, List.nil_append, List.append_nil, denV, denI, denB, denL, I2.den, VOp.den, List.getD_cons_zero, List.getD_cons_succ, Cst.den, syso, syse, syio, sybo, nvi_dg, nvi_szr, List.map_nil, List.map_cons, B2.ofInts, B2.denI, B2.denB, if_true, Bool.false_eq_true, if_false, Nat.div_one, Nat.mul_one, Nat.add_zero, holds] at hc
 exact size_c x y w ⟨hc.1.1, by have := hc.1.2; unfold B8; omega⟩ ⟨hc.2.1, by have := hc.2.2; unfold B8; omega⟩)
abbrev nvc_bzero : Con := ⟨16, [xvformsk8_], (an_ (le_ (.lit 0) v0_) (le_ v0_ (.lit 1606938044258990275541962092341162602522202993782792835301376))), (.bool (eq_ v0_ (.lit 0))), ⟨1, 0, 0, 0⟩, none⟩
theorem nvg_bzero : nvc_bzero.Good Tryd.prog syG (nvE [] [] [] []) := good_flat rfl rfl rfl (by
 intro m hc β ok w hG
 have hc' := hc
 simp only [Tree.holds, Sy.holds, AllN, Env.more, nvE, List.cons_append, List.nil_append, List.append_nil, denV, denI, denB, denL, I2.den, VOp.den, List.getD_cons_zero, List.getD_cons_succ, Cst.den, syso, syse, syio, sybo, nvi_dg, List.map_nil, List.map_cons, B2.ofInts, B2.denI, B2.denB, if_true, Bool.false_eq_true, if_false, Nat.div_one, Nat.mul_one, Nat.add_zero, holds] at hc
 exact zero_w m w hc.1 (by have := hc.2; unfold B8; omega))
abbrev nvc_bzeroN : Con := ⟨16, [(.agg (.cons (.int .u64 (.iapp 39 (.cons (.int .i64 (.iapp 40 (.cons z0_ .nil))) (.cons (.int .i64 (.lit 0)) .nil)))) (.cons (.int .u64 (.iapp 39 (.cons (.int .i64 (.iapp 40 (.cons z0_ .nil))) (.cons (.int .i64 (.lit 1)) .nil)))) (.cons (.int .u64 (.iapp 39 (.cons (.int .i64 (.iapp 40 (.cons z0_ .nil))) (.cons (.int .i64 (.lit 2)) .nil)))) (.cons (.int .u64 (.iapp 39 (.cons (.int .i64 (.iapp 40 (.cons z0_ .nil))) (.cons (.int .i64 (.lit 3)) .nil)))) (.cons (.int .u64 (.iapp 39 (.cons (.int .i64 (.iapp 40 (.cons z0_ .nil))) (.cons (.int .i64 (.lit 4)) .nil)))) (.cons (.int .u64 (.iapp 39 (.cons (.int .i64 (.iapp 40 (.cons z0_ .nil))) (.cons (.int .i64 (.lit 5)) .nil)))) (.cons (.int .u64 (.iapp 39 (.cons (.int .i64 (.iapp 40 (.cons z0_ .nil))) (.cons (.int .i64 (.lit 6)) .nil)))) (.cons (.int .u64 (.iapp 39 (.cons (.int .i64 (.iapp 40 (.cons z0_ .nil))) (.cons (.int .i64 (.lit 7)) .nil)))) .nil)))))))))], xvformsk20_, (.bool (eq_ v0_ (.lit 0))), ⟨1, 0, 0, 0⟩, none⟩
theorem nvg_bzeroN : nvc_bzeroN.Good Tryd.prog syG (nvE [] [] [] []) := good_flat rfl rfl rfl (by
 intro x hc β ok w hG
 have hc' := hc
 simp only [Tree.holds, Sy.holds, AllN, Env.more, nvE, List.cons_append, List.nil_append, List.append_nil, denV, denI, denB, denL, I2.den, VOp.den, List.getD_cons_zero, List.getD_cons_succ, Cst.den, syso, syse, syio, sybo, nvi_dg, nvi_ab, List.map_nil, List.map_cons, B2.ofInts, B2.denI, B2.denB, if_true, Bool.false_eq_true, if_false, Nat.div_one, Nat.mul_one, Nat.add_zero, holds] at hc
 exact zeroN_w x w hc.1 hc.2)
abbrev nvc_bnumN : Con := ⟨17, [xvformsk0_], xvformsk20_, (.tup (.cons (.int .i64 (.iapp 43 (.cons (.int .i64 (.iapp 42 (.cons z0_ .nil))) (.cons z0_ .nil)))) (.cons (.bool (eq_ (.iapp 42 (.cons z0_ .nil)) (.lit 0))) .nil))), ⟨1, 0, 0, 0⟩, none⟩
theorem nvg_bnumN : nvc_bnumN.Good Tryd.prog syG (nvE [] [] [] []) := good_flat rfl rfl rfl (by
 intro x hc β ok w hG
 have hc' := hc
 simp only [Tree.holds, Sy.holds, AllN, Env.more, nvE, List.cons_append, List.nil_append, List.append_nil, denV, denI, denB, denL, I2.den, VOp.den, List.getD_cons_zero, List.getD_cons_succ, Cst.den, syso, syse, syio, sybo, nvi_dg, nvi_ab, nvi_r6, nvi_gdw, nvb_ng, List.map_nil, List.map_cons, B2.ofInts, B2.denI, B2.denB, if_true, Bool.false_eq_true, if_false, Nat.div_one, Nat.mul_one, Nat.add_zero, holds] at hc
 exact numN_w x w hc.1 hc.2)
abbrev nvc_bmulN : Con := ⟨24, [xvformsk0_, xvformsk7_], (an_ (an_ (le_ lm_ v0_) (le_ v0_ lM_)) (an_ (le_ lm_ v1_) (le_ v1_ lM_))), (.agg (.cons (.bool (.bapp 3 (.cons (.int .i64 (ml_ v0_ v1_)) .nil))) (.cons (.int .u64 (.iapp 39 (.cons (.int .i64 xvformsk41_) (.cons (.int .i64 (.lit 0)) .nil)))) (.cons (.int .u64 (.iapp 39 (.cons (.int .i64 xvformsk41_) (.cons (.int .i64 (.lit 1)) .nil)))) (.cons (.int .u64 (.iapp 39 (.cons (.int .i64 xvformsk41_) (.cons (.int .i64 (.lit 2)) .nil)))) (.cons (.int .u64 (.iapp 39 (.cons (.int .i64 xvformsk41_) (.cons (.int .i64 (.lit 3)) .nil)))) (.cons (.int .u64 (.iapp 39 (.cons (.int .i64 xvformsk41_) (.cons (.int .i64 (.lit 4)) .nil)))) (.cons (.int .u64 (.iapp 39 (.cons (.int .i64 xvformsk41_) (.cons (.int .i64 (.lit 5)) .nil)))) (.cons (.int .u64 (.iapp 39 (.cons (.int .i64 xvformsk41_) (.cons (.int .i64 (.lit 6)) .nil)))) (.cons (.int .u64 (.iapp 39 (.cons (.int .i64 xvformsk41_) (.cons (.int .i64 (.lit 7)) .nil)))) .nil)))))))))), ⟨2, 0, 0, 0⟩, none⟩
theorem nvg_bmulN : nvc_bmulN.Good Tryd.prog syG (nvE [] [] [] []) := good_flat rfl rfl rfl (by
 intro x y hc β ok w hG
 have hc' := hc
 simp only [Tree.holds, Sy.holds, AllN, Env.more, nvE, List.cons_append, List.nil_append, List.append_nil, denV, denI, denB, denL, I2.den, VOp.den, List.getD_cons_zero, List.getD_cons_succ, Cst.den, syso, syse, syio, sybo, nvi_dg, nvi_ab, nvb_ng, List.map_nil, List.map_cons, B2.ofInts, B2.denI, B2.denB, if_true, Bool.false_eq_true, if_false, Nat.div_one, Nat.mul_one, Nat.add_zero, holds] at hc
 exact mulN_w x y w hc.1.1 hc.1.2 hc.2.1 hc.2.2)
def baddN_tree : Tree :=
 (.br (.b2 .beq (.bapp 3 (.cons z0_ .nil)) (.bapp 3 (.cons z1_ .nil)))
 (.br (.bapp 3 (.cons z0_ .nil))
 (.need xvformsk50_
 (.ret xvformsk11_))
 (.ret xvformsk14_))
 (.need xvformsk23_
 (.br xvformsk36_
 (.br (.bapp 3 (.cons z0_ .nil))
 (.need xvformsk51_
 (.ret xvformsk12_))
 (.ret xvformsk15_))
 (.br (.bapp 3 (.cons z1_ .nil))
 (.need xvformsk52_
 (.ret xvformsk13_))
 (.ret xvformsk16_)))))
abbrev nvc_baddN : Con := ⟨14, [xvformsk0_, xvformsk7_], (an_ xvformsk20_ xvformsk38_), (.agg (.cons (.bool (.bapp 3 (.cons (.int .i64 (ad_ v0_ v1_)) .nil))) (.cons (.int .u64 (.iapp 39 (.cons (.int .i64 xvformsk42_) (.cons (.int .i64 (.lit 0)) .nil)))) (.cons (.int .u64 (.iapp 39 (.cons (.int .i64 xvformsk42_) (.cons (.int .i64 (.lit 1)) .nil)))) (.cons (.int .u64 (.iapp 39 (.cons (.int .i64 xvformsk42_) (.cons (.int .i64 (.lit 2)) .nil)))) (.cons (.int .u64 (.iapp 39 (.cons (.int .i64 xvformsk42_) (.cons (.int .i64 (.lit 3)) .nil)))) (.cons (.int .u64 (.iapp 39 (.cons (.int .i64 xvformsk42_) (.cons (.int .i64 (.lit 4)) .nil)))) (.cons (.int .u64 (.iapp 39 (.cons (.int .i64 xvformsk42_) (.cons (.int .i64 (.lit 5)) .nil)))) (.cons (.int .u64 (.iapp 39 (.cons (.int .i64 xvformsk42_) (.cons (.int .i64 (.lit 6)) .nil)))) (.cons (.int .u64 (.iapp 39 (.cons (.int .i64 xvformsk42_) (.cons (.int .i64 (.lit 7)) .nil)))) .nil)))))))))), ⟨2, 0, 0, 0⟩, none⟩
theorem baddN_w : walk Tryd.prog 142 ⟨[nvc_bplus, nvc_bless, nvc_bsize, nvc_bzero], syG, [], [], []⟩ [] .v nvc_baddN nvc_baddN.n 3000 = some baddN_tree := by kernel_rfl
theorem baddN_h (x y : Int) : Hyp_ nvc_baddN baddN_tree (nvE [x, y] [] [] []) := by
 intro hc hty
 simp only [nvc_baddN, Sy.holds, nvE, denV, denI, denB, denL, I2.den, VOp.den, List.getD_cons_zero, List.getD_cons_succ, Cst.den, syso, syse, syio, sybo, B2.ofInts, B2.denI, B2.denB, if_true, Bool.false_eq_true, if_false, Nat.div_one, Nat.mul_one, Nat.add_zero] at hc
 simp only [nvc_baddN, patsTyp, patTyp, patTypL, nvE, denV, denL, List.getD_cons_zero, List.getD_cons_succ, and_true, true_and] at hty
 unfold baddN_tree
 simp only [nvc_baddN, Tree.holds, Sy.holds, nvE, denV, denI, denB, denL, I2.den, VOp.den, List.getD_cons_zero, List.getD_cons_succ, Cst.den, syso, syse, syio, sybo, nvi_dg, nvi_ab, nvi_szr, nvb_ng, B2.ofInts, B2.denI, B2.denB, if_true, Bool.false_eq_true, if_false, Nat.div_one, Nat.mul_one, Nat.add_zero]
 have zs := sizeR_spec (abI x) (abI y)
 have ax := ab_spec x
 have ay := ab_spec y
 refine ⟨fun h0 => ?_, fun h0 => ?_⟩
 refine ⟨fun h1 => ?_, fun h1 => ?_⟩
 refine ⟨?_, fun h2 => ?_⟩
 ·
  omega
 refine ?a0; rotate_left
 refine ?a1; rotate_left
 refine ⟨?_, fun h3 => ?_⟩
 ·
  omega
 refine ⟨fun h4 => ?_, fun h4 => ?_⟩
 refine ⟨fun h5 => ?_, fun h5 => ?_⟩
 refine ⟨?_, fun h6 => ?_⟩
 ·
  omega
 refine ?a2; rotate_left
 refine ?a3; rotate_left
 refine ⟨fun h7 => ?_, fun h7 => ?_⟩
 refine ⟨?_, fun h8 => ?_⟩
 ·
  omega
 refine ?a4; rotate_left
 refine ?a5; rotate_left
 case a0 | a1 | a2 | a3 | a4 | a5 =>
  try simp only [decide_eq_true_eq] at *
  have ha := ab_spec (x + y)
  first
  | (exfalso; omega)
  | (rw [show abI (x + y) = abI x + abI y by omega, show decide (x + y < 0) = false from decide_eq_false (by omega)]; first | done | rfl)
  | (rw [show abI (x + y) = abI x + abI y by omega, show decide (x + y < 0) = !(abI x + abI y == 0) from by (rw [Bool.eq_iff_iff]; simp only [decide_eq_true_eq, Bool.not_eq_true', beq_eq_false_iff_ne, ne_eq]; omega)]; first | done | rfl)
  | (rw [show abI (x + y) = abI x - abI y by omega, show decide (x + y < 0) = false from decide_eq_false (by omega)]; first | done | rfl)
  | (rw [show abI (x + y) = abI x - abI y by omega, show decide (x + y < 0) = !(abI x - abI y == 0) from by (rw [Bool.eq_iff_iff]; simp only [decide_eq_true_eq, Bool.not_eq_true', beq_eq_false_iff_ne, ne_eq]; omega)]; first | done | rfl)
  | (rw [show abI (x + y) = abI y - abI x by omega, show decide (x + y < 0) = false from decide_eq_false (by omega)]; first | done | rfl)
  | (rw [show abI (x + y) = abI y - abI x by omega, show decide (x + y < 0) = !(abI y - abI x == 0) from by (rw [Bool.eq_iff_iff]; simp only [decide_eq_true_eq, Bool.not_eq_true', beq_eq_false_iff_ne, ne_eq]; omega)]; first | done | rfl)
  | skip
theorem nvg_baddN : nvc_baddN.Good Tryd.prog syG (nvE [] [] [] []) := good_of_walk (Γ := ⟨[nvc_bplus, nvc_bless, nvc_bsize, nvc_bzero], syG, [], [], []⟩) (ρ := nvE [] [] [] []) sym baddN_w rfl (fun _ _ _ _ => (ok_cons (Con.Good.env nvg_bplus _ _ _ _) (ok_cons (Con.Good.env nvg_bless _ _ _ _) (ok_cons (Con.Good.env nvg_bsize _ _ _ _) (ok_cons (Con.Good.env nvg_bzero _ _ _ _) ok_nil))))) baddN_h
def baddF_tree : Tree :=
 (.br (.not (.bapp 3 (.cons z0_ .nil)))
 (.ret xvformsk14_)
 (.need xvformsk23_
 (.br xvformsk36_
 (.need xvformsk51_
 (.ret xvformsk12_))
 (.ret xvformsk16_))))
abbrev nvc_baddF : Con := ⟨14, [xvformsk0_, (.agg (.cons (.bool (.tt false)) (.cons (.int .u64 (.iapp 39 (.cons (.int .i64 (.iapp 40 (.cons z1_ .nil))) (.cons (.int .i64 (.lit 0)) .nil)))) (.cons (.int .u64 (.iapp 39 (.cons (.int .i64 (.iapp 40 (.cons z1_ .nil))) (.cons (.int .i64 (.lit 1)) .nil)))) (.cons (.int .u64 (.iapp 39 (.cons (.int .i64 (.iapp 40 (.cons z1_ .nil))) (.cons (.int .i64 (.lit 2)) .nil)))) (.cons (.int .u64 (.iapp 39 (.cons (.int .i64 (.iapp 40 (.cons z1_ .nil))) (.cons (.int .i64 (.lit 3)) .nil)))) (.cons (.int .u64 (.iapp 39 (.cons (.int .i64 (.iapp 40 (.cons z1_ .nil))) (.cons (.int .i64 (.lit 4)) .nil)))) (.cons (.int .u64 (.iapp 39 (.cons (.int .i64 (.iapp 40 (.cons z1_ .nil))) (.cons (.int .i64 (.lit 5)) .nil)))) (.cons (.int .u64 (.iapp 39 (.cons (.int .i64 (.iapp 40 (.cons z1_ .nil))) (.cons (.int .i64 (.lit 6)) .nil)))) (.cons (.int .u64 (.iapp 39 (.cons (.int .i64 (.iapp 40 (.cons z1_ .nil))) (.cons (.int .i64 (.lit 7)) .nil)))) .nil))))))))))], (an_ xvformsk20_ (an_ (le_ (.lit (-1569275433846670190958947355801916604025588861116008628224)) v1_) (le_ v1_ (.lit 0)))), xvformsk5_, ⟨2, 0, 0, 0⟩, none⟩
theorem baddF_w : walk Tryd.prog 142 ⟨[nvc_bplus, nvc_bless, nvc_bsize, nvc_bzero], syG, [], [], []⟩ [] .v nvc_baddF nvc_baddF.n 3000 = some baddF_tree := by kernel_rfl
theorem baddF_h (x y : Int) : Hyp_ nvc_baddF baddF_tree (nvE [x, y] [] [] []) := by
 intro hc hty
 simp only [nvc_baddF, Sy.holds, nvE, denV, denI, denB, denL, I2.den, VOp.den, List.getD_cons_zero, List.getD_cons_succ, Cst.den, syso, syse, syio, sybo, B2.ofInts, B2.denI, B2.denB, if_true, Bool.false_eq_true, if_false, Nat.div_one, Nat.mul_one, Nat.add_zero] at hc
 simp only [nvc_baddF, patsTyp, patTyp, patTypL, nvE, denV, denL, List.getD_cons_zero, List.getD_cons_succ, and_true, true_and] at hty
 unfold baddF_tree
 simp only [nvc_baddF, Tree.holds, Sy.holds, nvE, denV, denI, denB, denL, I2.den, VOp.den, List.getD_cons_zero, List.getD_cons_succ, Cst.den, syso, syse, syio, sybo, nvi_dg, nvi_ab, nvi_szr, nvb_ng, B2.ofInts, B2.denI, B2.denB, if_true, Bool.false_eq_true, if_false, Nat.div_one, Nat.mul_one, Nat.add_zero]
 have zs := sizeR_spec (abI x) (abI y)
 have ax := ab_spec x
 have ay := ab_spec y
 refine ⟨fun h0 => ?_, fun h0 => ?_⟩
 refine ?a0; rotate_left
 refine ⟨?_, fun h1 => ?_⟩
 ·
  omega
 refine ⟨fun h2 => ?_, fun h2 => ?_⟩
 refine ⟨?_, fun h3 => ?_⟩
 ·
  omega
 refine ?a1; rotate_left
 refine ?a2; rotate_left
 case a0 | a1 | a2 =>
  try simp only [decide_eq_true_eq] at *
  have ha := ab_spec (x - y)
  first
  | (exfalso; omega)
  | (rw [show abI (x - y) = abI x + abI y by omega, show decide (x - y < 0) = false from decide_eq_false (by omega)]; first | done | rfl)
  | (rw [show abI (x - y) = abI x + abI y by omega, show decide (x - y < 0) = !(abI x + abI y == 0) from by (rw [Bool.eq_iff_iff]; simp only [decide_eq_true_eq, Bool.not_eq_true', beq_eq_false_iff_ne, ne_eq]; omega)]; first | done | rfl)
  | (rw [show abI (x - y) = abI x - abI y by omega, show decide (x - y < 0) = false from decide_eq_false (by omega)]; first | done | rfl)
  | (rw [show abI (x - y) = abI x - abI y by omega, show decide (x - y < 0) = !(abI x - abI y == 0) from by (rw [Bool.eq_iff_iff]; simp only [decide_eq_true_eq, Bool.not_eq_true', beq_eq_false_iff_ne, ne_eq]; omega)]; first | done | rfl)
  | (rw [show abI (x - y) = abI y - abI x by omega, show decide (x - y < 0) = false from decide_eq_false (by omega)]; first | done | rfl)
  | (rw [show abI (x - y) = abI y - abI x by omega, show decide (x - y < 0) = !(abI y - abI x == 0) from by (rw [Bool.eq_iff_iff]; simp only [decide_eq_true_eq, Bool.not_eq_true', beq_eq_false_iff_ne, ne_eq]; omega)]; first | done | rfl)
  | skip
theorem nvg_baddF : nvc_baddF.Good Tryd.prog syG (nvE [] [] [] []) := good_of_walk (Γ := ⟨[nvc_bplus, nvc_bless, nvc_bsize, nvc_bzero], syG, [], [], []⟩) (ρ := nvE [] [] [] []) sym baddF_w rfl (fun _ _ _ _ => (ok_cons (Con.Good.env nvg_bplus _ _ _ _) (ok_cons (Con.Good.env nvg_bless _ _ _ _) (ok_cons (Con.Good.env nvg_bsize _ _ _ _) (ok_cons (Con.Good.env nvg_bzero _ _ _ _) ok_nil))))) baddF_h
def baddT_tree : Tree :=
 (.br (.b2 .beq (.bapp 3 (.cons z0_ .nil)) (.not (eq_ v1_ (.lit 0))))
 (.br (.bapp 3 (.cons z0_ .nil))
 (.need xvformsk50_
 (.ret xvformsk11_))
 (.ret xvformsk14_))
 (.need xvformsk23_
 (.br xvformsk36_
 (.br (.bapp 3 (.cons z0_ .nil))
 (.need xvformsk51_
 (.ret xvformsk12_))
 (.ret xvformsk15_))
 (.br (.not (eq_ v1_ (.lit 0)))
 (.need xvformsk52_
 (.ret xvformsk13_))
 (.ret xvformsk16_)))))
abbrev nvc_baddT : Con := ⟨14, [xvformsk0_, (.agg (.cons (.bool (.not (eq_ v1_ (.lit 0)))) (.cons (.int .u64 (.iapp 39 (.cons (.int .i64 (.iapp 40 (.cons z1_ .nil))) (.cons (.int .i64 (.lit 0)) .nil)))) (.cons (.int .u64 (.iapp 39 (.cons (.int .i64 (.iapp 40 (.cons z1_ .nil))) (.cons (.int .i64 (.lit 1)) .nil)))) (.cons (.int .u64 (.iapp 39 (.cons (.int .i64 (.iapp 40 (.cons z1_ .nil))) (.cons (.int .i64 (.lit 2)) .nil)))) (.cons (.int .u64 (.iapp 39 (.cons (.int .i64 (.iapp 40 (.cons z1_ .nil))) (.cons (.int .i64 (.lit 3)) .nil)))) (.cons (.int .u64 (.iapp 39 (.cons (.int .i64 (.iapp 40 (.cons z1_ .nil))) (.cons (.int .i64 (.lit 4)) .nil)))) (.cons (.int .u64 (.iapp 39 (.cons (.int .i64 (.iapp 40 (.cons z1_ .nil))) (.cons (.int .i64 (.lit 5)) .nil)))) (.cons (.int .u64 (.iapp 39 (.cons (.int .i64 (.iapp 40 (.cons z1_ .nil))) (.cons (.int .i64 (.lit 6)) .nil)))) (.cons (.int .u64 (.iapp 39 (.cons (.int .i64 (.iapp 40 (.cons z1_ .nil))) (.cons (.int .i64 (.lit 7)) .nil)))) .nil))))))))))], (an_ xvformsk20_ (an_ (le_ (.lit 0) v1_) (le_ v1_ (.lit 1569275433846670190958947355801916604025588861116008628224)))), xvformsk5_, ⟨2, 0, 0, 0⟩, none⟩
theorem baddT_w : walk Tryd.prog 142 ⟨[nvc_bplus, nvc_bless, nvc_bsize, nvc_bzero], syG, [], [], []⟩ [] .v nvc_baddT nvc_baddT.n 3000 = some baddT_tree := by kernel_rfl
theorem baddT_h (x y : Int) : Hyp_ nvc_baddT baddT_tree (nvE [x, y] [] [] []) := by
 intro hc hty
 simp only [nvc_baddT, Sy.holds, nvE, denV, denI, denB, denL, I2.den, VOp.den, List.getD_cons_zero, List.getD_cons_succ, Cst.den, syso, syse, syio, sybo, B2.ofInts, B2.denI, B2.denB, if_true, Bool.false_eq_true, if_false, Nat.div_one, Nat.mul_one, Nat.add_zero] at hc
 simp only [nvc_baddT, patsTyp, patTyp, patTypL, nvE, denV, denL, List.getD_cons_zero, List.getD_cons_succ, and_true, true_and] at hty
 unfold baddT_tree
 simp only [nvc_baddT, Tree.holds, Sy.holds, nvE, denV, denI, denB, denL, I2.den, VOp.den, List.getD_cons_zero, List.getD_cons_succ, Cst.den, syso, syse, syio, sybo, nvi_dg, nvi_ab, nvi_szr, nvb_ng, B2.ofInts, B2.denI, B2.denB, if_true, Bool.false_eq_true, if_false, Nat.div_one, Nat.mul_one, Nat.add_zero]
 have zs := sizeR_spec (abI x) (abI y)
 have ax := ab_spec x
 have ay := ab_spec y
 refine ⟨fun h0 => ?_, fun h0 => ?_⟩
 refine ⟨fun h1 => ?_, fun h1 => ?_⟩
 refine ⟨?_, fun h2 => ?_⟩
 ·
  omega
 refine ?a0; rotate_left
 refine ?a1; rotate_left
 refine ⟨?_, fun h3 => ?_⟩
 ·
  omega
 refine ⟨fun h4 => ?_, fun h4 => ?_⟩
 refine ⟨fun h5 => ?_, fun h5 => ?_⟩
 refine ⟨?_, fun h6 => ?_⟩
 ·
  omega
 refine ?a2; rotate_left
 refine ?a3; rotate_left
 refine ⟨fun h7 => ?_, fun h7 => ?_⟩
 refine ⟨?_, fun h8 => ?_⟩
 ·
  omega
 refine ?a4; rotate_left
 refine ?a5; rotate_left
 case a0 | a1 | a2 | a3 | a4 | a5 =>
  try simp only [decide_eq_true_eq] at *
  have ha := ab_spec (x - y)
  first
  | (exfalso; omega)
  | (rw [show abI (x - y) = abI x + abI y by omega, show decide (x - y < 0) = false from decide_eq_false (by omega)]; first | done | rfl)
  | (rw [show abI (x - y) = abI x + abI y by omega, show decide (x - y < 0) = !(abI x + abI y == 0) from by (rw [Bool.eq_iff_iff]; simp only [decide_eq_true_eq, Bool.not_eq_true', beq_eq_false_iff_ne, ne_eq]; omega)]; first | done | rfl)
  | (rw [show abI (x - y) = abI x - abI y by omega, show decide (x - y < 0) = false from decide_eq_false (by omega)]; first | done | rfl)
  | (rw [show abI (x - y) = abI x - abI y by omega, show decide (x - y < 0) = !(abI x - abI y == 0) from by (rw [Bool.eq_iff_iff]; simp only [decide_eq_true_eq, Bool.not_eq_true', beq_eq_false_iff_ne, ne_eq]; omega)]; first | done | rfl)
  | (rw [show abI (x - y) = abI y - abI x by omega, show decide (x - y < 0) = false from decide_eq_false (by omega)]; first | done | rfl)
  | (rw [show abI (x - y) = abI y - abI x by omega, show decide (x - y < 0) = !(abI y - abI x == 0) from by (rw [Bool.eq_iff_iff]; simp only [decide_eq_true_eq, Bool.not_eq_true', beq_eq_false_iff_ne, ne_eq]; omega)]; first | done | rfl)
  | skip
theorem nvg_baddT : nvc_baddT.Good Tryd.prog syG (nvE [] [] [] []) := good_of_walk (Γ := ⟨[nvc_bplus, nvc_bless, nvc_bsize, nvc_bzero], syG, [], [], []⟩) (ρ := nvE [] [] [] []) sym baddT_w rfl (fun _ _ _ _ => (ok_cons (Con.Good.env nvg_bplus _ _ _ _) (ok_cons (Con.Good.env nvg_bless _ _ _ _) (ok_cons (Con.Good.env nvg_bsize _ _ _ _) (ok_cons (Con.Good.env nvg_bzero _ _ _ _) ok_nil))))) baddT_h
def baddB_tree : Tree :=
 (.br (.bapp 3 (.cons z0_ .nil))
 (.need xvformsk50_
 (.ret xvformsk11_))
 (.need xvformsk23_
 (.br xvformsk36_
 (.ret xvformsk15_)
 (.need xvformsk52_
 (.ret xvformsk13_)))))
abbrev nvc_baddB : Con := ⟨14, [xvformsk0_, (.agg (.cons (.bool (.tt true)) (.cons (.int .u64 (.iapp 39 (.cons (.int .i64 (.iapp 40 (.cons z1_ .nil))) (.cons (.int .i64 (.lit 0)) .nil)))) (.cons (.int .u64 (.iapp 39 (.cons (.int .i64 (.iapp 40 (.cons z1_ .nil))) (.cons (.int .i64 (.lit 1)) .nil)))) (.cons (.int .u64 (.iapp 39 (.cons (.int .i64 (.iapp 40 (.cons z1_ .nil))) (.cons (.int .i64 (.lit 2)) .nil)))) (.cons (.int .u64 (.iapp 39 (.cons (.int .i64 (.iapp 40 (.cons z1_ .nil))) (.cons (.int .i64 (.lit 3)) .nil)))) (.cons (.int .u64 (.iapp 39 (.cons (.int .i64 (.iapp 40 (.cons z1_ .nil))) (.cons (.int .i64 (.lit 4)) .nil)))) (.cons (.int .u64 (.iapp 39 (.cons (.int .i64 (.iapp 40 (.cons z1_ .nil))) (.cons (.int .i64 (.lit 5)) .nil)))) (.cons (.int .u64 (.iapp 39 (.cons (.int .i64 (.iapp 40 (.cons z1_ .nil))) (.cons (.int .i64 (.lit 6)) .nil)))) (.cons (.int .u64 (.iapp 39 (.cons (.int .i64 (.iapp 40 (.cons z1_ .nil))) (.cons (.int .i64 (.lit 7)) .nil)))) .nil))))))))))], (an_ xvformsk20_ (an_ (le_ (.lit 1) v1_) (le_ v1_ (.lit 1569275433846670190958947355801916604025588861116008628224)))), xvformsk5_, ⟨2, 0, 0, 0⟩, none⟩
theorem baddB_w : walk Tryd.prog 142 ⟨[nvc_bplus, nvc_bless, nvc_bsize, nvc_bzero], syG, [], [], []⟩ [] .v nvc_baddB nvc_baddB.n 3000 = some baddB_tree := by kernel_rfl
theorem baddB_h (x y : Int) : Hyp_ nvc_baddB baddB_tree (nvE [x, y] [] [] []) := by
 intro hc hty
 simp only [nvc_baddB, Sy.holds, nvE, denV, denI, denB, denL, I2.den, VOp.den, List.getD_cons_zero, List.getD_cons_succ, Cst.den, syso, syse, syio, sybo, B2.ofInts, B2.denI, B2.denB, if_true, Bool.false_eq_true, if_false, Nat.div_one, Nat.mul_one, Nat.add_zero] at hc
 simp only [nvc_baddB, patsTyp, patTyp, patTypL, nvE, denV, denL, List.getD_cons_zero, List.getD_cons_succ, and_true, true_and] at hty
 unfold baddB_tree
 simp only [nvc_baddB, Tree.holds, Sy.holds, nvE, denV, denI, denB, denL, I2.den, VOp.den, List.getD_cons_zero, List.getD_cons_succ, Cst.den, syso, syse, syio, sybo, nvi_dg, nvi_ab, nvi_szr, nvb_ng, B2.ofInts, B2.denI, B2.denB, if_true, Bool.false_eq_true, if_false, Nat.div_one, Nat.mul_one, Nat.add_zero]
 have zs := sizeR_spec (abI x) (abI y)
 have ax := ab_spec x
 have ay := ab_spec y
 refine ⟨fun h0 => ?_, fun h0 => ?_⟩
 refine ⟨?_, fun h1 => ?_⟩
 ·
  omega
 refine ?a0; rotate_left
 refine ⟨?_, fun h2 => ?_⟩
 ·
  omega
 refine ⟨fun h3 => ?_, fun h3 => ?_⟩
 refine ?a1; rotate_left
 refine ⟨?_, fun h4 => ?_⟩
 ·
  omega
 refine ?a2; rotate_left
 case a0 | a1 | a2 =>
  try simp only [decide_eq_true_eq] at *
  have ha := ab_spec (x - y)
  first
  | (exfalso; omega)
  | (rw [show abI (x - y) = abI x + abI y by omega, show decide (x - y < 0) = false from decide_eq_false (by omega)]; first | done | rfl)
  | (rw [show abI (x - y) = abI x + abI y by omega, show decide (x - y < 0) = !(abI x + abI y == 0) from by (rw [Bool.eq_iff_iff]; simp only [decide_eq_true_eq, Bool.not_eq_true', beq_eq_false_iff_ne, ne_eq]; omega)]; first | done | rfl)
  | (rw [show abI (x - y) = abI x - abI y by omega, show decide (x - y < 0) = false from decide_eq_false (by omega)]; first | done | rfl)
  | (rw [show abI (x - y) = abI x - abI y by omega, show decide (x - y < 0) = !(abI x - abI y == 0) from by (rw [Bool.eq_iff_iff]; simp only [decide_eq_true_eq, Bool.not_eq_true', beq_eq_false_iff_ne, ne_eq]; omega)]; first | done | rfl)
  | (rw [show abI (x - y) = abI y - abI x by omega, show decide (x - y < 0) = false from decide_eq_false (by omega)]; first | done | rfl)
  | (rw [show abI (x - y) = abI y - abI x by omega, show decide (x - y < 0) = !(abI y - abI x == 0) from by (rw [Bool.eq_iff_iff]; simp only [decide_eq_true_eq, Bool.not_eq_true', beq_eq_false_iff_ne, ne_eq]; omega)]; first | done | rfl)
  | skip
theorem nvg_baddB : nvc_baddB.Good Tryd.prog syG (nvE [] [] [] []) := good_of_walk (Γ := ⟨[nvc_bplus, nvc_bless, nvc_bsize, nvc_bzero], syG, [], [], []⟩) (ρ := nvE [] [] [] []) sym baddB_w rfl (fun _ _ _ _ => (ok_cons (Con.Good.env nvg_bplus _ _ _ _) (ok_cons (Con.Good.env nvg_bless _ _ _ _) (ok_cons (Con.Good.env nvg_bsize _ _ _ _) (ok_cons (Con.Good.env nvg_bzero _ _ _ _) ok_nil))))) baddB_h
def nearer_tree : Tree :=
 (.need (an_ (le_ lm_ v2_) (le_ v2_ lM_))
 (.br (.not (.bapp 3 (.cons z2_ .nil)))
 (.need (an_ (le_ (.lit (-1569275433846670190958947355801916604025588861116008628224)) v2_) (le_ v2_ (.lit 1569275433846670190958947355801916604025588861116008628224)))
 (.need (an_ xvformsk20_ (an_ (le_ (.lit 0) v2_) (le_ v2_ (.lit 1569275433846670190958947355801916604025588861116008628224))))
 (.need (an_ xvformsk38_ (an_ (le_ (.lit 0) v2_) (le_ v2_ (.lit 1569275433846670190958947355801916604025588861116008628224))))
 (.need xvformsk32_
 (.br (lt_ xvformsk31_ (.lit 0))
 (.ret (.bool (.tt true)))
 (.br (eq_ xvformsk31_ (.lit 0))
 (.ret (.bool (.bvar 0)))
 (.ret (.bool (.tt false)))))))))
 (.need (an_ xvformsk20_ (an_ (le_ (.lit (-1569275433846670190958947355801916604025588861116008628224)) v2_) (le_ v2_ (.lit 0))))
 (.need (an_ xvformsk38_ (an_ (le_ (.lit (-1569275433846670190958947355801916604025588861116008628224)) v2_) (le_ v2_ (.lit 0))))
 (.need xvformsk32_
 (.br (lt_ xvformsk31_ (.lit 0))
 (.ret (.bool (.tt true)))
 (.br (eq_ xvformsk31_ (.lit 0))
 (.ret (.bool (.bvar 0)))
 (.ret (.bool (.tt false))))))))))
abbrev nvc_nearer : Con := ⟨126, [xvformsk0_, xvformsk7_, z2_, (.bool (.bvar 0))], (an_ (le_ (.lit (-1208925819614629174706176)) v0_) (an_ (le_ v0_ (.lit 1208925819614629174706176)) (an_ (le_ (.lit (-1208925819614629174706176)) v1_) (an_ (le_ v1_ (.lit 1208925819614629174706176)) (an_ (le_ lm_ v2_) (le_ v2_ lM_)))))), (.bool (.bapp 4 (.cons z0_ (.cons z1_ (.cons z2_ (.cons (.bool (.bvar 0)) .nil)))))), ⟨3, 1, 0, 0⟩, none⟩
theorem nearer_w : walk Tryd.prog 142 ⟨[nvc_bint, nvc_bzeroN, nvc_baddF, nvc_baddT, nvc_bsize], syG, [], [], []⟩ [] .v nvc_nearer nvc_nearer.n 3000 = some nearer_tree := by kernel_rfl
theorem nearer_h (x y t : Int) (b : Bool) : Hyp_ nvc_nearer nearer_tree (nvE [x, y, t] [b] [] []) := by
 intro hc hty
 simp only [nvc_nearer, Sy.holds, nvE, denV, denI, denB, denL, I2.den, VOp.den, List.getD_cons_zero, List.getD_cons_succ, Cst.den, syso, syse, syio, sybo, B2.ofInts, B2.denI, B2.denB, if_true, Bool.false_eq_true, if_false, Nat.div_one, Nat.mul_one, Nat.add_zero] at hc
 simp only [nvc_nearer, patsTyp, patTyp, patTypL, nvE, denV, denL, List.getD_cons_zero, List.getD_cons_succ, and_true, true_and] at hty
 unfold nearer_tree
 simp only [nvc_nearer, Tree.holds, Sy.holds, nvE, denV, denI, denB, denL, I2.den, VOp.den, List.getD_cons_zero, List.getD_cons_succ, Cst.den, syso, syse, syio, sybo, nvi_ab, nvi_szr, nvb_ng, nvb_nq, B2.ofInts, B2.denI, B2.denB, if_true, Bool.false_eq_true, if_false, Nat.div_one, Nat.mul_one, Nat.add_zero]
 have zs := sizeR_spec (abI (x - t)) (abI (y - t))
 have ax := ab_spec (x - t)
 have ay := ab_spec (y - t)
 refine ⟨?_, fun h0 => ?_⟩
 refine ?a0; rotate_left
 refine ⟨fun h1 => ?_, fun h1 => ?_⟩
 refine ⟨?_, fun h2 => ?_⟩
 refine ?a1; rotate_left
 refine ⟨?_, fun h3 => ?_⟩
 refine ?a2; rotate_left
 refine ⟨?_, fun h4 => ?_⟩
 refine ?a3; rotate_left
 refine ⟨?_, fun h5 => ?_⟩
 refine ?a4; rotate_left
 refine ⟨fun h6 => ?_, fun h6 => ?_⟩
 refine ?a5; rotate_left
 refine ⟨fun h7 => ?_, fun h7 => ?_⟩
 refine ?a6; rotate_left
 refine ?a7; rotate_left
 refine ⟨?_, fun h8 => ?_⟩
 refine ?a8; rotate_left
 refine ⟨?_, fun h9 => ?_⟩
 refine ?a9; rotate_left
 refine ⟨?_, fun h10 => ?_⟩
 refine ?a10; rotate_left
 refine ⟨fun h11 => ?_, fun h11 => ?_⟩
 refine ?a11; rotate_left
 refine ⟨fun h12 => ?_, fun h12 => ?_⟩
 refine ?a12; rotate_left
 refine ?a13; rotate_left
 case a0 | a1 | a2 | a3 | a4 | a8 | a9 | a10 =>
  first
  | exact True.intro
  | (simp only [decide_eq_true_eq] at *; omega)
  | omega
  | skip
 case a5 | a6 | a7 | a11 | a12 | a13 =>
  first
  | exact True.intro
  | (exfalso; omega)
  | (rcases nq_spec x y t b with ⟨e, q⟩ | ⟨e, q⟩ <;> rw [e] <;> cases b <;> first | done | rfl | (exfalso; simp only [Bool.false_eq_true, Bool.true_eq_false, and_false, or_false, and_true, reduceCtorEq] at q; omega))
  | skip
theorem nvg_nearer : nvc_nearer.Good Tryd.prog syG (nvE [] [] [] []) := good_of_walk (Γ := ⟨[nvc_bint, nvc_bzeroN, nvc_baddF, nvc_baddT, nvc_bsize], syG, [], [], []⟩) (ρ := nvE [] [] [] []) sym nearer_w rfl (fun _ _ _ _ => (ok_cons (Con.Good.env nvg_bint _ _ _ _) (ok_cons (Con.Good.env nvg_bzeroN _ _ _ _) (ok_cons (Con.Good.env nvg_baddF _ _ _ _) (ok_cons (Con.Good.env nvg_baddT _ _ _ _) (ok_cons (Con.Good.env nvg_bsize _ _ _ _) ok_nil)))))) nearer_h
def rtime_tree : Tree :=
 (.br (lt_ (.lit (-4611686018427387904)) v0_)
 (.ret (.bool (lt_ v0_ (.lit 4611686018427387904))))
 (.ret (.bool (.tt false))))
abbrev nvc_rtime : Con := ⟨122, [z0_], (.tt true), (.bool xvformsk35_), ⟨1, 0, 0, 0⟩, none⟩
theorem rtime_w : walk Tryd.prog 142 ⟨[], syG, [], [], []⟩ [] .v nvc_rtime nvc_rtime.n 3000 = some rtime_tree := by kernel_rfl
theorem rtime_h (t : Int) : Hyp_ nvc_rtime rtime_tree (nvE [t] [] [] []) := by
 intro hc hty
 simp only [nvc_rtime, Sy.holds, nvE, denV, denI, denB, denL, I2.den, VOp.den, List.getD_cons_zero, List.getD_cons_succ, Cst.den, syso, syse, syio, sybo, B2.ofInts, B2.denI, B2.denB, if_true, Bool.false_eq_true, if_false, Nat.div_one, Nat.mul_one, Nat.add_zero] at hc
 simp only [nvc_rtime, patsTyp, patTyp, patTypL, nvE, denV, denL, List.getD_cons_zero, List.getD_cons_succ, and_true, true_and] at hty
 unfold rtime_tree
 simp only [nvc_rtime, Tree.holds, Sy.holds, nvE, denV, denI, denB, denL, I2.den, VOp.den, List.getD_cons_zero, List.getD_cons_succ, Cst.den, syso, syse, syio, sybo, B2.ofInts, B2.denI, B2.denB, if_true, Bool.false_eq_true, if_false, Nat.div_one, Nat.mul_one, Nat.add_zero]
 refine ⟨fun h0 => ?_, fun h0 => ?_⟩
 refine ?a0; rotate_left
 refine ?a1; rotate_left
 case a0 | a1 =>
  refine congrArg Value.bool ?_
  first
  | rfl
  | (refine Bool.eq_iff_iff.2 ?_; simp only [decide_eq_true_eq, Bool.and_eq_true, Bool.false_eq_true, false_iff]; omega)
  | skip
theorem nvg_rtime : nvc_rtime.Good Tryd.prog syG (nvE [] [] [] []) := good_of_walk (Γ := ⟨[], syG, [], [], []⟩) (ρ := nvE [] [] [] []) sym rtime_w rfl (fun _ _ _ _ => ok_nil) rtime_h
def rdivs_tree : Tree :=
 (.br (lt_ v0_ (.lit 0))
 (.br (.not (eq_ (wr_ (ml_ xvformsk54_ (.lit 1000000000))) v0_))
 (.ret (.tup (.cons (.int .i64 (wr_ (sb_ xvformsk54_ (.lit 1)))) (.cons (.int .i64 (wr_ (sb_ v0_ (wr_ (ml_ (wr_ (sb_ xvformsk54_ (.lit 1))) (.lit 1000000000)))))) .nil))))
 (.ret (.tup (.cons (.int .i64 xvformsk54_) (.cons (.int .i64 (wr_ (sb_ v0_ (wr_ (ml_ xvformsk54_ (.lit 1000000000)))))) .nil)))))
 (.ret (.tup (.cons (.int .i64 xvformsk54_) (.cons (.int .i64 (wr_ (sb_ v0_ (wr_ (ml_ xvformsk54_ (.lit 1000000000)))))) .nil)))))
abbrev nvc_rdivs : Con := ⟨123, [z0_, (.int .i64 (.lit 1000000000))], xvformsk35_, (.tup (.cons (.int .i64 (.iapp 36 (.cons z0_ (.cons (.int .i64 (.lit 1000000000)) .nil)))) (.cons (.int .i64 xvformsk30_) .nil))), ⟨1, 0, 0, 0⟩, none⟩
theorem rdivs_w : walk Tryd.prog 142 ⟨[], syG, [], [], []⟩ [] .v nvc_rdivs nvc_rdivs.n 3000 = some rdivs_tree := by kernel_rfl
theorem rdivs_h (a : Int) : Hyp_ nvc_rdivs rdivs_tree (nvE [a] [] [] []) := by
 intro hc hty
 simp only [nvc_rdivs, Sy.holds, nvE, denV, denI, denB, denL, I2.den, VOp.den, List.getD_cons_zero, List.getD_cons_succ, Cst.den, syso, syse, syio, sybo, B2.ofInts, B2.denI, B2.denB, if_true, Bool.false_eq_true, if_false, Nat.div_one, Nat.mul_one, Nat.add_zero] at hc
 simp only [nvc_rdivs, patsTyp, patTyp, patTypL, nvE, denV, denL, List.getD_cons_zero, List.getD_cons_succ, and_true, true_and] at hty
 unfold rdivs_tree
 simp only [nvc_rdivs, Tree.holds, Sy.holds, nvE, denV, denI, denB, denL, I2.den, VOp.den, List.getD_cons_zero, List.getD_cons_succ, Cst.den, syso, syse, syio, sybo, nvi_dv, nvi_dw, B2.ofInts, B2.denI, B2.denB, if_true, Bool.false_eq_true, if_false, Nat.div_one, Nat.mul_one, Nat.add_zero]
 have e1 := tdv_spec a (show (0 : Int) < 1000000000 by decide)
 refine ⟨fun h0 => ?_, fun h0 => ?_⟩
 have wf0 := wr_i64 (Int.tdiv a 1000000000)
 have wf1 := wr_i64 ((IntKind.wrap .i64 (Int.tdiv a 1000000000)) * 1000000000)
 refine ⟨fun h1 => ?_, fun h1 => ?_⟩
 have wf2 := wr_i64 ((IntKind.wrap .i64 (Int.tdiv a 1000000000)) - 1)
 have wf3 := wr_i64 ((IntKind.wrap .i64 ((IntKind.wrap .i64 (Int.tdiv a 1000000000)) - 1)) * 1000000000)
 have wf4 := wr_i64 (a - (IntKind.wrap .i64 ((IntKind.wrap .i64 ((IntKind.wrap .i64 (Int.tdiv a 1000000000)) - 1)) * 1000000000)))
 refine ?a0; rotate_left
 have wf5 := wr_i64 (a - (IntKind.wrap .i64 ((IntKind.wrap .i64 (Int.tdiv a 1000000000)) * 1000000000)))
 refine ?a1; rotate_left
 have wf6 := wr_i64 (Int.tdiv a 1000000000)
 have wf7 := wr_i64 ((IntKind.wrap .i64 (Int.tdiv a 1000000000)) * 1000000000)
 have wf8 := wr_i64 (a - (IntKind.wrap .i64 ((IntKind.wrap .i64 (Int.tdiv a 1000000000)) * 1000000000)))
 refine ?a2; rotate_left
 case a0 | a1 | a2 =>
  first
  | (exfalso; omega)
  | (have q1 : IntKind.wrap .i64 (a.tdiv 1000000000) = a / 1000000000 := by omega
     rw [q1, show IntKind.wrap .i64 (a / 1000000000 * 1000000000) = a / 1000000000 * 1000000000 by (have := wr_i64 (a / 1000000000 * 1000000000); omega), show IntKind.wrap .i64 (a - a / 1000000000 * 1000000000) = a % 1000000000 by (have := wr_i64 (a - a / 1000000000 * 1000000000); omega)]
     first | done | rfl)
  | (have q1 : IntKind.wrap .i64 (IntKind.wrap .i64 (a.tdiv 1000000000) - 1) = a / 1000000000 := by omega
     rw [q1, show IntKind.wrap .i64 (a / 1000000000 * 1000000000) = a / 1000000000 * 1000000000 by (have := wr_i64 (a / 1000000000 * 1000000000); omega), show IntKind.wrap .i64 (a - a / 1000000000 * 1000000000) = a % 1000000000 by (have := wr_i64 (a - a / 1000000000 * 1000000000); omega)]
     first | done | rfl)
  | skip
theorem nvg_rdivs : nvc_rdivs.Good Tryd.prog syG (nvE [] [] [] []) := good_of_walk (Γ := ⟨[], syG, [], [], []⟩) (ρ := nvE [] [] [] []) sym rdivs_w rfl (fun _ _ _ _ => ok_nil) rdivs_h
def rdivr_tree : Tree :=
 (.br (lt_ v0_ (.lit 0))
 (.br (.not (eq_ (wr_ (ml_ xvformsk53_ (.lit 4294967296))) v0_))
 (.ret (.tup (.cons (.int .i64 (wr_ (sb_ xvformsk53_ (.lit 1)))) (.cons (.int .i64 (wr_ (sb_ v0_ (wr_ (ml_ (wr_ (sb_ xvformsk53_ (.lit 1))) (.lit 4294967296)))))) .nil))))
 (.ret (.tup (.cons (.int .i64 xvformsk53_) (.cons (.int .i64 (wr_ (sb_ v0_ (wr_ (ml_ xvformsk53_ (.lit 4294967296)))))) .nil)))))
 (.ret (.tup (.cons (.int .i64 xvformsk53_) (.cons (.int .i64 (wr_ (sb_ v0_ (wr_ (ml_ xvformsk53_ (.lit 4294967296)))))) .nil)))))
abbrev nvc_rdivr : Con := ⟨123, [z0_, (.int .i64 (.lit 4294967296))], xvformsk35_, (.tup (.cons (.int .i64 (.iapp 36 (.cons z0_ (.cons (.int .i64 (.lit 4294967296)) .nil)))) (.cons (.int .i64 (.iapp 37 (.cons z0_ (.cons (.int .i64 (.lit 4294967296)) .nil)))) .nil))), ⟨1, 0, 0, 0⟩, none⟩
theorem rdivr_w : walk Tryd.prog 142 ⟨[], syG, [], [], []⟩ [] .v nvc_rdivr nvc_rdivr.n 3000 = some rdivr_tree := by kernel_rfl
theorem rdivr_h (a : Int) : Hyp_ nvc_rdivr rdivr_tree (nvE [a] [] [] []) := by
 intro hc hty
 simp only [nvc_rdivr, Sy.holds, nvE, denV, denI, denB, denL, I2.den, VOp.den, List.getD_cons_zero, List.getD_cons_succ, Cst.den, syso, syse, syio, sybo, B2.ofInts, B2.denI, B2.denB, if_true, Bool.false_eq_true, if_false, Nat.div_one, Nat.mul_one, Nat.add_zero] at hc
 simp only [nvc_rdivr, patsTyp, patTyp, patTypL, nvE, denV, denL, List.getD_cons_zero, List.getD_cons_succ, and_true, true_and] at hty
 unfold rdivr_tree
 simp only [nvc_rdivr, Tree.holds, Sy.holds, nvE, denV, denI, denB, denL, I2.den, VOp.den, List.getD_cons_zero, List.getD_cons_succ, Cst.den, syso, syse, syio, sybo, nvi_dv, nvi_dw, B2.ofInts, B2.denI, B2.denB, if_true, Bool.false_eq_true, if_false, Nat.div_one, Nat.mul_one, Nat.add_zero]
 have e1 := tdv_spec a (show (0 : Int) < 4294967296 by decide)
 refine ⟨fun h0 => ?_, fun h0 => ?_⟩
 have wf0 := wr_i64 (Int.tdiv a 4294967296)
 have wf1 := wr_i64 ((IntKind.wrap .i64 (Int.tdiv a 4294967296)) * 4294967296)
 refine ⟨fun h1 => ?_, fun h1 => ?_⟩
 have wf2 := wr_i64 ((IntKind.wrap .i64 (Int.tdiv a 4294967296)) - 1)
 have wf3 := wr_i64 ((IntKind.wrap .i64 ((IntKind.wrap .i64 (Int.tdiv a 4294967296)) - 1)) * 4294967296)
 have wf4 := wr_i64 (a - (IntKind.wrap .i64 ((IntKind.wrap .i64 ((IntKind.wrap .i64 (Int.tdiv a 4294967296)) - 1)) * 4294967296)))
 refine ?a0; rotate_left
 have wf5 := wr_i64 (a - (IntKind.wrap .i64 ((IntKind.wrap .i64 (Int.tdiv a 4294967296)) * 4294967296)))
 refine ?a1; rotate_left
 have wf6 := wr_i64 (Int.tdiv a 4294967296)
 have wf7 := wr_i64 ((IntKind.wrap .i64 (Int.tdiv a 4294967296)) * 4294967296)
 have wf8 := wr_i64 (a - (IntKind.wrap .i64 ((IntKind.wrap .i64 (Int.tdiv a 4294967296)) * 4294967296)))
 refine ?a2; rotate_left
 case a0 | a1 | a2 =>
  first
  | (exfalso; omega)
  | (have q1 : IntKind.wrap .i64 (a.tdiv 4294967296) = a / 4294967296 := by omega
     rw [q1, show IntKind.wrap .i64 (a / 4294967296 * 4294967296) = a / 4294967296 * 4294967296 by (have := wr_i64 (a / 4294967296 * 4294967296); omega), show IntKind.wrap .i64 (a - a / 4294967296 * 4294967296) = a % 4294967296 by (have := wr_i64 (a - a / 4294967296 * 4294967296); omega)]
     first | done | rfl)
  | (have q1 : IntKind.wrap .i64 (IntKind.wrap .i64 (a.tdiv 4294967296) - 1) = a / 4294967296 := by omega
     rw [q1, show IntKind.wrap .i64 (a / 4294967296 * 4294967296) = a / 4294967296 * 4294967296 by (have := wr_i64 (a / 4294967296 * 4294967296); omega), show IntKind.wrap .i64 (a - a / 4294967296 * 4294967296) = a % 4294967296 by (have := wr_i64 (a - a / 4294967296 * 4294967296); omega)]
     first | done | rfl)
  | skip
theorem nvg_rdivr : nvc_rdivr.Good Tryd.prog syG (nvE [] [] [] []) := good_of_walk (Γ := ⟨[], syG, [], [], []⟩) (ρ := nvE [] [] [] []) sym rdivr_w rfl (fun _ _ _ _ => ok_nil) rdivr_h
abbrev nvc_rmdiv : Con := ⟨124, [z0_, z1_, z2_], (an_ (an_ (le_ lm_ v0_) (le_ v0_ lM_)) (an_ (an_ (le_ lm_ v1_) (le_ v1_ lM_)) (an_ (le_ lm_ v2_) (le_ v2_ lM_)))), (.tup (.cons (.int .i64 (.iapp 6 (.cons z0_ (.cons z1_ (.cons z2_ .nil))))) (.cons (.int .i64 (.iapp 7 (.cons z0_ (.cons z1_ (.cons z2_ .nil))))) .nil))), ⟨3, 0, 0, 0⟩, none⟩
theorem nvg_rmdiv : nvc_rmdiv.Good Tryd.prog syG (nvE [] [] [] []) := good_flat rfl rfl rfl (by
 intro a b c hc β ok w hG
 have hc' := hc
 simp only [Tree.holds, Sy.holds, AllN, Env.more, nvE, List.cons_append, List.nil_append, List.append_nil, denV, denI, denB, denL, I2.den, VOp.den, List.getD_cons_zero, List.getD_cons_succ, Cst.den, syso, syse, syio, sybo, nvi_mdn, nvi_mde, List.map_nil, List.map_cons, B2.ofInts, B2.denI, B2.denB, if_true, Bool.false_eq_true, if_false, Nat.div_one, Nat.mul_one, Nat.add_zero, holds] at hc
 exact rmuldiv a b c w hc.1 hc.2.1 hc.2.2)
def stampA_tree : Tree :=
 (.need (an_ (le_ lm_ v0_) (le_ v0_ lM_))
 (.br (.not xvformsk35_)
 (.ret (.tup (.cons (.int .u64 (.lit 0)) (.cons (.iface 142 (.int .i64 (.lit 1))) .nil))))
 (.need (an_ (le_ lm_ v0_) (le_ v0_ lM_))
 (.need (an_ (le_ lm_ xvformsk30_) (le_ xvformsk30_ lM_))
 (.br (.not (eq_ (.iapp 7 (.cons (.int .i64 xvformsk30_) (.cons (.int .i64 (.lit 4294967296)) (.cons (.int .i64 (.lit 1000000000)) .nil)))) (.lit 0)))
 (.ret (.tup (.cons (.int .u64 (.lit 0)) (.cons (.err (.iapp 7 (.cons (.int .i64 xvformsk30_) (.cons (.int .i64 (.lit 4294967296)) (.cons (.int .i64 (.lit 1000000000)) .nil))))) .nil))))
 (.ret (.tup (.cons (.int .u64 (.i2 (.bits .or .u64) (.i2 (.shl .u64) (.wrap .u64 (.wrap .u32 xvformsk43_)) (.lit 32)) (.wrap .u64 (.iapp 6 (.cons (.int .i64 xvformsk30_) (.cons (.int .i64 (.lit 4294967296)) (.cons (.int .i64 (.lit 1000000000)) .nil))))))) (.cons (.cst .nilI) .nil)))))))))
abbrev nvc_stampA : Con := ⟨52, [z0_], (an_ (le_ lm_ v0_) (le_ v0_ lM_)), (.tup (.cons (.int .u64 (.iapp 35 (.cons (.int .i64 (.iapp 44 (.cons z0_ .nil))) (.cons (.int .i64 (.iapp 26 (.cons z0_ .nil))) .nil)))) (.cons (.err (.iapp 44 (.cons z0_ .nil))) .nil))), ⟨1, 0, 0, 0⟩, none⟩
theorem stampA_w : walk Tryd.prog 142 ⟨[ntc_istime, ntc_divs, yac_mdiv], syG, [], [], []⟩ [] .v nvc_stampA nvc_stampA.n 3000 = some stampA_tree := by kernel_rfl
theorem stampA_h (t : Int) : Hyp_ nvc_stampA stampA_tree (nvE [t] [] [] []) := by
 intro hc hty
 simp only [nvc_stampA, Sy.holds, nvE, denV, denI, denB, denL, I2.den, VOp.den, List.getD_cons_zero, List.getD_cons_succ, Cst.den, syso, syse, syio, sybo, B2.ofInts, B2.denI, B2.denB, if_true, Bool.false_eq_true, if_false, Nat.div_one, Nat.mul_one, Nat.add_zero] at hc
 simp only [nvc_stampA, patsTyp, patTyp, patTypL, nvE, denV, denL, List.getD_cons_zero, List.getD_cons_succ, and_true, true_and] at hty
 unfold stampA_tree
 simp only [nvc_stampA, Tree.holds, Sy.holds, nvE, denV, denI, denB, denL, I2.den, VOp.den, List.getD_cons_zero, List.getD_cons_succ, Cst.den, syso, syse, syio, sybo, nvi_mdn, nvi_mde, nvi_stv, nvi_gd, nvi_dv, nvi_dw, nvi_tpe, B2.ofInts, B2.denI, B2.denB, if_true, Bool.false_eq_true, if_false, Nat.div_one, Nat.mul_one, Nat.add_zero]
 have hT := tp_spec t
 have ms : mdN (t % 1000000000) 4294967296 1000000000 = (t % 1000000000) * 4294967296 / 1000000000 ∧ mdE (t % 1000000000) 4294967296 1000000000 = 0 := by (have hin : InR (t % 1000000000 * 4294967296 / 1000000000) := (by (constructor <;> omega)); unfold mdN mdE; rw [if_neg (show ¬ (1000000000 : Int) < 1 by decide), if_pos hin, if_neg (show ¬ (1000000000 : Int) < 1 by decide), if_pos hin]; exact ⟨rfl, rfl⟩)
 have w1 := wr_i64 (t / 1000000000 + 2208988800)
 have w2 : IntKind.wrap .u32 (t / 1000000000 + 2208988800) = (t / 1000000000 + 2208988800) % 4294967296 := IntKind.wrap_u32 _
 refine ⟨?_, fun h0 => ?_⟩
 ·
  omega
 refine ⟨fun h1 => ?_, fun h1 => ?_⟩
 refine ?a0; rotate_left
 refine ⟨?_, fun h2 => ?_⟩
 ·
  omega
 refine ⟨?_, fun h3 => ?_⟩
 ·
  omega
 refine ⟨fun h4 => ?_, fun h4 => ?_⟩
 refine ?a1; rotate_left
 refine ?a2; rotate_left
 case a0 | a1 | a2 =>
  first
  | (exfalso; omega)
  | (exfalso; rw [ms.2] at *; omega)
  | (have e1 : tpE t = 1 := by omega
     rw [e1, gn_n (by decide)]
     first | done | rfl)
  | (have e0 : tpE t = 0 := by omega
     rw [e0, gn_y rfl]
     rw [show IntKind.wrap .i64 (t / 1000000000 + 2208988800) = t / 1000000000 + 2208988800 by omega, w2, ms.1]
     have w3 := wr_u64 ((t / 1000000000 + 2208988800) % 4294967296)
     have w4 := wr_u64 (t % 1000000000 * 4294967296 / 1000000000)
     rw [show IntKind.wrap .u64 ((t / 1000000000 + 2208988800) % 4294967296) = (t / 1000000000 + 2208988800) % 4294967296 by omega, show IntKind.wrap .u64 (t % 1000000000 * 4294967296 / 1000000000) = t % 1000000000 * 4294967296 / 1000000000 by omega, or32 (by omega) (by omega) (by omega) (by omega)]
     rfl)
  | skip
theorem nvg_stampA : nvc_stampA.Good Tryd.prog syG (nvE [] [] [] []) := good_of_walk (Γ := ⟨[ntc_istime, ntc_divs, yac_mdiv], syG, [], [], []⟩) (ρ := nvE [] [] [] []) sym stampA_w rfl (fun _ _ _ _ => (ok_cons (Con.Good.env (Con.Good.up (Con.Good.up ntg_istime nuup rfl) nvup rfl) _ _ _ _) (ok_cons (Con.Good.env (Con.Good.up (Con.Good.up ntg_divs nuup rfl) nvup rfl) _ _ _ _) (ok_cons (Con.Good.env (Con.Good.up (Con.Good.up (Con.Good.up yag_mdiv ntup rfl) nuup rfl) nvup rfl) _ _ _ _) ok_nil)))) stampA_h
def rstampA_tree : Tree :=
 (.br (.not xvformsk35_)
 (.ret (.tup (.cons (.int .u64 (.lit 0)) (.cons (.int .i64 (.lit 1)) .nil))))
 (.need xvformsk35_
 (.need (an_ (le_ lm_ xvformsk30_) (le_ xvformsk30_ lM_))
 (.need (an_ (lt_ (.lit (-4611686018427387904)) xvformsk43_) (lt_ xvformsk43_ (.lit 4611686018427387904)))
 (.ret (.tup (.cons (.int .u64 (.wrap .u64 (ad_ (.wrap .u64 (ml_ (.wrap .u64 (.iapp 37 (.cons (.int .i64 xvformsk43_) (.cons (.int .i64 (.lit 4294967296)) .nil)))) (.lit 4294967296))) (.wrap .u64 (.iapp 6 (.cons (.int .i64 xvformsk30_) (.cons (.int .i64 (.lit 4294967296)) (.cons (.int .i64 (.lit 1000000000)) .nil)))))))) (.cons (.int .i64 (.lit 0)) .nil))))))))
abbrev nvc_rstampA : Con := ⟨53, [z0_], (an_ (le_ lm_ v0_) (le_ v0_ lM_)), (.tup (.cons (.int .u64 (.iapp 35 (.cons (.int .i64 (.iapp 44 (.cons z0_ .nil))) (.cons (.int .i64 (.iapp 26 (.cons z0_ .nil))) .nil)))) (.cons (.int .i64 (.iapp 44 (.cons z0_ .nil))) .nil))), ⟨1, 0, 0, 0⟩, none⟩
theorem rstampA_w : walk Tryd.prog 142 ⟨[nvc_rtime, nvc_rdivs, nvc_rdivr, nvc_rmdiv], syG, [], [], []⟩ [] .v nvc_rstampA nvc_rstampA.n 3000 = some rstampA_tree := by kernel_rfl
theorem rstampA_h (t : Int) : Hyp_ nvc_rstampA rstampA_tree (nvE [t] [] [] []) := by
 intro hc hty
 simp only [nvc_rstampA, Sy.holds, nvE, denV, denI, denB, denL, I2.den, VOp.den, List.getD_cons_zero, List.getD_cons_succ, Cst.den, syso, syse, syio, sybo, B2.ofInts, B2.denI, B2.denB, if_true, Bool.false_eq_true, if_false, Nat.div_one, Nat.mul_one, Nat.add_zero] at hc
 simp only [nvc_rstampA, patsTyp, patTyp, patTypL, nvE, denV, denL, List.getD_cons_zero, List.getD_cons_succ, and_true, true_and] at hty
 unfold rstampA_tree
 simp only [nvc_rstampA, Tree.holds, Sy.holds, nvE, denV, denI, denB, denL, I2.den, VOp.den, List.getD_cons_zero, List.getD_cons_succ, Cst.den, syso, syse, syio, sybo, nvi_mdn, nvi_stv, nvi_gd, nvi_dv, nvi_dw, nvi_tpe, B2.ofInts, B2.denI, B2.denB, if_true, Bool.false_eq_true, if_false, Nat.div_one, Nat.mul_one, Nat.add_zero]
 have hT := tp_spec t
 have ms : mdN (t % 1000000000) 4294967296 1000000000 = (t % 1000000000) * 4294967296 / 1000000000 ∧ mdE (t % 1000000000) 4294967296 1000000000 = 0 := by (have hin : InR (t % 1000000000 * 4294967296 / 1000000000) := (by (constructor <;> omega)); unfold mdN mdE; rw [if_neg (show ¬ (1000000000 : Int) < 1 by decide), if_pos hin, if_neg (show ¬ (1000000000 : Int) < 1 by decide), if_pos hin]; exact ⟨rfl, rfl⟩)
 have w1 := wr_i64 (t / 1000000000 + 2208988800)
 have w2 : IntKind.wrap .u32 (t / 1000000000 + 2208988800) = (t / 1000000000 + 2208988800) % 4294967296 := IntKind.wrap_u32 _
 refine ⟨fun h0 => ?_, fun h0 => ?_⟩
 refine ?a0; rotate_left
 refine ⟨?_, fun h1 => ?_⟩
 ·
  omega
 refine ⟨?_, fun h2 => ?_⟩
 ·
  omega
 refine ⟨?_, fun h3 => ?_⟩
 ·
  omega
 refine ?a1; rotate_left
 case a0 | a1 =>
  first
  | (exfalso; omega)
  | (have e1 : tpE t = 1 := by omega
     rw [e1, gn_n (by decide)]
     first | done | rfl)
  | (have e0 : tpE t = 0 := by omega
     rw [e0, gn_y rfl, show IntKind.wrap .i64 (t / 1000000000 + 2208988800) = t / 1000000000 + 2208988800 by omega, ms.1]
     have w3 := wr_u64 ((t / 1000000000 + 2208988800) % 4294967296)
     have w4 := wr_u64 (t % 1000000000 * 4294967296 / 1000000000)
     rw [show IntKind.wrap .u64 ((t / 1000000000 + 2208988800) % 4294967296) = (t / 1000000000 + 2208988800) % 4294967296 by omega, show IntKind.wrap .u64 (t % 1000000000 * 4294967296 / 1000000000) = t % 1000000000 * 4294967296 / 1000000000 by omega]
     have w5 := wr_u64 ((t / 1000000000 + 2208988800) % 4294967296 * 4294967296)
     rw [show IntKind.wrap .u64 ((t / 1000000000 + 2208988800) % 4294967296 * 4294967296) = (t / 1000000000 + 2208988800) % 4294967296 * 4294967296 by omega]
     have w6 := wr_u64 ((t / 1000000000 + 2208988800) % 4294967296 * 4294967296 + t % 1000000000 * 4294967296 / 1000000000)
     rw [show IntKind.wrap .u64 ((t / 1000000000 + 2208988800) % 4294967296 * 4294967296 + t % 1000000000 * 4294967296 / 1000000000) = stV t by (unfold stV; omega)]
     first | done | rfl)
  | skip
theorem nvg_rstampA : nvc_rstampA.Good Tryd.prog syG (nvE [] [] [] []) := good_of_walk (Γ := ⟨[nvc_rtime, nvc_rdivs, nvc_rdivr, nvc_rmdiv], syG, [], [], []⟩) (ρ := nvE [] [] [] []) sym rstampA_w rfl (fun _ _ _ _ => (ok_cons (Con.Good.env nvg_rtime _ _ _ _) (ok_cons (Con.Good.env nvg_rdivs _ _ _ _) (ok_cons (Con.Good.env nvg_rdivr _ _ _ _) (ok_cons (Con.Good.env nvg_rmdiv _ _ _ _) ok_nil))))) rstampA_h
def nearV_tree : Tree :=
 (.need (an_ (le_ lm_ v1_) (le_ v1_ lM_))
 (.br (.not xvformsk34_)
 (.ret (.tup (.cons (.int .i64 (.lit 0)) (.cons (.iface 142 (.int .i64 (.lit 1))) .nil))))
 (.need (an_ (le_ (.lit 0) (wr_ (ml_ (wr_ (.wrap .u32 v0_)) (.lit 1000000000)))) (le_ (wr_ (ml_ (wr_ (.wrap .u32 v0_)) (.lit 1000000000))) lM_))
 (.need (an_ (le_ lm_ xvformsk44_) (le_ xvformsk44_ lM_))
 (.br (lt_ (.lit 2147483648000000000) xvformsk1_)
 (.need (an_ (le_ lm_ xvformsk47_) (le_ xvformsk47_ lM_))
 (.br (.not (an_ (lt_ (.lit (-4611686018427387904)) xvformsk47_) (lt_ xvformsk47_ (.lit 4611686018427387904))))
 (.ret (.tup (.cons (.int .i64 (.lit 0)) (.cons (.iface 142 (.int .i64 (.lit 2))) .nil))))
 (.ret (.tup (.cons (.int .i64 xvformsk47_) (.cons (.cst .nilI) .nil))))))
 (.need (an_ (le_ lm_ (wr_ (sb_ v1_ xvformsk1_))) (le_ (wr_ (sb_ v1_ xvformsk1_)) lM_))
 (.br (.not (an_ (lt_ (.lit (-4611686018427387904)) (wr_ (sb_ v1_ xvformsk1_))) (lt_ (wr_ (sb_ v1_ xvformsk1_)) (.lit 4611686018427387904))))
 (.ret (.tup (.cons (.int .i64 (.lit 0)) (.cons (.iface 142 (.int .i64 (.lit 2))) .nil))))
 (.ret (.tup (.cons (.int .i64 (wr_ (sb_ v1_ xvformsk1_))) (.cons (.cst .nilI) .nil)))))))))))
abbrev nvc_nearV : Con := ⟨54, [(.int .u64 v0_), z1_], (an_ xvformsk28_ xvformsk34_), (.tup (.cons (.int .i64 xvformsk25_) (.cons (.err xvformsk46_) .nil))), ⟨2, 0, 0, 0⟩, none⟩
theorem nearV_w : walk Tryd.prog 142 ⟨[ntc_istime, ntc_ceilr, ntc_divp], syG, [], [], []⟩ [] .v nvc_nearV nvc_nearV.n 3000 = some nearV_tree := by kernel_rfl
theorem nearV_h (s t : Int) : Hyp_ nvc_nearV nearV_tree (nvE [s, t] [] [] []) := by
 intro hc hty
 simp only [nvc_nearV, Sy.holds, nvE, denV, denI, denB, denL, I2.den, VOp.den, List.getD_cons_zero, List.getD_cons_succ, Cst.den, syso, syse, syio, sybo, B2.ofInts, B2.denI, B2.denB, if_true, Bool.false_eq_true, if_false, Nat.div_one, Nat.mul_one, Nat.add_zero] at hc
 simp only [nvc_nearV, patsTyp, patTyp, patTypL, nvE, denV, denL, List.getD_cons_zero, List.getD_cons_succ, and_true, true_and] at hty
 unfold nearV_tree
 simp only [nvc_nearV, Tree.holds, Sy.holds, nvE, denV, denI, denB, denL, I2.den, VOp.den, List.getD_cons_zero, List.getD_cons_succ, Cst.den, syso, syse, syio, sybo, nvi_nr, nvi_gd, nvi_dw, nvi_cl, nvi_nre, B2.ofInts, B2.denI, B2.denB, if_true, Bool.false_eq_true, if_false, Nat.div_one, Nat.mul_one, Nat.add_zero]
 have w4 : IntKind.wrap .u32 s = s % 4294967296 := IntKind.wrap_u32 _
 have w5 : IntKind.wrap .i64 (s % 4294967296) = s % 4294967296 := by have := wr_i64 (s % 4294967296); omega
 have w6 : IntKind.wrap .i64 (s % 4294967296 * 1000000000) = s % 4294967296 * 1000000000 := by have := wr_i64 (s % 4294967296 * 1000000000); omega
 have w1 : IntKind.wrap .i64 (s / 4294967296) = s / 4294967296 := by have := wr_i64 (s / 4294967296); omega
 have w2 : IntKind.wrap .i64 (s / 4294967296 - 2208988800) = s / 4294967296 - 2208988800 := by have := wr_i64 (s / 4294967296 - 2208988800); omega
 have w3 : IntKind.wrap .i64 ((s / 4294967296 - 2208988800) * 1000000000) = (s / 4294967296 - 2208988800) * 1000000000 := by have := wr_i64 ((s / 4294967296 - 2208988800) * 1000000000); omega
 simp only [shr32, w4, w5, w6, w1, w2, w3]
 obtain ⟨X, hX⟩ : ∃ x, -((-(s % 4294967296 * 1000000000)) / 4294967296) = x := ⟨_, rfl⟩
 simp only [hX]
 have hXb : 0 ≤ X ∧ X ≤ 1000000000 := by omega
 have w7 : IntKind.wrap .i64 ((s / 4294967296 - 2208988800) * 1000000000 + X) = (s / 4294967296 - 2208988800) * 1000000000 + X := by have := wr_i64 ((s / 4294967296 - 2208988800) * 1000000000 + X); omega
 simp only [w7]
 obtain ⟨T, hT⟩ : ∃ x, (s / 4294967296 - 2208988800) * 1000000000 + X = x := ⟨_, rfl⟩
 simp only [hT]
 have hTb : -2208988800000000000 ≤ T ∧ T ≤ 2085978497000000000 := by omega
 have w8 : IntKind.wrap .i64 (t - T) = t - T := by have := wr_i64 (t - T); omega
 simp only [w8]
 obtain ⟨B, hB⟩ : ∃ x, (t - T) % 4294967296000000000 = x := ⟨_, rfl⟩
 simp only [hB]
 have hBb : 0 ≤ B ∧ B < 4294967296000000000 := by omega
 have w9 : IntKind.wrap .i64 (t - B) = t - B := by have := wr_i64 (t - B); omega
 simp only [w9]
 have w10 := wr_i64 (t - B + 4294967296000000000)
 have hn0 : nrN s t = if 2147483648000000000 < B then t - B + 4294967296000000000 else t - B := by (unfold nrN; simp only [hX, hT, hB])
 have hn : (2147483648000000000 < B ∧ nrN s t = t - B + 4294967296000000000) ∨ (B ≤ 2147483648000000000 ∧ nrN s t = t - B) := by (rw [hn0]; split <;> omega)
 have hE := nr_spec s t
 have h1 := tp_spec t
 have h2 := tp_spec (nrN s t)
 clear hn0 hB hT hX w1 w2 w3 w4 w5 w6 w7 w8 w9
 refine ⟨?_, fun h0 => ?_⟩
 ·
  omega
 refine ⟨fun h1 => ?_, fun h1 => ?_⟩
 refine ?a0; rotate_left
 refine ⟨?_, fun h2 => ?_⟩
 ·
  omega
 refine ⟨?_, fun h3 => ?_⟩
 ·
  omega
 refine ⟨fun h4 => ?_, fun h4 => ?_⟩
 refine ⟨?_, fun h5 => ?_⟩
 ·
  omega
 refine ⟨fun h6 => ?_, fun h6 => ?_⟩
 refine ?a1; rotate_left
 refine ?a2; rotate_left
 refine ⟨?_, fun h7 => ?_⟩
 ·
  omega
 refine ⟨fun h8 => ?_, fun h8 => ?_⟩
 refine ?a3; rotate_left
 refine ?a4; rotate_left
 case a0 | a1 | a2 | a3 | a4 =>
  first
  | (exfalso; omega)
  | (have e2 : nrE s t = 2 := by omega
     rw [e2, gn_n (by decide)]
     first | done | rfl)
  | (have e0 : nrE s t = 0 := by omega
     rw [e0, gn_y rfl]
     first
     | (rw [show IntKind.wrap .i64 (t - B + 4294967296000000000) = nrN s t by omega]; first | done | rfl)
     | (rw [show t - B = nrN s t by omega]; first | done | rfl))
  | skip
theorem nvg_nearV : nvc_nearV.Good Tryd.prog syG (nvE [] [] [] []) := good_of_walk (Γ := ⟨[ntc_istime, ntc_ceilr, ntc_divp], syG, [], [], []⟩) (ρ := nvE [] [] [] []) sym nearV_w rfl (fun _ _ _ _ => (ok_cons (Con.Good.env (Con.Good.up (Con.Good.up ntg_istime nuup rfl) nvup rfl) _ _ _ _) (ok_cons (Con.Good.env (Con.Good.up (Con.Good.up ntg_ceilr nuup rfl) nvup rfl) _ _ _ _) (ok_cons (Con.Good.env (Con.Good.up (Con.Good.up ntg_divp nuup rfl) nvup rfl) _ _ _ _) ok_nil)))) nearV_h
def nearX_tree : Tree :=
 (.need (an_ (le_ lm_ v1_) (le_ v1_ lM_))
 (.ret (.tup (.cons (.int .i64 (.lit 0)) (.cons (.iface 142 (.int .i64 (.lit 1))) .nil)))))
abbrev nvc_nearX : Con := ⟨54, [(.int .u64 v0_), z1_], (an_ xvformsk28_ (.not xvformsk34_)), (.tup (.cons (.int .i64 xvformsk25_) (.cons (.err xvformsk46_) .nil))), ⟨2, 0, 0, 0⟩, none⟩
theorem nearX_w : walkQ Tryd.prog 142 ⟨[ntc_istime, ntc_ceilr, ntc_divp], syG, [], [], []⟩ [] .v nvc_nearX nvc_nearX.n 3000 (pcOf nvc_nearX.cnd) = some nearX_tree := by kernel_rfl
theorem nearX_h (s t : Int) : Hyp_ nvc_nearX nearX_tree (nvE [s, t] [] [] []) := by
 intro hc hty
 simp only [nvc_nearX, Sy.holds, nvE, denV, denI, denB, denL, I2.den, VOp.den, List.getD_cons_zero, List.getD_cons_succ, Cst.den, syso, syse, syio, sybo, B2.ofInts, B2.denI, B2.denB, if_true, Bool.false_eq_true, if_false, Nat.div_one, Nat.mul_one, Nat.add_zero] at hc
 simp only [nvc_nearX, patsTyp, patTyp, patTypL, nvE, denV, denL, List.getD_cons_zero, List.getD_cons_succ, and_true, true_and] at hty
 unfold nearX_tree
 simp only [nvc_nearX, Tree.holds, Sy.holds, nvE, denV, denI, denB, denL, I2.den, VOp.den, List.getD_cons_zero, List.getD_cons_succ, Cst.den, syso, syse, syio, sybo, nvi_nr, nvi_gd, nvi_nre, B2.ofInts, B2.denI, B2.denB, if_true, Bool.false_eq_true, if_false, Nat.div_one, Nat.mul_one, Nat.add_zero]
 have hn := hc.2
 refine ⟨?_, fun h0 => ?_⟩
 ·
  first
  | exact True.intro
  | omega
  | (exfalso; omega)
  | skip
 ·
  have h1 := tp_spec t
  have hE := nr_spec s t
  first
  | (exfalso; omega)
  | (have e1 : nrE s t = 1 := by omega
     rw [e1, gn_n (by decide)]
     first | done | rfl)
  | skip
theorem nvg_nearX : nvc_nearX.Good Tryd.prog syG (nvE [] [] [] []) := good_of_walkC (Γ := ⟨[ntc_istime, ntc_ceilr, ntc_divp], syG, [], [], []⟩) (ρ := nvE [] [] [] []) sym nearX_w rfl (fun _ _ _ _ => (ok_cons (Con.Good.env (Con.Good.up (Con.Good.up ntg_istime nuup rfl) nvup rfl) _ _ _ _) (ok_cons (Con.Good.env (Con.Good.up (Con.Good.up ntg_ceilr nuup rfl) nvup rfl) _ _ _ _) (ok_cons (Con.Good.env (Con.Good.up (Con.Good.up ntg_divp nuup rfl) nvup rfl) _ _ _ _) ok_nil)))) nearX_h
abbrev nvc_nearA : Con := ⟨54, [(.int .u64 v0_), z1_], xvformsk28_, (.tup (.cons (.int .i64 xvformsk25_) (.cons (.err xvformsk46_) .nil))), ⟨2, 0, 0, 0⟩, none⟩
theorem nvg_nearA : nvc_nearA.Good Tryd.prog syG (nvE [] [] [] []) := by
 exact good_split (an_ (lt_ (.lit (-4611686018427387904)) v1_) (lt_ v1_ (.lit 4611686018427387904))) nvg_nearV nvg_nearX
def rnearV_tree : Tree :=
 (.br (.not xvformsk34_)
 (.ret (.tup (.cons (.int .i64 (.lit 0)) (.cons (.int .i64 (.lit 1)) .nil))))
 (.br (.not (eq_ (wr_ (ml_ xvformsk6_ (.lit 4294967296))) (wr_ (ml_ (wr_ (.i2 .rem v0_ (.lit 4294967296))) (.lit 1000000000)))))
 (.need (an_ (le_ lm_ xvformsk9_) (le_ xvformsk9_ lM_))
 (.need (an_ (le_ lm_ xvformsk9_) (le_ xvformsk9_ lM_))
 (.need (an_ (le_ lm_ (wr_ (ad_ xvformsk6_ (.lit 1)))) (le_ (wr_ (ad_ xvformsk6_ (.lit 1))) lM_))
 (.need (an_ xvformsk48_ (an_ (le_ (.lit (-1569275433846670190958947355801916604025588861116008628224)) (wr_ (ad_ xvformsk6_ (.lit 1)))) (le_ (wr_ (ad_ xvformsk6_ (.lit 1))) (.lit 1569275433846670190958947355801916604025588861116008628224))))
 (.loop ⟨2, 0, 0, 0⟩ (an_ (le_ (.lit 0) (.lit 0)) (an_ (le_ (.lit 0) (.lit 6)) (an_ (eq_ (.iapp 37 (.cons (.int .i64 (sb_ xvformsk39_ (.iapp 50 (.cons (.int .u64 v0_) .nil)))) (.cons (.int .i64 (.lit 4294967296000000000)) .nil))) (.lit 0)) (.b2 .or (an_ (eq_ (.lit 0) (.lit 0)) (an_ (le_ (.lit (-6850000000000000000)) (sb_ xvformsk39_ v1_)) (le_ (sb_ xvformsk39_ v1_) (.lit 6850000000000000000)))) (.b2 .or (an_ (eq_ (.lit 0) (.lit 1)) (an_ (le_ (.lit (-2600000000000000000)) (sb_ xvformsk39_ v1_)) (le_ (sb_ xvformsk39_ v1_) (.lit 2600000000000000000)))) (an_ (le_ (.lit 2) (.lit 0)) (an_ (le_ (.lit (-2147483648000000000)) (sb_ xvformsk39_ v1_)) (lt_ (sb_ xvformsk39_ v1_) (.lit 2147483648000000000))))))))) xvformsk19_
 (.br (lt_ v2_ (.lit 6))
 (.need xvformsk17_
 (.need (an_ (le_ (.lit (-1208925819614629174706176)) xvformsk10_) (an_ (le_ xvformsk10_ (.lit 1208925819614629174706176)) xvformsk33_))
 (.br (.bapp 4 (.cons (.int .i64 xvformsk10_) (.cons z3_ (.cons z1_ (.cons (.bool (.tt false)) .nil)))))
 (.need xvformsk17_
 (.need xvformsk29_
 (.need xvformsk40_
 (.br (.bapp 4 (.cons (.int .i64 (sb_ xvformsk10_ (.lit 4294967296000000000))) (.cons (.int .i64 xvformsk10_) (.cons z1_ (.cons (.bool (.tt true)) .nil)))))
 (.need xvformsk29_
 (.back xvformsk21_ xvformsk45_ (sb_ (.lit 6) v2_)))
 (.back xvformsk26_ xvformsk45_ (sb_ (.lit 6) v2_))))))
 (.need xvformsk17_
 (.need (an_ (le_ (.lit (-1208925819614629174706176)) (sb_ v3_ (.lit 4294967296000000000))) (an_ (le_ (sb_ v3_ (.lit 4294967296000000000)) (.lit 1208925819614629174706176)) xvformsk33_))
 (.br (.bapp 4 (.cons (.int .i64 (sb_ v3_ (.lit 4294967296000000000))) (.cons z3_ (.cons z1_ (.cons (.bool (.tt true)) .nil)))))
 (.need xvformsk17_
 (.back xvformsk22_ xvformsk45_ (sb_ (.lit 6) v2_)))
 (.back xvformsk27_ xvformsk45_ (sb_ (.lit 6) v2_))))))))
 (.need xvformsk17_
 (.br (.not (eq_ (.iapp 42 (.cons z3_ .nil)) (.lit 0)))
 (.ret xvformsk55_)
 (.br (.not (an_ (lt_ (.lit (-4611686018427387904)) xvformsk37_) (lt_ xvformsk37_ (.lit 4611686018427387904))))
 (.ret xvformsk55_)
 (.ret (.tup (.cons (.int .i64 xvformsk37_) (.cons (.int .i64 (.lit 0)) .nil)))))))))))))
 (.need (an_ (le_ lm_ xvformsk9_) (le_ xvformsk9_ lM_))
 (.need (an_ (le_ lm_ xvformsk9_) (le_ xvformsk9_ lM_))
 (.need (an_ (le_ lm_ xvformsk6_) (le_ xvformsk6_ lM_))
 (.need (an_ xvformsk48_ (an_ (le_ (.lit (-1569275433846670190958947355801916604025588861116008628224)) xvformsk6_) (le_ xvformsk6_ (.lit 1569275433846670190958947355801916604025588861116008628224))))
 (.loop ⟨2, 0, 0, 0⟩ (an_ (le_ (.lit 0) (.lit 0)) (an_ (le_ (.lit 0) (.lit 6)) (an_ (eq_ (.iapp 37 (.cons (.int .i64 (sb_ (ad_ (ml_ xvformsk9_ (.lit 1000000000)) xvformsk6_) (.iapp 50 (.cons (.int .u64 v0_) .nil)))) (.cons (.int .i64 (.lit 4294967296000000000)) .nil))) (.lit 0)) (.b2 .or (an_ (eq_ (.lit 0) (.lit 0)) (an_ (le_ (.lit (-6850000000000000000)) xvformsk49_) (le_ xvformsk49_ (.lit 6850000000000000000)))) (.b2 .or (an_ (eq_ (.lit 0) (.lit 1)) (an_ (le_ (.lit (-2600000000000000000)) xvformsk49_) (le_ xvformsk49_ (.lit 2600000000000000000)))) (an_ (le_ (.lit 2) (.lit 0)) (an_ (le_ (.lit (-2147483648000000000)) xvformsk49_) (lt_ xvformsk49_ (.lit 2147483648000000000))))))))) xvformsk19_
 (.br (lt_ v2_ (.lit 6))
 (.need xvformsk17_
 (.need (an_ (le_ (.lit (-1208925819614629174706176)) xvformsk10_) (an_ (le_ xvformsk10_ (.lit 1208925819614629174706176)) xvformsk33_))
 (.br (.bapp 4 (.cons (.int .i64 xvformsk10_) (.cons z3_ (.cons z1_ (.cons (.bool (.tt false)) .nil)))))
 (.need xvformsk17_
 (.need xvformsk29_
 (.need xvformsk40_
 (.br (.bapp 4 (.cons (.int .i64 (sb_ xvformsk10_ (.lit 4294967296000000000))) (.cons (.int .i64 xvformsk10_) (.cons z1_ (.cons (.bool (.tt true)) .nil)))))
 (.need xvformsk29_
 (.back xvformsk21_ xvformsk45_ (sb_ (.lit 6) v2_)))
 (.back xvformsk26_ xvformsk45_ (sb_ (.lit 6) v2_))))))
 (.need xvformsk17_
 (.need (an_ (le_ (.lit (-1208925819614629174706176)) (sb_ v3_ (.lit 4294967296000000000))) (an_ (le_ (sb_ v3_ (.lit 4294967296000000000)) (.lit 1208925819614629174706176)) xvformsk33_))
 (.br (.bapp 4 (.cons (.int .i64 (sb_ v3_ (.lit 4294967296000000000))) (.cons z3_ (.cons z1_ (.cons (.bool (.tt true)) .nil)))))
 (.need xvformsk17_
 (.back xvformsk22_ xvformsk45_ (sb_ (.lit 6) v2_)))
 (.back xvformsk27_ xvformsk45_ (sb_ (.lit 6) v2_))))))))
 (.need xvformsk17_
 (.br (.not (eq_ (.iapp 42 (.cons z3_ .nil)) (.lit 0)))
 (.ret xvformsk55_)
 (.br (.not (an_ (lt_ (.lit (-4611686018427387904)) xvformsk37_) (lt_ xvformsk37_ (.lit 4611686018427387904))))
 (.ret xvformsk55_)
 (.ret (.tup (.cons (.int .i64 xvformsk37_) (.cons (.int .i64 (.lit 0)) .nil)))))))))))))))
abbrev nvc_rnearV : Con := ⟨55, [(.int .u64 v0_), z1_], (an_ xvformsk28_ xvformsk34_), (.tup (.cons (.int .i64 xvformsk25_) (.cons (.int .i64 xvformsk46_) .nil))), ⟨2, 0, 0, 0⟩, none⟩
theorem rnearV_w : walk Tryd.prog 142 ⟨[nvc_rtime, nvc_bint, nvc_bmulN, nvc_baddN, nvc_baddB, nvc_nearer, nvc_bnumN], syG, [], [], []⟩ [⟨0, ⟨2, 0, 0, 0⟩, [(11, z2_)], some [[], [], [], [], [], [], [(.bool (.bapp 3 (.cons z3_ .nil))), (.int .u64 (.iapp 39 (.cons (.int .i64 (.iapp 40 (.cons z3_ .nil))) (.cons (.int .i64 (.lit 0)) .nil)))), (.int .u64 (.iapp 39 (.cons (.int .i64 (.iapp 40 (.cons z3_ .nil))) (.cons (.int .i64 (.lit 1)) .nil)))), (.int .u64 (.iapp 39 (.cons (.int .i64 (.iapp 40 (.cons z3_ .nil))) (.cons (.int .i64 (.lit 2)) .nil)))), (.int .u64 (.iapp 39 (.cons (.int .i64 (.iapp 40 (.cons z3_ .nil))) (.cons (.int .i64 (.lit 3)) .nil)))), (.int .u64 (.iapp 39 (.cons (.int .i64 (.iapp 40 (.cons z3_ .nil))) (.cons (.int .i64 (.lit 4)) .nil)))), (.int .u64 (.iapp 39 (.cons (.int .i64 (.iapp 40 (.cons z3_ .nil))) (.cons (.int .i64 (.lit 5)) .nil)))), (.int .u64 (.iapp 39 (.cons (.int .i64 (.iapp 40 (.cons z3_ .nil))) (.cons (.int .i64 (.lit 6)) .nil)))), (.int .u64 (.iapp 39 (.cons (.int .i64 (.iapp 40 (.cons z3_ .nil))) (.cons (.int .i64 (.lit 7)) .nil))))], [], [], [], [(.bool (.bapp 3 (.cons (.int .i64 (.lit 4294967296000000000)) .nil))), (.int .u64 (.iapp 39 (.cons (.int .i64 xvformsk24_) (.cons (.int .i64 (.lit 0)) .nil)))), (.int .u64 (.iapp 39 (.cons (.int .i64 xvformsk24_) (.cons (.int .i64 (.lit 1)) .nil)))), (.int .u64 (.iapp 39 (.cons (.int .i64 xvformsk24_) (.cons (.int .i64 (.lit 2)) .nil)))), (.int .u64 (.iapp 39 (.cons (.int .i64 xvformsk24_) (.cons (.int .i64 (.lit 3)) .nil)))), (.int .u64 (.iapp 39 (.cons (.int .i64 xvformsk24_) (.cons (.int .i64 (.lit 4)) .nil)))), (.int .u64 (.iapp 39 (.cons (.int .i64 xvformsk24_) (.cons (.int .i64 (.lit 5)) .nil)))), (.int .u64 (.iapp 39 (.cons (.int .i64 xvformsk24_) (.cons (.int .i64 (.lit 6)) .nil)))), (.int .u64 (.iapp 39 (.cons (.int .i64 xvformsk24_) (.cons (.int .i64 (.lit 7)) .nil))))], [(.bool (.tt true)), (.int .u64 (.iapp 39 (.cons (.int .i64 xvformsk24_) (.cons (.int .i64 (.lit 0)) .nil)))), (.int .u64 (.iapp 39 (.cons (.int .i64 xvformsk24_) (.cons (.int .i64 (.lit 1)) .nil)))), (.int .u64 (.iapp 39 (.cons (.int .i64 xvformsk24_) (.cons (.int .i64 (.lit 2)) .nil)))), (.int .u64 (.iapp 39 (.cons (.int .i64 xvformsk24_) (.cons (.int .i64 (.lit 3)) .nil)))), (.int .u64 (.iapp 39 (.cons (.int .i64 xvformsk24_) (.cons (.int .i64 (.lit 4)) .nil)))), (.int .u64 (.iapp 39 (.cons (.int .i64 xvformsk24_) (.cons (.int .i64 (.lit 5)) .nil)))), (.int .u64 (.iapp 39 (.cons (.int .i64 xvformsk24_) (.cons (.int .i64 (.lit 6)) .nil)))), (.int .u64 (.iapp 39 (.cons (.int .i64 xvformsk24_) (.cons (.int .i64 (.lit 7)) .nil))))]], xvformsk19_, (sb_ (.lit 6) v2_), 0, []⟩] .v nvc_rnearV nvc_rnearV.n 3000 = some rnearV_tree := by kernel_rfl
set_option maxHeartbeats 4000000 in
theorem rnearV_h (s t : Int) : Hyp_ nvc_rnearV rnearV_tree (nvE [s, t] [] [] []) := by
 intro hc hty
 simp only [nvc_rnearV, Sy.holds, nvE, denV, denI, denB, denL, I2.den, VOp.den, List.getD_cons_zero, List.getD_cons_succ, Cst.den, syso, syse, syio, sybo, B2.ofInts, B2.denI, B2.denB, if_true, Bool.false_eq_true, if_false, Nat.div_one, Nat.mul_one, Nat.add_zero] at hc
 simp only [nvc_rnearV, patsTyp, patTyp, patTypL, nvE, denV, denL, List.getD_cons_zero, List.getD_cons_succ, and_true, true_and] at hty
 unfold rnearV_tree
 simp only [nvc_rnearV, Tree.holds, Sy.holds, AllN, Env.more, nvE, List.cons_append, List.nil_append, List.append_nil, denV, denI, denB, denL, I2.den, VOp.den, List.getD_cons_zero, List.getD_cons_succ, Cst.den, syso, syse, syio, sybo, nvi_nr, nvi_gd, nvi_dw, nvi_r6, nvi_gdw, nvi_nre, nvi_th, nvb_nq, List.map_nil, List.map_cons, B2.ofInts, B2.denI, B2.denB, if_true, Bool.false_eq_true, if_false, Nat.div_one, Nat.mul_one, Nat.add_zero]
 have h0s := hc.1.1.1
 have h1s := hc.1.1.2
 have hT0 := hc.2
 have hth := th_rng h0s h1s
 have k1 : IntKind.wrap .i64 (IntKind.wrap .u64 (s.tdiv 4294967296)) = s / 4294967296 := by (have e : s.tdiv 4294967296 = s / 4294967296 := Int.tdiv_eq_ediv_of_nonneg h0s; rw [e]; have := wr_u64 (s / 4294967296); have := wr_i64 (IntKind.wrap .u64 (s / 4294967296)); omega)
 have k2 : IntKind.wrap .i64 (s / 4294967296 - 2208988800) = s / 4294967296 - 2208988800 := by have := wr_i64 (s / 4294967296 - 2208988800); omega
 have k3 : s.tmod 4294967296 = s % 4294967296 := Int.tmod_eq_emod_of_nonneg h0s
 have k4 : IntKind.wrap .i64 (s % 4294967296) = s % 4294967296 := by have := wr_i64 (s % 4294967296); omega
 have k5 : IntKind.wrap .i64 (s % 4294967296 * 1000000000) = s % 4294967296 * 1000000000 := by have := wr_i64 (s % 4294967296 * 1000000000); omega
 have k6 : (s % 4294967296 * 1000000000).tdiv 4294967296 = s % 4294967296 * 1000000000 / 4294967296 := Int.tdiv_eq_ediv_of_nonneg (by omega)
 have k7 : IntKind.wrap .i64 (s % 4294967296 * 1000000000 / 4294967296) = s % 4294967296 * 1000000000 / 4294967296 := by have := wr_i64 (s % 4294967296 * 1000000000 / 4294967296); omega
 have k8 : IntKind.wrap .i64 (s % 4294967296 * 1000000000 / 4294967296 * 4294967296) = s % 4294967296 * 1000000000 / 4294967296 * 4294967296 := by have := wr_i64 (s % 4294967296 * 1000000000 / 4294967296 * 4294967296); omega
 have k9 : IntKind.wrap .i64 (s % 4294967296 * 1000000000 / 4294967296 + 1) = s % 4294967296 * 1000000000 / 4294967296 + 1 := by have := wr_i64 (s % 4294967296 * 1000000000 / 4294967296 + 1); omega
 try simp only [k1, k2, k3, k4, k5, k6, k7, k8, k9]
 clear k1 k2 k3 k4 k5 k6 k7 k8 k9
 refine ⟨fun h0 => ?_, fun h0 => ?_⟩
 refine ?a0; rotate_left
 refine ⟨fun h1 => ?_, fun h1 => ?_⟩
 refine ⟨?_, fun h2 => ?_⟩
 refine ?a1; rotate_left
 refine ⟨?_, fun h3 => ?_⟩
 refine ?a2; rotate_left
 refine ⟨?_, fun h4 => ?_⟩
 refine ?a3; rotate_left
 refine ⟨?_, fun h5 => ?_⟩
 refine ?a4; rotate_left
 refine ⟨?_, ?_⟩
 refine ?a5; rotate_left
 intro i0a i0b hi0
 obtain ⟨g1, g2, g3, g4⟩ := hi0
 have wj : i0a < 6 → IntKind.wrap .i64 (i0a + 1) = i0a + 1 := fun h => by (have wi := wr_i64 (i0a + 1); omega)
 refine ⟨fun h6 => ?_, fun h6 => ?_⟩
 refine ⟨?_, fun h7 => ?_⟩
 refine ?a6; rotate_left
 refine ⟨?_, fun h8 => ?_⟩
 refine ?a7; rotate_left
 refine ⟨fun h9 => ?_, fun h9 => ?_⟩
 refine ⟨?_, fun h10 => ?_⟩
 refine ?a8; rotate_left
 refine ⟨?_, fun h11 => ?_⟩
 refine ?a9; rotate_left
 refine ⟨?_, fun h12 => ?_⟩
 refine ?a10; rotate_left
 refine ⟨fun h13 => ?_, fun h13 => ?_⟩
 refine ⟨?_, fun h14 => ?_⟩
 refine ?a11; rotate_left
 refine ⟨?_, ?_⟩
 refine ?a12; rotate_left
 refine ?a13; rotate_left
 refine ⟨?_, ?_⟩
 refine ?a14; rotate_left
 refine ?a15; rotate_left
 refine ⟨?_, fun h15 => ?_⟩
 refine ?a16; rotate_left
 refine ⟨?_, fun h16 => ?_⟩
 refine ?a17; rotate_left
 refine ⟨fun h17 => ?_, fun h17 => ?_⟩
 refine ⟨?_, fun h18 => ?_⟩
 refine ?a18; rotate_left
 refine ⟨?_, ?_⟩
 refine ?a19; rotate_left
 refine ?a20; rotate_left
 refine ⟨?_, ?_⟩
 refine ?a21; rotate_left
 refine ?a22; rotate_left
 refine ⟨?_, fun h19 => ?_⟩
 refine ?a23; rotate_left
 refine ⟨fun h20 => ?_, fun h20 => ?_⟩
 refine ?a24; rotate_left
 refine ⟨fun h21 => ?_, fun h21 => ?_⟩
 refine ?a25; rotate_left
 refine ?a26; rotate_left
 refine ⟨?_, fun h22 => ?_⟩
 refine ?a27; rotate_left
 refine ⟨?_, fun h23 => ?_⟩
 refine ?a28; rotate_left
 refine ⟨?_, fun h24 => ?_⟩
 refine ?a29; rotate_left
 refine ⟨?_, fun h25 => ?_⟩
 refine ?a30; rotate_left
 refine ⟨?_, ?_⟩
 refine ?a31; rotate_left
 intro i1a i1b hi1
 obtain ⟨g1, g2, g3, g4⟩ := hi1
 have wj : i1a < 6 → IntKind.wrap .i64 (i1a + 1) = i1a + 1 := fun h => by (have wi := wr_i64 (i1a + 1); omega)
 refine ⟨fun h26 => ?_, fun h26 => ?_⟩
 refine ⟨?_, fun h27 => ?_⟩
 refine ?a32; rotate_left
 refine ⟨?_, fun h28 => ?_⟩
 refine ?a33; rotate_left
 refine ⟨fun h29 => ?_, fun h29 => ?_⟩
 refine ⟨?_, fun h30 => ?_⟩
 refine ?a34; rotate_left
 refine ⟨?_, fun h31 => ?_⟩
 refine ?a35; rotate_left
 refine ⟨?_, fun h32 => ?_⟩
 refine ?a36; rotate_left
 refine ⟨fun h33 => ?_, fun h33 => ?_⟩
 refine ⟨?_, fun h34 => ?_⟩
 refine ?a37; rotate_left
 refine ⟨?_, ?_⟩
 refine ?a38; rotate_left
 refine ?a39; rotate_left
 refine ⟨?_, ?_⟩
 refine ?a40; rotate_left
 refine ?a41; rotate_left
 refine ⟨?_, fun h35 => ?_⟩
 refine ?a42; rotate_left
 refine ⟨?_, fun h36 => ?_⟩
 refine ?a43; rotate_left
 refine ⟨fun h37 => ?_, fun h37 => ?_⟩
 refine ⟨?_, fun h38 => ?_⟩
 refine ?a44; rotate_left
 refine ⟨?_, ?_⟩
 refine ?a45; rotate_left
 refine ?a46; rotate_left
 refine ⟨?_, ?_⟩
 refine ?a47; rotate_left
 refine ?a48; rotate_left
 refine ⟨?_, fun h39 => ?_⟩
 refine ?a49; rotate_left
 refine ⟨fun h40 => ?_, fun h40 => ?_⟩
 refine ?a50; rotate_left
 refine ⟨fun h41 => ?_, fun h41 => ?_⟩
 refine ?a51; rotate_left
 refine ?a52; rotate_left
 case a0 | a24 | a25 | a26 =>
  first
  | (exfalso; omega)
  | (have hi6 : i0a = 6 := by omega
     have hlo : -2147483648000000000 ≤ i0b - t := by omega
     have hhi : i0b - t < 2147483648000000000 := by omega
     have hv : nrN s t = i0b := near_fin h0s g3 hlo hhi
     clear g3 g4 wj
     have hE := nr_spec s t
     rw [hv] at hE ⊢
     have h1 := tp_spec t
     have h2 := tp_spec i0b
     have r6 := r6_spec i0b
     have q6 : r6E i0b = 0 := by omega
     try simp only [gw_y q6] at *
     first
     | (exfalso; omega)
     | (have e2 : nrE s t = 2 := by omega
        rw [e2, gn_n (by decide)]
        first | done | rfl)
     | (have e0 : nrE s t = 0 := by omega
        rw [e0, gn_y rfl]
        first | done | rfl))
  | skip
 case a1 | a2 | a3 | a4 | a6 | a7 | a8 | a9 | a10 | a11 | a16 | a17 | a18 | a23 | a27 | a28 | a29 | a30 | a32 | a33 | a34 | a35 | a36 | a37 | a42 | a43 | a44 | a49 =>
  first
  | exact True.intro
  | omega
  | (unfold thV at *; omega)
  | skip
 case a5 | a31 =>
  first
  | (rw [th_a (by omega)]
     exact ⟨by omega, by omega, by omega, .inl ⟨True.intro, by omega, by omega⟩⟩)
  | (rw [th_b (by omega)]
     exact ⟨by omega, by omega, by omega, .inl ⟨True.intro, by omega, by omega⟩⟩)
  | skip
 case a12 | a14 | a19 | a21 | a38 | a40 | a45 | a47 =>
  simp only [nq_up, nq_dn] at *
  first
  | (rw [wj (by omega)]
     exact ⟨by omega, by omega, by omega, by omega⟩)
  | skip
 case a13 | a15 | a20 | a22 | a39 | a41 | a46 | a48 =>
  first
  | (rw [wj (by omega)]; omega)
  | skip
 case a50 | a51 | a52 =>
  first
  | (exfalso; omega)
  | (have hi6 : i1a = 6 := by omega
     have hlo : -2147483648000000000 ≤ i1b - t := by omega
     have hhi : i1b - t < 2147483648000000000 := by omega
     have hv : nrN s t = i1b := near_fin h0s g3 hlo hhi
     clear g3 g4 wj
     have hE := nr_spec s t
     rw [hv] at hE ⊢
     have h1 := tp_spec t
     have h2 := tp_spec i1b
     have r6 := r6_spec i1b
     have q6 : r6E i1b = 0 := by omega
     try simp only [gw_y q6] at *
     first
     | (exfalso; omega)
     | (have e2 : nrE s t = 2 := by omega
        rw [e2, gn_n (by decide)]
        first | done | rfl)
     | (have e0 : nrE s t = 0 := by omega
        rw [e0, gn_y rfl]
        first | done | rfl))
  | skip
theorem nvg_rnearV : nvc_rnearV.Good Tryd.prog syG (nvE [] [] [] []) := good_of_walk (Γ := ⟨[nvc_rtime, nvc_bint, nvc_bmulN, nvc_baddN, nvc_baddB, nvc_nearer, nvc_bnumN], syG, [], [], []⟩) (ρ := nvE [] [] [] []) sym rnearV_w rfl (fun _ _ _ _ => (ok_cons (Con.Good.env nvg_rtime _ _ _ _) (ok_cons (Con.Good.env nvg_bint _ _ _ _) (ok_cons (Con.Good.env nvg_bmulN _ _ _ _) (ok_cons (Con.Good.env nvg_baddN _ _ _ _) (ok_cons (Con.Good.env nvg_baddB _ _ _ _) (ok_cons (Con.Good.env nvg_nearer _ _ _ _) (ok_cons (Con.Good.env nvg_bnumN _ _ _ _) ok_nil)))))))) rnearV_h
def rnearX_tree : Tree :=
 (.ret (.tup (.cons (.int .i64 (.lit 0)) (.cons (.int .i64 (.lit 1)) .nil))))
abbrev nvc_rnearX : Con := ⟨55, [(.int .u64 v0_), z1_], (an_ xvformsk28_ (.not xvformsk34_)), (.tup (.cons (.int .i64 xvformsk25_) (.cons (.int .i64 xvformsk46_) .nil))), ⟨2, 0, 0, 0⟩, none⟩
theorem rnearX_w : walkQ Tryd.prog 142 ⟨[nvc_rtime, nvc_bint, nvc_bmulN, nvc_baddN, nvc_baddB, nvc_nearer, nvc_bnumN], syG, [], [], []⟩ [] .v nvc_rnearX nvc_rnearX.n 3000 (pcOf nvc_rnearX.cnd) = some rnearX_tree := by kernel_rfl
theorem rnearX_h (s t : Int) : Hyp_ nvc_rnearX rnearX_tree (nvE [s, t] [] [] []) := by
 intro hc hty
 simp only [nvc_rnearX, Sy.holds, nvE, denV, denI, denB, denL, I2.den, VOp.den, List.getD_cons_zero, List.getD_cons_succ, Cst.den, syso, syse, syio, sybo, B2.ofInts, B2.denI, B2.denB, if_true, Bool.false_eq_true, if_false, Nat.div_one, Nat.mul_one, Nat.add_zero] at hc
 simp only [nvc_rnearX, patsTyp, patTyp, patTypL, nvE, denV, denL, List.getD_cons_zero, List.getD_cons_succ, and_true, true_and] at hty
 unfold rnearX_tree
 simp only [nvc_rnearX, Tree.holds, Sy.holds, nvE, denV, denI, denB, denL, I2.den, VOp.den, List.getD_cons_zero, List.getD_cons_succ, Cst.den, syso, syse, syio, sybo, nvi_nr, nvi_gd, nvi_nre, B2.ofInts, B2.denI, B2.denB, if_true, Bool.false_eq_true, if_false, Nat.div_one, Nat.mul_one, Nat.add_zero]
 have hn := hc.2
 have h1 := tp_spec t
 have hE := nr_spec s t
 first
 | (exfalso; omega)
 | (have e1 : nrE s t = 1 := by omega
    rw [e1, gn_n (by decide)]
    first | done | rfl)
 | skip
theorem nvg_rnearX : nvc_rnearX.Good Tryd.prog syG (nvE [] [] [] []) := good_of_walkC (Γ := ⟨[nvc_rtime, nvc_bint, nvc_bmulN, nvc_baddN, nvc_baddB, nvc_nearer, nvc_bnumN], syG, [], [], []⟩) (ρ := nvE [] [] [] []) sym rnearX_w rfl (fun _ _ _ _ => (ok_cons (Con.Good.env nvg_rtime _ _ _ _) (ok_cons (Con.Good.env nvg_bint _ _ _ _) (ok_cons (Con.Good.env nvg_bmulN _ _ _ _) (ok_cons (Con.Good.env nvg_baddN _ _ _ _) (ok_cons (Con.Good.env nvg_baddB _ _ _ _) (ok_cons (Con.Good.env nvg_nearer _ _ _ _) (ok_cons (Con.Good.env nvg_bnumN _ _ _ _) ok_nil)))))))) rnearX_h
abbrev nvc_rnearA : Con := ⟨55, [(.int .u64 v0_), z1_], xvformsk28_, (.tup (.cons (.int .i64 xvformsk25_) (.cons (.int .i64 xvformsk46_) .nil))), ⟨2, 0, 0, 0⟩, none⟩
theorem nvg_rnearA : nvc_rnearA.Good Tryd.prog syG (nvE [] [] [] []) := by
 exact good_split (an_ (lt_ (.lit (-4611686018427387904)) v1_) (lt_ v1_ (.lit 4611686018427387904))) nvg_rnearV nvg_rnearX
end Go.Proofs.YtgondiedehjkhaaDoor
