/-
 Layer 30 by the second engine: how old a page may be; BoundTells.
-/
import Derived.Test.YtgondiedehjkhaaGreatDoorSycbnd
import Derived.Test.YtgondiedehjkhaaGreatDoorBvbnd
import Derived.Test.YtgondiedehjkhaaGreatDoorE00bnd
import Derived.Test.YtgondiedehjkhaaGreatDoorNumbnd
namespace Go.Proofs.YtgondiedehjkhaaGreatDoor
open Go.RowKit Go.Extern.Stop Go.Stop Go.Extern Go.Proofs.YtgondiedehjkhaaGreatDoor.Sy
set_option linter.unusedVariables false
set_option linter.unusedSimpArgs false
abbrev xrbwbndk0_ : Tm := (.iapp 38 (.cons (.int .i64 (.iapp 31 (.cons (.int .i64 (.var 11)) (.cons (.int .i64 (.var 12)) (.cons (.int .i64 (.var 13)) (.cons (.int .i64 (.var 14)) (.cons (.int .i64 (.var 15)) (.cons (.int .i64 (.var 16)) (.cons (.str 0) (.cons (.int .i64 (.var 17)) (.cons (.opq 0) .nil))))))))))) (.cons (.int .i64 (.lit (0))) (.cons (.int .i64 (.iapp 20 (.cons (.int .i64 (.var 1)) (.cons (.int .i64 (.var 2)) (.cons (.int .i64 (.var 3)) (.cons (.int .i64 (.var 4)) (.cons (.int .u32 (.var 5)) (.cons (.int .i64 (.var 6)) (.cons (.int .u32 (.var 7)) (.cons (.int .i64 (.var 8)) (.cons (.int .i64 (.var 9)) (.cons (.int .i64 (.var 10)) (.cons (.int .i64 (.wrap .i64 (.i2 .add (.var 2) (.var 0)))) .nil))))))))))))) .nil))))
abbrev xrbwbndk1_ : Tm := (.iapp 38 (.cons (.int .i64 (.iapp 31 (.cons (.int .i64 (.var 11)) (.cons (.int .i64 (.var 12)) (.cons (.int .i64 (.var 13)) (.cons (.int .i64 (.var 14)) (.cons (.int .i64 (.var 15)) (.cons (.int .i64 (.var 16)) (.cons (.str 0) (.cons (.int .i64 (.var 17)) (.cons (.opq 0) .nil))))))))))) (.cons (.int .i64 (.lit (0))) (.cons (.int .i64 (.iapp 20 (.cons (.int .i64 (.var 0)) (.cons (.int .i64 (.var 1)) (.cons (.int .i64 (.var 2)) (.cons (.int .i64 (.var 3)) (.cons (.int .u32 (.var 4)) (.cons (.int .i64 (.var 5)) (.cons (.int .u32 (.var 6)) (.cons (.int .i64 (.var 7)) (.cons (.int .i64 (.var 8)) (.cons (.int .i64 (.var 9)) (.cons (.int .i64 (.wrap .i64 (.i2 .add (.var 1) (.var 10)))) .nil))))))))))))) .nil))))
abbrev xrbwbndk2_ : Tm := (.b2 .and (.b2 .and (.b2 .le (.lit (-9223372036854775808)) (.var 0)) (.b2 .le (.var 0) (.lit (9223372036854775807)))) (.b2 .and (.b2 .and (.b2 .le (.lit (-9223372036854775808)) (.var 1)) (.b2 .le (.var 1) (.lit (9223372036854775807)))) (.b2 .and (.b2 .and (.b2 .le (.lit (-9223372036854775808)) (.var 2)) (.b2 .le (.var 2) (.lit (9223372036854775807)))) (.b2 .and (.b2 .and (.b2 .le (.lit (-9223372036854775808)) (.var 3)) (.b2 .le (.var 3) (.lit (9223372036854775807)))) (.b2 .and (.b2 .and (.b2 .le (.lit (0)) (.var 4)) (.b2 .le (.var 4) (.lit (4294967295)))) (.b2 .and (.b2 .and (.b2 .le (.lit (-9223372036854775808)) (.var 5)) (.b2 .le (.var 5) (.lit (9223372036854775807)))) (.b2 .and (.b2 .and (.b2 .le (.lit (0)) (.var 6)) (.b2 .le (.var 6) (.lit (4294967295)))) (.b2 .and (.b2 .and (.b2 .le (.lit (-9223372036854775808)) (.var 7)) (.b2 .le (.var 7) (.lit (9223372036854775807)))) (.b2 .and (.b2 .and (.b2 .le (.lit (-9223372036854775808)) (.var 8)) (.b2 .le (.var 8) (.lit (9223372036854775807)))) (.b2 .and (.b2 .le (.lit (-9223372036854775808)) (.var 9)) (.b2 .le (.var 9) (.lit (9223372036854775807)))))))))))))
abbrev xrbwbndk8_ : Tm := (.iapp 41 (.cons (.int .i64 (.var 0)) (.cons (.int .i64 (.var 1)) (.cons (.int .i64 (.var 2)) (.cons (.int .i64 (.var 3)) (.cons (.int .u32 (.var 4)) (.cons (.int .i64 (.var 5)) (.cons (.int .u32 (.var 6)) (.cons (.int .i64 (.var 7)) (.cons (.int .i64 (.var 8)) (.cons (.int .i64 (.var 9)) (.cons (.int .i64 (.var 10)) (.cons (.int .i64 (.var 14)) (.cons (.int .i64 (.var 13)) (.cons (.int .i64 (.var 17)) .nil)))))))))))))))
abbrev xrbwbndk3_ : Tm := (.iapp 42 (.cons (.int .i64 (.iapp 14 (.cons (.int .i64 (.var 0)) (.cons (.int .i64 (.var 1)) (.cons (.int .i64 (.var 2)) (.cons (.int .i64 (.var 3)) (.cons (.int .u32 (.var 4)) (.cons (.int .i64 (.var 5)) (.cons (.int .u32 (.var 6)) (.cons (.int .i64 (.var 7)) (.cons (.int .i64 (.var 8)) (.cons (.int .i64 (.var 9)) .nil)))))))))))) (.cons (.int .i64 (.iapp 31 (.cons (.int .i64 (.var 10)) (.cons (.int .i64 (.var 11)) (.cons (.int .i64 (.var 12)) (.cons (.int .i64 (.var 13)) (.cons (.int .i64 (.var 14)) (.cons (.int .i64 (.var 15)) (.cons (.str 0) (.cons (.int .i64 (.var 16)) (.cons (.opq 0) .nil))))))))))) (.cons (.int .i64 xrbwbndk8_) .nil))))
abbrev xrbwbndk4_ : Tm := (.b2 .and (.b2 .and (.b2 .le (.lit (-9223372036854775808)) (.var 10)) (.b2 .le (.var 10) (.lit (9223372036854775807)))) (.b2 .and (.b2 .and (.b2 .le (.lit (-9223372036854775808)) (.var 11)) (.b2 .le (.var 11) (.lit (9223372036854775807)))) (.b2 .and (.b2 .and (.b2 .le (.lit (-9223372036854775808)) (.var 12)) (.b2 .le (.var 12) (.lit (9223372036854775807)))) (.b2 .and (.b2 .and (.b2 .le (.lit (-9223372036854775808)) (.var 13)) (.b2 .le (.var 13) (.lit (9223372036854775807)))) (.b2 .and (.b2 .and (.b2 .le (.lit (-9223372036854775808)) (.var 14)) (.b2 .le (.var 14) (.lit (9223372036854775807)))) (.b2 .and (.b2 .and (.b2 .le (.lit (-9223372036854775808)) (.var 15)) (.b2 .le (.var 15) (.lit (9223372036854775807)))) (.b2 .and (.b2 .le (.lit (-9223372036854775808)) (.var 16)) (.b2 .le (.var 16) (.lit (9223372036854775807))))))))))
abbrev xrbwbndk17_ : Tm := (.b2 .and (.b2 .le (.lit (-9223372036854775808)) (.var 17)) (.b2 .le (.var 17) (.lit (9223372036854775807))))
abbrev xrbwbndk5_ : Tm := (.b2 .and (.b2 .and (.b2 .le (.lit (-9223372036854775808)) (.var 11)) (.b2 .le (.var 11) (.lit (9223372036854775807)))) (.b2 .and (.b2 .and (.b2 .le (.lit (-9223372036854775808)) (.var 12)) (.b2 .le (.var 12) (.lit (9223372036854775807)))) (.b2 .and (.b2 .and (.b2 .le (.lit (-9223372036854775808)) (.var 13)) (.b2 .le (.var 13) (.lit (9223372036854775807)))) (.b2 .and (.b2 .and (.b2 .le (.lit (-9223372036854775808)) (.var 14)) (.b2 .le (.var 14) (.lit (9223372036854775807)))) (.b2 .and (.b2 .and (.b2 .le (.lit (-9223372036854775808)) (.var 15)) (.b2 .le (.var 15) (.lit (9223372036854775807)))) (.b2 .and (.b2 .and (.b2 .le (.lit (-9223372036854775808)) (.var 16)) (.b2 .le (.var 16) (.lit (9223372036854775807)))) xrbwbndk17_))))))
abbrev xrbwbndk6_ : Tm := (.b2 .and (.b2 .and (.b2 .le (.lit (-9223372036854775808)) (.var 1)) (.b2 .le (.var 1) (.lit (9223372036854775807)))) (.b2 .and (.b2 .and (.b2 .le (.lit (-9223372036854775808)) (.var 2)) (.b2 .le (.var 2) (.lit (9223372036854775807)))) (.b2 .and (.b2 .and (.b2 .le (.lit (-9223372036854775808)) (.var 3)) (.b2 .le (.var 3) (.lit (9223372036854775807)))) (.b2 .and (.b2 .and (.b2 .le (.lit (-9223372036854775808)) (.var 4)) (.b2 .le (.var 4) (.lit (9223372036854775807)))) (.b2 .and (.b2 .and (.b2 .le (.lit (0)) (.var 5)) (.b2 .le (.var 5) (.lit (4294967295)))) (.b2 .and (.b2 .and (.b2 .le (.lit (-9223372036854775808)) (.var 6)) (.b2 .le (.var 6) (.lit (9223372036854775807)))) (.b2 .and (.b2 .and (.b2 .le (.lit (0)) (.var 7)) (.b2 .le (.var 7) (.lit (4294967295)))) (.b2 .and (.b2 .and (.b2 .le (.lit (-9223372036854775808)) (.var 8)) (.b2 .le (.var 8) (.lit (9223372036854775807)))) (.b2 .and (.b2 .and (.b2 .le (.lit (-9223372036854775808)) (.var 9)) (.b2 .le (.var 9) (.lit (9223372036854775807)))) (.b2 .and (.b2 .le (.lit (-9223372036854775808)) (.var 10)) (.b2 .le (.var 10) (.lit (9223372036854775807)))))))))))))
abbrev xrbwbndk25_ : Tm := (.bapp 15 (.cons (.int .i64 (.var 0)) (.cons (.int .i64 (.var 1)) (.cons (.int .i64 (.var 2)) (.cons (.int .i64 (.var 3)) (.cons (.int .u32 (.var 4)) (.cons (.int .i64 (.var 5)) (.cons (.int .u32 (.var 6)) (.cons (.int .i64 (.var 7)) (.cons (.int .i64 (.var 8)) (.cons (.int .i64 (.var 9)) (.cons (.int .i64 (.var 10)) (.cons (.int .i64 (.var 14)) (.cons (.int .i64 (.var 13)) (.cons (.int .i64 (.var 17)) (.cons (.int .i64 (.var 18)) .nil))))))))))))))))
abbrev xrbwbndk30_ : Tm := (.wrap .i64 (.i2 .quo (.var 19) (.lit (2))))
abbrev xrbwbndk7_ : Tm := (.b2 .and (.b2 .le (.lit (0)) (.var 18)) (.b2 .and (.b2 .le (.var 18) (.var 9)) (.b2 .and xrbwbndk25_ (.b2 .and (.b2 .le (.lit (0)) xrbwbndk30_) (.b2 .and (.b2 .le xrbwbndk30_ (.lit (1125899906842624))) (.b2 .and (.bapp 2 (.cons (.int .i64 xrbwbndk30_) .nil)) (.b2 .or (.b2 .and (.b2 .eq xrbwbndk30_ (.lit (0))) (.b2 .or (.b2 .lt (.var 9) (.i2 .add (.var 18) (.lit (1)))) (.not (.bapp 15 (.cons (.int .i64 (.var 0)) (.cons (.int .i64 (.var 1)) (.cons (.int .i64 (.var 2)) (.cons (.int .i64 (.var 3)) (.cons (.int .u32 (.var 4)) (.cons (.int .i64 (.var 5)) (.cons (.int .u32 (.var 6)) (.cons (.int .i64 (.var 7)) (.cons (.int .i64 (.var 8)) (.cons (.int .i64 (.var 9)) (.cons (.int .i64 (.var 10)) (.cons (.int .i64 (.var 14)) (.cons (.int .i64 (.var 13)) (.cons (.int .i64 (.var 17)) (.cons (.int .i64 (.i2 .add (.var 18) (.lit (1)))) .nil))))))))))))))))))) (.b2 .and (.b2 .lt (.lit (0)) xrbwbndk30_) (.b2 .or (.b2 .lt (.var 9) (.i2 .add (.var 18) (.i2 .mul (.lit (2)) xrbwbndk30_))) (.not (.bapp 15 (.cons (.int .i64 (.var 0)) (.cons (.int .i64 (.var 1)) (.cons (.int .i64 (.var 2)) (.cons (.int .i64 (.var 3)) (.cons (.int .u32 (.var 4)) (.cons (.int .i64 (.var 5)) (.cons (.int .u32 (.var 6)) (.cons (.int .i64 (.var 7)) (.cons (.int .i64 (.var 8)) (.cons (.int .i64 (.var 9)) (.cons (.int .i64 (.var 10)) (.cons (.int .i64 (.var 14)) (.cons (.int .i64 (.var 13)) (.cons (.int .i64 (.var 17)) (.cons (.int .i64 (.i2 .add (.var 18) (.i2 .mul (.lit (2)) xrbwbndk30_))) .nil))))))))))))))))))))))))))
abbrev xrbwbndk9_ : Tm := (.bapp 1 (.cons (.int .i64 (.var 0)) (.cons (.int .i64 (.var 1)) (.cons (.int .i64 (.var 2)) (.cons (.int .i64 (.var 3)) (.cons (.int .u32 (.var 4)) (.cons (.int .i64 (.var 5)) (.cons (.int .u32 (.var 6)) (.cons (.int .i64 (.var 7)) (.cons (.int .i64 (.var 8)) (.cons (.int .i64 (.var 9)) .nil)))))))))))
abbrev xrbwbndk10_ : Tm := (.agg (.cons (.int .i64 (.var 0)) (.cons (.int .i64 (.var 1)) (.cons (.int .i64 (.var 2)) (.cons (.int .i64 (.var 3)) (.cons (.int .u32 (.var 4)) (.cons (.int .i64 (.var 5)) (.cons (.int .u32 (.var 6)) (.cons (.int .i64 (.var 7)) (.cons (.int .i64 (.var 8)) (.cons (.int .i64 (.var 9)) .nil)))))))))))
abbrev xrbwbndk11_ : Tm := (.b2 .and (.b2 .le (.lit (0)) (.var 19)) (.b2 .and (.b2 .le (.var 19) (.var 20)) (.b2 .and (.b2 .le (.var 20) (.var 0)) (.b2 .and (.b2 .or (.b2 .eq (.var 19) (.lit (0))) (.bapp 15 (.cons (.int .i64 (.var 1)) (.cons (.int .i64 (.var 2)) (.cons (.int .i64 (.var 3)) (.cons (.int .i64 (.var 4)) (.cons (.int .u32 (.var 5)) (.cons (.int .i64 (.var 6)) (.cons (.int .u32 (.var 7)) (.cons (.int .i64 (.var 8)) (.cons (.int .i64 (.var 9)) (.cons (.int .i64 (.var 10)) (.cons (.int .i64 (.var 11)) (.cons (.int .i64 (.var 15)) (.cons (.int .i64 (.var 14)) (.cons (.int .i64 (.var 18)) (.cons (.int .i64 (.i2 .sub (.var 19) (.lit (1)))) .nil))))))))))))))))) (.b2 .or (.b2 .eq (.var 20) (.var 0)) (.not (.bapp 15 (.cons (.int .i64 (.var 1)) (.cons (.int .i64 (.var 2)) (.cons (.int .i64 (.var 3)) (.cons (.int .i64 (.var 4)) (.cons (.int .u32 (.var 5)) (.cons (.int .i64 (.var 6)) (.cons (.int .u32 (.var 7)) (.cons (.int .i64 (.var 8)) (.cons (.int .i64 (.var 9)) (.cons (.int .i64 (.var 10)) (.cons (.int .i64 (.var 11)) (.cons (.int .i64 (.var 15)) (.cons (.int .i64 (.var 14)) (.cons (.int .i64 (.var 18)) (.cons (.int .i64 (.var 20)) .nil))))))))))))))))))))))
abbrev xrbwbndk12_ : Tm := (.wrap .i64 (.i2 (.shr .u64) (.wrap .u64 (.wrap .i64 (.i2 .add (.var 19) (.var 20)))) (.lit (1))))
abbrev xrbwbndk13_ : Tm := (.agg (.cons (.int .i64 (.var 10)) (.cons (.int .i64 (.var 11)) (.cons (.int .i64 (.var 12)) (.cons (.int .i64 (.var 13)) (.cons (.int .i64 (.var 14)) (.cons (.int .i64 (.var 15)) (.cons (.bool (.bvar 0)) (.cons (.str 0) (.cons (.int .i64 (.var 16)) (.cons (.hs .no (.cons (.int .i64) (.cons (.int .i64) (.cons .str .nil))) (.opq 0)) .nil)))))))))))
abbrev xrbwbndk14_ : Tm := (.b2 .eq (.iapp 31 (.cons (.int .i64 (.var 11)) (.cons (.int .i64 (.var 12)) (.cons (.int .i64 (.var 13)) (.cons (.int .i64 (.var 14)) (.cons (.int .i64 (.var 15)) (.cons (.int .i64 (.var 16)) (.cons (.str 0) (.cons (.int .i64 (.var 17)) (.cons (.opq 0) .nil)))))))))) (.lit (0)))
abbrev xrbwbndk15_ : Tm := (.iapp 35 (.cons (.int .i64 xrbwbndk1_) (.cons (.int .i64 (.iapp 10 (.cons (.int .i64 (.iapp 1 (.cons (.int .i64 (.i2 .add (.iapp 12 (.cons (.int .u32 (.var 6)) (.cons (.int .i64 (.var 7)) (.cons (.int .i64 (.i2 .sub (.wrap .i64 (.i2 .add (.var 1) (.var 10))) (.var 1))) .nil)))) (.lit (1)))) .nil))) (.cons (.int .i64 (.var 8)) .nil)))) .nil)))
abbrev xrbwbndk16_ : Tm := (.iapp 35 (.cons (.int .i64 xrbwbndk0_) (.cons (.int .i64 (.iapp 10 (.cons (.int .i64 (.iapp 1 (.cons (.int .i64 (.i2 .add (.iapp 12 (.cons (.int .u32 (.var 7)) (.cons (.int .i64 (.var 8)) (.cons (.int .i64 (.i2 .sub (.wrap .i64 (.i2 .add (.var 2) (.var 0))) (.var 2))) .nil)))) (.lit (1)))) .nil))) (.cons (.int .i64 (.var 9)) .nil)))) .nil)))
abbrev xrbwbndk18_ : Tm := (.bapp 1 (.cons (.int .i64 (.var 1)) (.cons (.int .i64 (.var 2)) (.cons (.int .i64 (.var 3)) (.cons (.int .i64 (.var 4)) (.cons (.int .u32 (.var 5)) (.cons (.int .i64 (.var 6)) (.cons (.int .u32 (.var 7)) (.cons (.int .i64 (.var 8)) (.cons (.int .i64 (.var 9)) (.cons (.int .i64 (.var 10)) .nil)))))))))))
abbrev xrbwbndk19_ : Tm := (.b2 .and (.b2 .eq (.var 19) (.lit (0))) (.b2 .or (.b2 .lt (.var 9) (.i2 .add (.var 18) (.lit (1)))) (.not (.bapp 15 (.cons (.int .i64 (.var 0)) (.cons (.int .i64 (.var 1)) (.cons (.int .i64 (.var 2)) (.cons (.int .i64 (.var 3)) (.cons (.int .u32 (.var 4)) (.cons (.int .i64 (.var 5)) (.cons (.int .u32 (.var 6)) (.cons (.int .i64 (.var 7)) (.cons (.int .i64 (.var 8)) (.cons (.int .i64 (.var 9)) (.cons (.int .i64 (.var 10)) (.cons (.int .i64 (.var 14)) (.cons (.int .i64 (.var 13)) (.cons (.int .i64 (.var 17)) (.cons (.int .i64 (.i2 .add (.var 18) (.lit (1)))) .nil)))))))))))))))))))
abbrev xrbwbndk20_ : Tm := (.b2 .eq (.iapp 31 (.cons (.int .i64 (.var 10)) (.cons (.int .i64 (.var 11)) (.cons (.int .i64 (.var 12)) (.cons (.int .i64 (.var 13)) (.cons (.int .i64 (.var 14)) (.cons (.int .i64 (.var 15)) (.cons (.str 0) (.cons (.int .i64 (.var 16)) (.cons (.opq 0) .nil)))))))))) (.lit (0)))
abbrev xrbwbndk21_ : Tm := (.b2 .and (.b2 .le (.blen (.str 0)) (.lit (200))) (.bapp 6 (.cons (.opq 0) .nil)))
abbrev xrbwbndk33_ : Tm := (.wrap .i64 (.i2 .add (.var 18) (.var 19)))
abbrev xrbwbndk22_ : Tm := (.bapp 15 (.cons (.int .i64 (.var 0)) (.cons (.int .i64 (.var 1)) (.cons (.int .i64 (.var 2)) (.cons (.int .i64 (.var 3)) (.cons (.int .u32 (.var 4)) (.cons (.int .i64 (.var 5)) (.cons (.int .u32 (.var 6)) (.cons (.int .i64 (.var 7)) (.cons (.int .i64 (.var 8)) (.cons (.int .i64 (.var 9)) (.cons (.int .i64 (.var 10)) (.cons (.int .i64 (.var 14)) (.cons (.int .i64 (.var 13)) (.cons (.int .i64 (.var 17)) (.cons (.int .i64 xrbwbndk33_) .nil))))))))))))))))
abbrev xrbwbndk23_ : Tm := (.not (.bapp 15 (.cons (.int .i64 (.var 1)) (.cons (.int .i64 (.var 2)) (.cons (.int .i64 (.var 3)) (.cons (.int .i64 (.var 4)) (.cons (.int .u32 (.var 5)) (.cons (.int .i64 (.var 6)) (.cons (.int .u32 (.var 7)) (.cons (.int .i64 (.var 8)) (.cons (.int .i64 (.var 9)) (.cons (.int .i64 (.var 10)) (.cons (.int .i64 (.var 11)) (.cons (.int .i64 (.var 15)) (.cons (.int .i64 (.var 14)) (.cons (.int .i64 (.var 18)) (.cons (.int .i64 (.var 0)) .nil)))))))))))))))))
abbrev xrbwbndk24_ : Tm := (.bapp 15 (.cons (.int .i64 (.var 0)) (.cons (.int .i64 (.var 1)) (.cons (.int .i64 (.var 2)) (.cons (.int .i64 (.var 3)) (.cons (.int .u32 (.var 4)) (.cons (.int .i64 (.var 5)) (.cons (.int .u32 (.var 6)) (.cons (.int .i64 (.var 7)) (.cons (.int .i64 (.var 8)) (.cons (.int .i64 (.var 9)) (.cons (.int .i64 (.var 10)) (.cons (.int .i64 (.var 14)) (.cons (.int .i64 (.var 13)) (.cons (.int .i64 (.var 17)) (.cons (.int .i64 (.lit (0))) .nil))))))))))))))))
abbrev xrbwbndk26_ : Tm := (.bapp 15 (.cons (.int .i64 (.var 1)) (.cons (.int .i64 (.var 2)) (.cons (.int .i64 (.var 3)) (.cons (.int .i64 (.var 4)) (.cons (.int .u32 (.var 5)) (.cons (.int .i64 (.var 6)) (.cons (.int .u32 (.var 7)) (.cons (.int .i64 (.var 8)) (.cons (.int .i64 (.var 9)) (.cons (.int .i64 (.var 10)) (.cons (.int .i64 (.var 11)) (.cons (.int .i64 (.var 15)) (.cons (.int .i64 (.var 14)) (.cons (.int .i64 (.var 18)) (.cons (.int .i64 xrbwbndk12_) .nil))))))))))))))))
abbrev xrbwbndk27_ : Tm := (.iapp 35 (.cons (.int .i64 xrbwbndk1_) (.cons (.int .i64 (.i2 .add (.iapp 11 (.cons (.int .i64 (.i2 .sub (.wrap .i64 (.i2 .add (.var 1) (.var 10))) (.var 1))) (.cons (.int .i64 (.var 7)) .nil))) (.lit (4)))) .nil)))
abbrev xrbwbndk28_ : Tm := (.iapp 35 (.cons (.int .i64 xrbwbndk0_) (.cons (.int .i64 (.i2 .add (.iapp 11 (.cons (.int .i64 (.i2 .sub (.wrap .i64 (.i2 .add (.var 2) (.var 0))) (.var 2))) (.cons (.int .i64 (.var 8)) .nil))) (.lit (4)))) .nil)))
abbrev xrbwbndk29_ : Tm := (.b2 .eq (.iapp 31 (.cons (.int .i64 (.var 10)) (.cons (.int .i64 (.var 11)) (.cons (.int .i64 (.var 12)) (.cons (.int .i64 (.var 13)) (.cons (.int .i64 (.var 14)) (.cons (.int .i64 (.var 15)) (.cons (.str 0) (.cons (.int .i64 (.var 16)) (.cons (.hs .no (.cons (.int .i64) (.cons (.int .i64) (.cons .str .nil))) (.opq 0)) .nil)))))))))) (.lit (0)))
abbrev xrbwbndk31_ : Tm := (.b2 .and (.b2 .le (.lit (-9223372036854775808)) (.var 18)) (.b2 .le (.var 18) (.lit (9223372036854775807))))
abbrev xrbwbndk32_ : Tm := (.tup (.cons (.int .i64 (.var 1)) (.cons (.int .i64 (.var 2)) (.cons (.int .i64 (.var 3)) (.cons (.int .i64 (.var 4)) (.cons (.int .u32 (.var 5)) (.cons (.int .i64 (.var 6)) (.cons (.int .u32 (.var 7)) (.cons (.int .i64 (.var 8)) (.cons (.int .i64 (.var 9)) (.cons (.int .i64 (.var 10)) .nil)))))))))))
abbrev xrbwbndk34_ : Tm := (.tup (.cons (.int .i64 (.var 11)) (.cons (.int .i64 (.var 12)) (.cons (.int .i64 (.var 13)) (.cons (.int .i64 (.var 14)) (.cons (.int .i64 (.var 15)) (.cons (.int .i64 (.var 16)) (.cons (.bool (.bvar 0)) (.cons (.str 0) (.cons (.int .i64 (.var 17)) (.cons (.opq 0) .nil)))))))))))
abbrev xrbwbndk35_ : Tm := (.tup (.cons (.int .i64 (.iapp 35 (.cons (.int .i64 xrbwbndk3_) (.cons (.int .i64 (.i2 .sub xrbwbndk8_ (.lit (1)))) .nil)))) (.cons (.int .i64 xrbwbndk3_) .nil)))
abbrev xrbwbndk36_ : Tm := (.iapp 35 (.cons (.int .i64 xrbwbndk1_) (.cons (.int .i64 (.iapp 39 (.cons (.int .i64 (.var 11)) .nil))) .nil)))
abbrev xrbwbndk37_ : Tm := (.iapp 35 (.cons (.int .i64 xrbwbndk0_) (.cons (.int .i64 (.iapp 39 (.cons (.int .i64 (.var 11)) .nil))) .nil)))
theorem q_mono {a s g h : Int} (hf : fmP a s) (hgh : g ≤ h) : qE a s g ≤ qE a s h := qE_mono hf hgh
def gdQ (r ps pm p sk fw qu g : Int) : Int := smI r (upK (satE (qE pm ps g + 1) * p)) (g / 2 ^ ps.toNat + 4) fw (qu - 1) (lpI sk) 0
def gdP (e b t r gm gs pm ps p c sk fw qu lim g : Int) : Prop := g ≤ c ∧ t + qE gm gs g < 4611686018427387904 ∧ qE pm ps g ≤ 9223372036854775807 ∧ gdQ r ps pm p sk fw qu g ≤ lim
instance (e b t r gm gs pm ps p c sk fw qu lim g : Int) : Decidable (gdP e b t r gm gs pm ps p c sk fw qu lim g) := by unfold gdP; infer_instance
def gdB (e b t r gm gs pm ps p c sk fw qu lim g : Int) : Bool := decide (gdP e b t r gm gs pm ps p c sk fw qu lim g)
def agP (e b t r gm gs pm ps p c sk fw qu lim i : Int) : Prop := 0 ≤ i ∧ i ≤ c + 1 ∧ (i = 0 ∨ gdB e b t r gm gs pm ps p c sk fw qu lim (i - 1) = true) ∧ (i = c + 1 ∨ gdB e b t r gm gs pm ps p c sk fw qu lim i = false)
noncomputable def agI (e b t r gm gs pm ps p c sk fw qu lim : Int) : Int := @dite Int (∃ i, agP e b t r gm gs pm ps p c sk fw qu lim i) (Classical.propDecidable _) (fun h => Classical.choose h) (fun _ => 0)
def aeE (g o x : Int) : Int := if g = 0 ∧ o = 0 then (if x = 0 then 13 else 0) else 1
theorem ae_spec (g o x : Int) : ((g = 0 ∧ o = 0) ∧ ((x = 0 ∧ aeE g o x = 13) ∨ (x ≠ 0 ∧ aeE g o x = 0))) ∨ ((g ≠ 0 ∨ o ≠ 0) ∧ aeE g o x = 1) := by
 unfold aeE
 split
 · split <;> omega
 · omega
theorem pg_case (e b t r gm gs pm ps p c : Int) : (pgP e b t r gm gs pm ps p c ∧ pgE e b t r gm gs pm ps p c = 0) ∨ (¬ pgP e b t r gm gs pm ps p c ∧ pgE e b t r gm gs pm ps p c = 1) := by
 by_cases h : pgP e b t r gm gs pm ps p c
 · exact .inl ⟨h, pgE_y h⟩
 · exact .inr ⟨h, pgE_n h⟩
theorem satM {x y : Int} (h : x ≤ y) : satE x ≤ satE y := by
 have a := satE_spec x
 have b := satE_spec y
 omega
theorem up_mono {x y : Int} (h : x ≤ y) : upK x ≤ upK y := by
 have a := up_qr x
 have b := up_qr y
 omega
theorem sm_mono {a b c d e f g a' b' c' d' e' f' g' : Int} (ha : a ≤ a') (hb : b ≤ b') (hc : c ≤ c') (hd : d ≤ d') (he : e ≤ e') (hf : f ≤ f') (hg : g ≤ g') : smI a b c d e f g ≤ smI a' b' c' d' e' f' g' := by
 unfold smI
 have h1 := satM (x := 0 + a) (y := 0 + a') (by omega)
 have h2 := satM (x := satE (0 + a) + b) (y := satE (0 + a') + b') (by omega)
 have h3 := satM (x := satE (satE (0 + a) + b) + c) (y := satE (satE (0 + a') + b') + c') (by omega)
 have h4 := satM (x := satE (satE (satE (0 + a) + b) + c) + d) (y := satE (satE (satE (0 + a') + b') + c') + d') (by omega)
 have h5 := satM (x := satE (satE (satE (satE (0 + a) + b) + c) + d) + e) (y := satE (satE (satE (satE (0 + a') + b') + c') + d') + e') (by omega)
 have h6 := satM (x := satE (satE (satE (satE (satE (0 + a) + b) + c) + d) + e) + f) (y := satE (satE (satE (satE (satE (0 + a') + b') + c') + d') + e') + f') (by omega)
 exact satM (by omega)
theorem gdQ_mono {r ps pm p sk fw qu g h : Int} (hf : fmP pm ps) (p0 : 0 ≤ p) (hgh : g ≤ h) : gdQ r ps pm p sk fw qu g ≤ gdQ r ps pm p sk fw qu h := by
 unfold gdQ
 have hq := q_mono hf hgh
 have hs := satM (x := qE pm ps g + 1) (y := qE pm ps h + 1) (by omega)
 have hu := up_mono (Int.mul_le_mul_of_nonneg_right hs p0)
 have hd : g / 2 ^ ps.toNat ≤ h / 2 ^ ps.toNat := Int.ediv_le_ediv (Int.pow_pos (by decide)) hgh
 exact sm_mono (by omega) hu (by omega) (by omega) (by omega) (by omega) (by omega)
theorem gd_mono {e b t r gm gs pm ps p c sk fw qu lim g h : Int} (f1 : fmP gm gs) (f2 : fmP pm ps) (p0 : 0 ≤ p) (hgh : g ≤ h) (hh : gdB e b t r gm gs pm ps p c sk fw qu lim h = true) : gdB e b t r gm gs pm ps p c sk fw qu lim g = true := by
 unfold gdB at *
 have hh := of_decide_eq_true hh
 refine decide_eq_true ?_
 obtain ⟨b1, b2, b3, b4⟩ := hh
 have q1 := q_mono f1 hgh
 have q2 := q_mono f2 hgh
 have q3 := gdQ_mono (r := r) (sk := sk) (fw := fw) (qu := qu) f2 p0 hgh
 exact ⟨by omega, by omega, by omega, by omega⟩
theorem ag_lt {e b t r gm gs pm ps p c sk fw qu lim i j : Int} (f1 : fmP gm gs) (f2 : fmP pm ps) (p0 : 0 ≤ p) (h1 : agP e b t r gm gs pm ps p c sk fw qu lim i) (h2 : agP e b t r gm gs pm ps p c sk fw qu lim j) : ¬ i < j := fun h => by
 obtain ⟨a1, a2, a3, a4⟩ := h1
 obtain ⟨b1, b2, b3, b4⟩ := h2
 have hb : gdB e b t r gm gs pm ps p c sk fw qu lim (j - 1) = true := by rcases b3 with b3 | b3; omega; exact b3
 have ha : gdB e b t r gm gs pm ps p c sk fw qu lim i = false := by rcases a4 with a4 | a4; omega; exact a4
 have hm := gd_mono f1 f2 p0 (show i ≤ j - 1 by omega) hb
 rw [ha] at hm
 exact absurd hm (by decide)
theorem ag_eq {e b t r gm gs pm ps p c sk fw qu lim i : Int} (f1 : fmP gm gs) (f2 : fmP pm ps) (p0 : 0 ≤ p) (h : agP e b t r gm gs pm ps p c sk fw qu lim i) : agI e b t r gm gs pm ps p c sk fw qu lim = i := by
 have hex : ∃ i, agP e b t r gm gs pm ps p c sk fw qu lim i := ⟨i, h⟩
 have e : agI e b t r gm gs pm ps p c sk fw qu lim = Classical.choose hex := by unfold agI; rw [dif_pos hex]
 have hs := Classical.choose_spec hex
 have h1 := ag_lt f1 f2 p0 hs h
 have h2 := ag_lt f1 f2 p0 h hs
 omega
theorem ag_nn (e b t r gm gs pm ps p c sk fw qu lim : Int) : 0 ≤ agI e b t r gm gs pm ps p c sk fw qu lim := by
 unfold agI
 by_cases h : ∃ i, agP e b t r gm gs pm ps p c sk fw qu lim i
 · rw [dif_pos h]; exact (Classical.choose_spec h).1
 · rw [dif_neg h]; exact Int.le_refl _
theorem ag_le (e b t r gm gs pm ps p c sk fw qu lim : Int) (hc : 0 ≤ c) : agI e b t r gm gs pm ps p c sk fw qu lim ≤ c + 1 := by
 unfold agI
 by_cases h : ∃ i, agP e b t r gm gs pm ps p c sk fw qu lim i
 · rw [dif_pos h]; exact (Classical.choose_spec h).2.1
 · rw [dif_neg h]; omega
theorem td2 {b : Int} (h : 0 ≤ b) : b.tdiv 2 = b / 2 := Int.tdiv_eq_ediv_of_nonneg h
theorem mid_eq {x y : Int} (h0 : 0 ≤ x) (h1 : x ≤ y) (h2 : y ≤ 2251799813685248) : IntKind.wrap .i64 ((IntKind.wrap .u64 (IntKind.wrap .i64 (x + y))).fdiv (2 ^ Min.min (Int.toNat 1) (IntKind.bits .u64))) = (x + y) / 2 := by
 rw [show IntKind.wrap .i64 (x + y) = x + y by (have := wr_i64 (x + y); omega), show IntKind.wrap .u64 (x + y) = x + y by (have := wr_u64 (x + y); omega), show (2 : Int) ^ Min.min (Int.toNat 1) (IntKind.bits .u64) = 2 from rfl, Int.fdiv_eq_ediv_of_nonneg _ (by omega)]
 have := wr_i64 ((x + y) / 2)
 omega
noncomputable def bwI : Nat → List Value → Int
 | 41, [.int _ e, .int _ b, .int _ t, .int _ r, .int _ gm, .int _ gs, .int _ pm, .int _ ps, .int _ p, .int _ c, .int _ sk, .int _ fw, .int _ qu, .int _ lim] => agI e b t r gm gs pm ps p c sk fw qu lim
 | 42, [.int _ g, .int _ o, .int _ x] => aeE g o x
 | i, l => bvI i l
noncomputable def bwB : Nat → List Value → Bool
 | 15, [.int _ e, .int _ b, .int _ t, .int _ r, .int _ gm, .int _ gs, .int _ pm, .int _ ps, .int _ p, .int _ c, .int _ sk, .int _ fw, .int _ qu, .int _ lim, .int _ g] => gdB e b t r gm gs pm ps p c sk fw qu lim g
 | i, l => bvB i l
noncomputable def bwV : Nat → List Value → Value
 | i, l => bvV i l
noncomputable abbrev bwE (iv : List Int) (bv : List Bool) (vv : List Value) (sv : List ByteArray) : Env := { iv := iv, bv := bv, vv := vv, sv := sv, fi := bwI, fb := bwB, fv := bwV, et := 111 }
set_option maxHeartbeats 8000000 in
theorem bwup : Agree 41 15 0 (bvE [] [] [] []) (bwE [] [] [] []) := ⟨rfl, (by
   intro f hf
   funext l
   show bwI f l = bvI f l
   unfold bwI
   split <;> first | rfl | omega), (by
   intro f hf
   funext l
   show bwB f l = bvB f l
   unfold bwB
   split <;> first | rfl | omega), (by
   intro f hf
   funext l
   show bwV f l = bvV f l
   unfold bwV
   split <;> first | rfl | omega)⟩
theorem bwi_sa (k1 : IntKind) (a : Int) : bwI 1 [.int k1 a] = satE a := rfl
theorem bwi_up (k1 : IntKind) (g : Int) (k2 : IntKind) (r : Int) : bwI 10 [.int k1 g, .int k2 r] = upK (g * r) := rfl
theorem bwi_hv (k1 : IntKind) (n : Int) (k2 : IntKind) (s : Int) : bwI 11 [.int k1 n, .int k2 s] = n / 2 ^ s.toNat := rfl
theorem bwi_q (k1 : IntKind) (a : Int) (k2 : IntKind) (s : Int) (k3 : IntKind) (g : Int) : bwI 12 [.int k1 a, .int k2 s, .int k3 g] = qE a s g := rfl
theorem bwi_pge (k1 : IntKind) (e : Int) (k2 : IntKind) (b : Int) (k3 : IntKind) (t : Int) (k4 : IntKind) (r : Int) (k5 : IntKind) (gm : Int) (k6 : IntKind) (gs : Int) (k7 : IntKind) (pm : Int) (k8 : IntKind) (ps : Int) (k9 : IntKind) (p : Int) (k10 : IntKind) (c : Int) : bwI 14 [.int k1 e, .int k2 b, .int k3 t, .int k4 r, .int k5 gm, .int k6 gs, .int k7 pm, .int k8 ps, .int k9 p, .int k10 c] = pgE e b t r gm gs pm ps p c := rfl
theorem bwi_tme (k1 : IntKind) (e : Int) (k2 : IntKind) (b : Int) (k3 : IntKind) (t : Int) (k4 : IntKind) (r : Int) (k5 : IntKind) (gm : Int) (k6 : IntKind) (gs : Int) (k7 : IntKind) (pm : Int) (k8 : IntKind) (ps : Int) (k9 : IntKind) (p : Int) (k10 : IntKind) (c : Int) (k11 : IntKind) (k : Int) : bwI 20 [.int k1 e, .int k2 b, .int k3 t, .int k4 r, .int k5 gm, .int k6 gs, .int k7 pm, .int k8 ps, .int k9 p, .int k10 c, .int k11 k] = tmE e b t r gm gs pm ps p c k := rfl
theorem bwi_poe (k1 : IntKind) (k : Int) (k2 : IntKind) (b : Int) (k3 : IntKind) (a : Int) (k4 : IntKind) (q : Int) (k5 : IntKind) (w : Int) (k6 : IntKind) (c : Int) (s : ByteArray) (k7 : IntKind) (f : Int) (l : Value) : bwI 31 [.int k1 k, .int k2 b, .int k3 a, .int k4 q, .int k5 w, .int k6 c, .string s, .int k7 f, l] = poE k b a q w c s f (rows l) := rfl
theorem bwi_gdw (k1 : IntKind) (e : Int) (k2 : IntKind) (x : Int) : bwI 35 [.int k1 e, .int k2 x] = gdF e x := rfl
theorem bwi_boe (k1 : IntKind) (p : Int) (k2 : IntKind) (r : Int) (k3 : IntKind) (t : Int) : bwI 38 [.int k1 p, .int k2 r, .int k3 t] = boE p r t := rfl
theorem bwi_lp (k1 : IntKind) (k : Int) : bwI 39 [.int k1 k] = lpI k := rfl
theorem bwi_sm (k1 : IntKind) (a : Int) (k2 : IntKind) (b : Int) (k3 : IntKind) (c : Int) (k4 : IntKind) (d : Int) (k5 : IntKind) (e : Int) (k6 : IntKind) (f : Int) (k7 : IntKind) (g : Int) : bwI 40 [.int k1 a, .int k2 b, .int k3 c, .int k4 d, .int k5 e, .int k6 f, .int k7 g] = smI a b c d e f g := rfl
theorem bwi_ag (k1 : IntKind) (e : Int) (k2 : IntKind) (b : Int) (k3 : IntKind) (t : Int) (k4 : IntKind) (r : Int) (k5 : IntKind) (gm : Int) (k6 : IntKind) (gs : Int) (k7 : IntKind) (pm : Int) (k8 : IntKind) (ps : Int) (k9 : IntKind) (p : Int) (k10 : IntKind) (c : Int) (k11 : IntKind) (sk : Int) (k12 : IntKind) (fw : Int) (k13 : IntKind) (qu : Int) (k14 : IntKind) (lim : Int) : bwI 41 [.int k1 e, .int k2 b, .int k3 t, .int k4 r, .int k5 gm, .int k6 gs, .int k7 pm, .int k8 ps, .int k9 p, .int k10 c, .int k11 sk, .int k12 fw, .int k13 qu, .int k14 lim] = agI e b t r gm gs pm ps p c sk fw qu lim := rfl
theorem bwi_ae (k1 : IntKind) (g : Int) (k2 : IntKind) (o : Int) (k3 : IntKind) (x : Int) : bwI 42 [.int k1 g, .int k2 o, .int k3 x] = aeE g o x := rfl
theorem bwb_pm (k1 : IntKind) (e : Int) (k2 : IntKind) (b : Int) (k3 : IntKind) (t : Int) (k4 : IntKind) (r : Int) (k5 : IntKind) (gm : Int) (k6 : IntKind) (gs : Int) (k7 : IntKind) (pm : Int) (k8 : IntKind) (ps : Int) (k9 : IntKind) (p : Int) (k10 : IntKind) (c : Int) : bwB 1 [.int k1 e, .int k2 b, .int k3 t, .int k4 r, .int k5 gm, .int k6 gs, .int k7 pm, .int k8 ps, .int k9 p, .int k10 c] = decide (pgP e b t r gm gs pm ps p c) := rfl
theorem bwb_p2 (k1 : IntKind) (b : Int) : bwB 2 [.int k1 b] = p2B b := rfl
theorem bwb_shr (l : Value) : bwB 6 [l] = shortR (rows l) := rfl
theorem bwb_gd (k1 : IntKind) (e : Int) (k2 : IntKind) (b : Int) (k3 : IntKind) (t : Int) (k4 : IntKind) (r : Int) (k5 : IntKind) (gm : Int) (k6 : IntKind) (gs : Int) (k7 : IntKind) (pm : Int) (k8 : IntKind) (ps : Int) (k9 : IntKind) (p : Int) (k10 : IntKind) (c : Int) (k11 : IntKind) (sk : Int) (k12 : IntKind) (fw : Int) (k13 : IntKind) (qu : Int) (k14 : IntKind) (lim : Int) (k15 : IntKind) (g : Int) : bwB 15 [.int k1 e, .int k2 b, .int k3 t, .int k4 r, .int k5 gm, .int k6 gs, .int k7 pm, .int k8 ps, .int k9 p, .int k10 c, .int k11 sk, .int k12 fw, .int k13 qu, .int k14 lim, .int k15 g] = gdB e b t r gm gs pm ps p c sk fw qu lim g := rfl
def bcl_tree : Tree :=
 (.need (.b2 .and xrbwbndk6_ (.b2 .and (.b2 .and (.b2 .le (.lit (-9223372036854775808)) (.wrap .i64 (.i2 .add (.var 2) (.var 0)))) (.b2 .le (.wrap .i64 (.i2 .add (.var 2) (.var 0))) (.lit (9223372036854775807)))) xrbwbndk5_))
 (.br (.not (.b2 .eq xrbwbndk0_ (.lit (0))))
 (.ret (.bool (.tt true)))
 (.need (.b2 .and (.b2 .and (.b2 .le (.lit (-9223372036854775808)) (.iapp 35 (.cons (.int .i64 xrbwbndk0_) (.cons (.int .i64 (.var 4)) .nil)))) (.b2 .le (.iapp 35 (.cons (.int .i64 xrbwbndk0_) (.cons (.int .i64 (.var 4)) .nil))) (.lit (9223372036854775807)))) (.b2 .and (.b2 .and (.b2 .le (.lit (-9223372036854775808)) xrbwbndk16_) (.b2 .le xrbwbndk16_ (.lit (9223372036854775807)))) (.b2 .and (.b2 .and (.b2 .le (.lit (-9223372036854775808)) xrbwbndk28_) (.b2 .le xrbwbndk28_ (.lit (9223372036854775807)))) (.b2 .and (.b2 .and (.b2 .le (.lit (-9223372036854775808)) (.iapp 35 (.cons (.int .i64 xrbwbndk0_) (.cons (.int .i64 (.var 15)) .nil)))) (.b2 .le (.iapp 35 (.cons (.int .i64 xrbwbndk0_) (.cons (.int .i64 (.var 15)) .nil))) (.lit (9223372036854775807)))) (.b2 .and (.b2 .and (.b2 .le (.lit (-9223372036854775808)) (.iapp 35 (.cons (.int .i64 xrbwbndk0_) (.cons (.int .i64 (.i2 .sub (.var 14) (.lit (1)))) .nil)))) (.b2 .le (.iapp 35 (.cons (.int .i64 xrbwbndk0_) (.cons (.int .i64 (.i2 .sub (.var 14) (.lit (1)))) .nil))) (.lit (9223372036854775807)))) (.b2 .and (.b2 .and (.b2 .le (.lit (-9223372036854775808)) xrbwbndk37_) (.b2 .le xrbwbndk37_ (.lit (9223372036854775807)))) (.b2 .and (.b2 .le (.lit (-9223372036854775808)) (.iapp 35 (.cons (.int .i64 xrbwbndk0_) (.cons (.int .i64 (.lit (0))) .nil)))) (.b2 .le (.iapp 35 (.cons (.int .i64 xrbwbndk0_) (.cons (.int .i64 (.lit (0))) .nil))) (.lit (9223372036854775807))))))))))
 (.ret (.bool (.b2 .lt (.var 18) (.iapp 40 (.cons (.int .i64 (.iapp 35 (.cons (.int .i64 xrbwbndk0_) (.cons (.int .i64 (.var 4)) .nil)))) (.cons (.int .i64 xrbwbndk16_) (.cons (.int .i64 xrbwbndk28_) (.cons (.int .i64 (.iapp 35 (.cons (.int .i64 xrbwbndk0_) (.cons (.int .i64 (.var 15)) .nil)))) (.cons (.int .i64 (.iapp 35 (.cons (.int .i64 xrbwbndk0_) (.cons (.int .i64 (.i2 .sub (.var 14) (.lit (1)))) .nil)))) (.cons (.int .i64 xrbwbndk37_) (.cons (.int .i64 (.iapp 35 (.cons (.int .i64 xrbwbndk0_) (.cons (.int .i64 (.lit (0))) .nil)))) .nil))))))))))))))
abbrev bwc_bcl : Con := ⟨76, [(.int .i64 (.var 0)), (.ep (.cons (.int .i64) (.cons (.int .i64) (.cons (.int .i64) (.cons (.int .i64) (.cons (.int .u32) (.cons (.int .i64) (.cons (.int .u32) (.cons (.int .i64) (.cons (.int .i64) (.cons (.int .i64) .nil)))))))))) xrbwbndk32_ (.lit 0) 0), (.ep (.cons (.int .i64) (.cons (.int .i64) (.cons (.int .i64) (.cons (.int .i64) (.cons (.int .i64) (.cons (.int .i64) (.cons .bool (.cons .str (.cons (.int .i64) (.cons (.sl (.cons (.int .i64) (.cons (.int .i64) (.cons .str .nil)))) .nil)))))))))) xrbwbndk34_ (.lit 0) 0), (.ep (.cons (.int .i64) .nil) (.tup (.cons (.int .i64 (.var 18)) .nil)) (.lit 0) 0)], (.b2 .and xrbwbndk6_ (.b2 .and xrbwbndk18_ (.b2 .and xrbwbndk5_ (.b2 .and xrbwbndk14_ (.b2 .and xrbwbndk31_ (.b2 .and (.b2 .le (.lit (0)) (.var 0)) (.b2 .le (.var 0) (.lit (1125899906842624))))))))), (.bool xrbwbndk23_), ⟨19, 1, 1, 1⟩, none⟩
theorem bcl_w : walk Tryz.prog 111 ⟨[bxc_bof, bvc_bsum], syG, [39, 91, 2], [], []⟩ [] .v bwc_bcl bwc_bcl.n 3000 = some bcl_tree := by kernel_rfl
theorem bcl_h (g pe pb pt pr gm gs qm qs pp pc sk sb sa qu fw fc f lim : Int) (j : Bool) (l : Value) (s : ByteArray) : Hyp_ bwc_bcl bcl_tree (bwE [g, pe, pb, pt, pr, gm, gs, qm, qs, pp, pc, sk, sb, sa, qu, fw, fc, f, lim] [j] [l] [s]) := by
 intro hc hty
 simp only [bwc_bcl, Sy.holds, bwE, denV, denI, denB, denL, I2.den, VOp.den, List.getD_cons_zero, List.getD_cons_succ, Cst.den, syso, syse, syio, sybo, bwi_poe, bwb_pm, B2.ofInts, B2.denI, B2.denB, if_true, Bool.false_eq_true, if_false, Nat.div_one, Nat.mul_one, Nat.add_zero] at hc
 simp only [bwc_bcl, patsTyp, patTyp, patTypL, bwE, denV, denL, List.getD_cons_zero, List.getD_cons_succ, and_true, true_and] at hty
 unfold bcl_tree
 simp only [bwc_bcl, Tree.holds, Sy.holds, bwE, denV, denI, denB, denL, I2.den, VOp.den, List.getD_cons_zero, List.getD_cons_succ, Cst.den, syso, syse, syio, sybo, bwi_sa, bwi_up, bwi_hv, bwi_q, bwi_tme, bwi_poe, bwi_gdw, bwi_boe, bwi_lp, bwi_sm, bwb_gd, B2.ofInts, B2.denI, B2.denB, if_true, Bool.false_eq_true, if_false, Nat.div_one, Nat.mul_one, Nat.add_zero]
 have hp : pgP pe pb pt pr gm gs qm qs pp pc := of_decide_eq_true hc.2.1
 have he := pgE_y hp
 obtain ⟨a1, a2, a3, a4, a5, a6, a7, a8, f1, f2, a11, a12, a13, a14⟩ := id hp
 have hpo := hc.2.2.2.1
 have wk : IntKind.wrap .i64 (pb + g) = pb + g := by have := wr_i64 (pb + g); omega
 simp only [wk]
 have hO := bo_spec (poE sk sb sa qu fw fc s f (Sy.rows l)) 0 (tmE pe pb pt pr gm gs qm qs pp pc (pb + g))
 have hT := tm_spec pe pb pt pr gm gs qm qs pp pc (pb + g)
 have hpi := fun h : boE (poE sk sb sa qu fw fc s f (Sy.rows l)) 0 (tmE pe pb pt pr gm gs qm qs pp pc (pb + g)) = 0 => parts_in h
 obtain ⟨E, hE⟩ : ∃ x, boE (poE sk sb sa qu fw fc s f (Sy.rows l)) 0 (tmE pe pb pt pr gm gs qm qs pp pc (pb + g)) = x := ⟨_, rfl⟩
 simp only [hE] at hO hpi ⊢
 have kg : pb + g - pb = g := by omega
 simp only [kg] at hT hpi ⊢
 have hlp := lp_rng sk
 refine ⟨?_, fun h0 => ?_⟩
 refine ?a0; rotate_left
 refine ⟨fun h1 => ?_, fun h1 => ?_⟩
 refine ?a1; rotate_left
 refine ⟨?_, fun h2 => ?_⟩
 refine ?a2; rotate_left
 refine ?a3; rotate_left
 case a0 | a2 =>
  first
  | exact True.intro
  | omega
  | exact ⟨hc.1, by omega, hc.2.2.1, by omega⟩
  | (have hx : E = 0 := by omega
     obtain ⟨_, qp, z0, z1, z2, z3⟩ := hpi hx
     obtain ⟨b1, b2, b3, b4, b5, b6, b7, b8⟩ := id qp
     simp only [gw_y hx]
     omega)
  | skip
 case a1 | a3 =>
  first
  | (have hx : E = 0 := by omega
     obtain ⟨_, qp, z0, z1, z2, z3⟩ := hpi hx
     simp only [gw_y hx] at *
     refine congrArg Value.bool ?_
     have hQ : gdQ pr qs qm pp sk fw qu g = smI pr (upK (satE (qE qm qs g + 1) * pp)) (g / 2 ^ qs.toNat + 4) fw (qu - 1) (lpI sk) 0 := rfl
     by_cases hg : gdB pe pb pt pr gm gs qm qs pp pc sk fw qu lim g = true
     · have hgp : gdP pe pb pt pr gm gs qm qs pp pc sk fw qu lim g := of_decide_eq_true hg
       rw [hg]
       rw [← hQ]
       refine decide_eq_false ?_
       have := hgp.2.2.2
       omega
     · have hgn : ¬ gdP pe pb pt pr gm gs qm qs pp pc sk fw qu lim g := fun h => hg (decide_eq_true h)
       rw [Bool.eq_false_iff.2 hg]
       rw [← hQ]
       refine decide_eq_true ?_
       by_cases hl : gdQ pr qs qm pp sk fw qu g ≤ lim
       · exact absurd ⟨by omega, by omega, by omega, hl⟩ hgn
       · omega)
  | (have hx : ¬ E = 0 := by omega
     have hgn : ¬ gdB pe pb pt pr gm gs qm qs pp pc sk fw qu lim g = true := fun h => by
       obtain ⟨q1, q2, q3, q4⟩ : gdP pe pb pt pr gm gs qm qs pp pc sk fw qu lim g := of_decide_eq_true h
       omega
     rw [Bool.eq_false_iff.2 hgn]
     first | done | rfl)
  | skip
theorem bwg_bcl : bwc_bcl.Good Tryz.prog syG (bwE [] [] [] []) := good_of_walk (Γ := ⟨[bxc_bof, bvc_bsum], syG, [39, 91, 2], [], []⟩) (ρ := bwE [] [] [] []) sym bcl_w rfl (fun _ _ _ _ => (ok_cons (Con.Good.env (Con.Good.up (Con.Good.up bxg_bof bvup rfl) bwup rfl) _ _ _ _) (ok_cons (Con.Good.env (Con.Good.up bvg_bsum bwup rfl) _ _ _ _) ok_nil))) bcl_h
def search_tree : Tree :=
 (.loop ⟨2, 0, 0, 0⟩ (.b2 .and (.b2 .le (.lit (0)) (.lit (0))) (.b2 .and (.b2 .le (.lit (0)) (.var 0)) (.b2 .and (.b2 .le (.var 0) (.var 0)) (.b2 .and (.b2 .or (.b2 .eq (.lit (0)) (.lit (0))) (.bapp 15 (.cons (.int .i64 (.var 1)) (.cons (.int .i64 (.var 2)) (.cons (.int .i64 (.var 3)) (.cons (.int .i64 (.var 4)) (.cons (.int .u32 (.var 5)) (.cons (.int .i64 (.var 6)) (.cons (.int .u32 (.var 7)) (.cons (.int .i64 (.var 8)) (.cons (.int .i64 (.var 9)) (.cons (.int .i64 (.var 10)) (.cons (.int .i64 (.var 11)) (.cons (.int .i64 (.var 15)) (.cons (.int .i64 (.var 14)) (.cons (.int .i64 (.var 18)) (.cons (.int .i64 (.lit (-1))) .nil))))))))))))))))) (.b2 .or (.b2 .eq (.var 0) (.var 0)) xrbwbndk23_))))) xrbwbndk11_
 (.br (.b2 .lt (.var 19) (.var 20))
 (.need (.b2 .and xrbwbndk6_ (.b2 .and xrbwbndk18_ (.b2 .and xrbwbndk5_ (.b2 .and xrbwbndk14_ (.b2 .and xrbwbndk31_ (.b2 .and (.b2 .le (.lit (0)) xrbwbndk12_) (.b2 .le xrbwbndk12_ (.lit (1125899906842624)))))))))
 (.br xrbwbndk26_
 (.back (.b2 .and (.b2 .le (.lit (0)) (.wrap .i64 (.i2 .add xrbwbndk12_ (.lit (1))))) (.b2 .and (.b2 .le (.wrap .i64 (.i2 .add xrbwbndk12_ (.lit (1)))) (.var 20)) (.b2 .and (.b2 .le (.var 20) (.var 0)) (.b2 .and (.b2 .or (.b2 .eq (.wrap .i64 (.i2 .add xrbwbndk12_ (.lit (1)))) (.lit (0))) (.bapp 15 (.cons (.int .i64 (.var 1)) (.cons (.int .i64 (.var 2)) (.cons (.int .i64 (.var 3)) (.cons (.int .i64 (.var 4)) (.cons (.int .u32 (.var 5)) (.cons (.int .i64 (.var 6)) (.cons (.int .u32 (.var 7)) (.cons (.int .i64 (.var 8)) (.cons (.int .i64 (.var 9)) (.cons (.int .i64 (.var 10)) (.cons (.int .i64 (.var 11)) (.cons (.int .i64 (.var 15)) (.cons (.int .i64 (.var 14)) (.cons (.int .i64 (.var 18)) (.cons (.int .i64 (.i2 .sub (.wrap .i64 (.i2 .add xrbwbndk12_ (.lit (1)))) (.lit (1)))) .nil))))))))))))))))) (.b2 .or (.b2 .eq (.var 20) (.var 0)) (.not (.bapp 15 (.cons (.int .i64 (.var 1)) (.cons (.int .i64 (.var 2)) (.cons (.int .i64 (.var 3)) (.cons (.int .i64 (.var 4)) (.cons (.int .u32 (.var 5)) (.cons (.int .i64 (.var 6)) (.cons (.int .u32 (.var 7)) (.cons (.int .i64 (.var 8)) (.cons (.int .i64 (.var 9)) (.cons (.int .i64 (.var 10)) (.cons (.int .i64 (.var 11)) (.cons (.int .i64 (.var 15)) (.cons (.int .i64 (.var 14)) (.cons (.int .i64 (.var 18)) (.cons (.int .i64 (.var 20)) .nil)))))))))))))))))))))) (.i2 .sub (.var 20) (.wrap .i64 (.i2 .add xrbwbndk12_ (.lit (1))))) (.i2 .sub (.var 20) (.var 19)))
 (.back (.b2 .and (.b2 .le (.lit (0)) (.var 19)) (.b2 .and (.b2 .le (.var 19) xrbwbndk12_) (.b2 .and (.b2 .le xrbwbndk12_ (.var 0)) (.b2 .and (.b2 .or (.b2 .eq (.var 19) (.lit (0))) (.bapp 15 (.cons (.int .i64 (.var 1)) (.cons (.int .i64 (.var 2)) (.cons (.int .i64 (.var 3)) (.cons (.int .i64 (.var 4)) (.cons (.int .u32 (.var 5)) (.cons (.int .i64 (.var 6)) (.cons (.int .u32 (.var 7)) (.cons (.int .i64 (.var 8)) (.cons (.int .i64 (.var 9)) (.cons (.int .i64 (.var 10)) (.cons (.int .i64 (.var 11)) (.cons (.int .i64 (.var 15)) (.cons (.int .i64 (.var 14)) (.cons (.int .i64 (.var 18)) (.cons (.int .i64 (.i2 .sub (.var 19) (.lit (1)))) .nil))))))))))))))))) (.b2 .or (.b2 .eq xrbwbndk12_ (.var 0)) (.not xrbwbndk26_)))))) (.i2 .sub xrbwbndk12_ (.var 19)) (.i2 .sub (.var 20) (.var 19)))))
 (.ret (.int .i64 (.var 19)))))
abbrev bwc_search : Con := ⟨75, [(.int .i64 (.var 0)), (.clo 76 (.cons (.ep (.cons (.int .i64) (.cons (.int .i64) (.cons (.int .i64) (.cons (.int .i64) (.cons (.int .u32) (.cons (.int .i64) (.cons (.int .u32) (.cons (.int .i64) (.cons (.int .i64) (.cons (.int .i64) .nil)))))))))) xrbwbndk32_ (.lit 0) 0) (.cons (.ep (.cons (.int .i64) (.cons (.int .i64) (.cons (.int .i64) (.cons (.int .i64) (.cons (.int .i64) (.cons (.int .i64) (.cons .bool (.cons .str (.cons (.int .i64) (.cons (.sl (.cons (.int .i64) (.cons (.int .i64) (.cons .str .nil)))) .nil)))))))))) xrbwbndk34_ (.lit 0) 0) (.cons (.ep (.cons (.int .i64) .nil) (.tup (.cons (.int .i64 (.var 18)) .nil)) (.lit 0) 0) .nil))))], (.b2 .and xrbwbndk6_ (.b2 .and xrbwbndk18_ (.b2 .and xrbwbndk5_ (.b2 .and xrbwbndk14_ (.b2 .and xrbwbndk31_ (.b2 .eq (.var 0) (.i2 .add (.var 10) (.lit (1))))))))), (.int .i64 (.iapp 41 (.cons (.int .i64 (.var 1)) (.cons (.int .i64 (.var 2)) (.cons (.int .i64 (.var 3)) (.cons (.int .i64 (.var 4)) (.cons (.int .u32 (.var 5)) (.cons (.int .i64 (.var 6)) (.cons (.int .u32 (.var 7)) (.cons (.int .i64 (.var 8)) (.cons (.int .i64 (.var 9)) (.cons (.int .i64 (.var 10)) (.cons (.int .i64 (.var 11)) (.cons (.int .i64 (.var 15)) (.cons (.int .i64 (.var 14)) (.cons (.int .i64 (.var 18)) .nil)))))))))))))))), ⟨19, 1, 1, 1⟩, none⟩
theorem search_w : walk Tryz.prog 111 ⟨[bwc_bcl], syG, [39, 91, 2], [], []⟩ [⟨0, ⟨2, 0, 0, 0⟩, [(5, (.int .i64 (.var 19))), (6, (.int .i64 (.var 20)))], none, xrbwbndk11_, (.i2 .sub (.var 20) (.var 19)), 0, []⟩] .v bwc_search bwc_search.n 3000 = some search_tree := by kernel_rfl
theorem search_h (n pe pb pt pr gm gs qm qs pp pc sk sb sa qu fw fc f lim : Int) (j : Bool) (l : Value) (s : ByteArray) : Hyp_ bwc_search search_tree (bwE [n, pe, pb, pt, pr, gm, gs, qm, qs, pp, pc, sk, sb, sa, qu, fw, fc, f, lim] [j] [l] [s]) := by
 intro hc hty
 simp only [bwc_search, Sy.holds, bwE, denV, denI, denB, denL, I2.den, VOp.den, List.getD_cons_zero, List.getD_cons_succ, Cst.den, syso, syse, syio, sybo, bwi_poe, bwb_pm, B2.ofInts, B2.denI, B2.denB, if_true, Bool.false_eq_true, if_false, Nat.div_one, Nat.mul_one, Nat.add_zero] at hc
 simp only [bwc_search, patsTyp, patTyp, patTypL, bwE, denV, denL, List.getD_cons_zero, List.getD_cons_succ, and_true, true_and] at hty
 unfold search_tree
 simp only [bwc_search, Tree.holds, Sy.holds, AllN, Env.more, bwE, List.cons_append, List.nil_append, List.append_nil, denV, denI, denB, denL, I2.den, VOp.den, List.getD_cons_zero, List.getD_cons_succ, Cst.den, syso, syse, syio, sybo, bwi_poe, bwi_ag, bwb_pm, bwb_gd, List.map_nil, List.map_cons, B2.ofInts, B2.denI, B2.denB, if_true, Bool.false_eq_true, if_false, Nat.div_one, Nat.mul_one, Nat.add_zero]
 have hp : pgP pe pb pt pr gm gs qm qs pp pc := of_decide_eq_true hc.2.1
 obtain ⟨a1, a2, a3, a4, a5, a6, a7, a8, f1, f2, a11, a12, a13, a14⟩ := id hp
 refine ⟨?_, ?_⟩
 ·
  first
  | exact ⟨by omega, by omega, by omega, .inl True.intro, .inl True.intro⟩
  | exact ⟨by omega, by omega, by omega, .inl rfl, .inl rfl⟩
  | skip
 intro i0a i0b hi0
 refine ⟨fun h0 => ?_, fun h0 => ?_⟩
 refine ⟨?_, fun h1 => ?_⟩
 ·
  obtain ⟨g1, g2, g3, g4, g5⟩ := hi0
  have hm : IntKind.wrap .i64 ((IntKind.wrap .u64 (IntKind.wrap .i64 (i0a + i0b))).fdiv (2 ^ Min.min (Int.toNat 1) (IntKind.bits .u64))) = (i0a + i0b) / 2 := mid_eq g1 g2 (by omega)
  have w1 : IntKind.wrap .i64 ((i0a + i0b) / 2 + 1) = (i0a + i0b) / 2 + 1 := by have := wr_i64 ((i0a + i0b) / 2 + 1); omega
  simp only [hm]
  first
  | exact True.intro
  | omega
  | exact ⟨hc.1, hc.2.1, hc.2.2.1, hc.2.2.2.1, hc.2.2.2.2.1, by omega, by omega⟩
  | skip
 refine ⟨fun h2 => ?_, fun h2 => ?_⟩
 refine ⟨?_, ?_⟩
 refine ?a0; rotate_left
 refine ?a1; rotate_left
 refine ⟨?_, ?_⟩
 refine ?a2; rotate_left
 refine ?a3; rotate_left
 ·
  obtain ⟨g1, g2, g3, g4, g5⟩ := hi0
  have e : i0b = i0a := by omega
  rw [e] at g5
  first
  | exact congrArg (Value.int .i64) (ag_eq f1 f2 a11 ⟨g1, by omega, g4, g5⟩).symm
  | (refine congrArg (Value.int .i64) (ag_eq f1 f2 a11 ⟨g1, by omega, g4, ?_⟩).symm
     rcases g5 with g5 | g5
     · exact .inl (by omega)
     · exact .inr (Bool.eq_false_iff.2 g5))
  | skip
 case a0 | a2 =>
  obtain ⟨g1, g2, g3, g4, g5⟩ := hi0
  have hm : IntKind.wrap .i64 ((IntKind.wrap .u64 (IntKind.wrap .i64 (i0a + i0b))).fdiv (2 ^ Min.min (Int.toNat 1) (IntKind.bits .u64))) = (i0a + i0b) / 2 := mid_eq g1 g2 (by omega)
  have w1 : IntKind.wrap .i64 ((i0a + i0b) / 2 + 1) = (i0a + i0b) / 2 + 1 := by have := wr_i64 ((i0a + i0b) / 2 + 1); omega
  simp only [hm, w1] at *
  have e1 : (i0a + i0b) / 2 + 1 - 1 = (i0a + i0b) / 2 := by omega
  first
  | (refine ⟨by omega, by omega, by omega, .inr ?_, g5⟩
     rw [e1]
     first
     | exact Decidable.of_not_not (by assumption)
     | assumption
     | (simp only [Bool.not_eq_true', Bool.not_eq_false] at *; assumption)
     | (simp_all))
  | (refine ⟨by omega, by omega, by omega, g4, .inr ?_⟩
     first
     | assumption
     | exact Bool.eq_false_iff.2 (by assumption)
     | (simp_all))
  | skip
 case a1 | a3 =>
  obtain ⟨g1, g2, g3, g4, g5⟩ := hi0
  have hm : IntKind.wrap .i64 ((IntKind.wrap .u64 (IntKind.wrap .i64 (i0a + i0b))).fdiv (2 ^ Min.min (Int.toNat 1) (IntKind.bits .u64))) = (i0a + i0b) / 2 := mid_eq g1 g2 (by omega)
  have w1 : IntKind.wrap .i64 ((i0a + i0b) / 2 + 1) = (i0a + i0b) / 2 + 1 := by have := wr_i64 ((i0a + i0b) / 2 + 1); omega
  simp only [hm, w1]
  omega
theorem bwg_search : bwc_search.Good Tryz.prog syG (bwE [] [] [] []) := good_of_walk (Γ := ⟨[bwc_bcl], syG, [39, 91, 2], [], []⟩) (ρ := bwE [] [] [] []) sym search_w rfl (fun _ _ _ _ => (ok_cons (Con.Good.env bwg_bcl _ _ _ _) ok_nil)) search_h
def bage_tree : Tree :=
 (.need xrbwbndk2_
 (.br (.not (.b2 .eq (.iapp 14 (.cons (.int .i64 (.var 0)) (.cons (.int .i64 (.var 1)) (.cons (.int .i64 (.var 2)) (.cons (.int .i64 (.var 3)) (.cons (.int .u32 (.var 4)) (.cons (.int .i64 (.var 5)) (.cons (.int .u32 (.var 6)) (.cons (.int .i64 (.var 7)) (.cons (.int .i64 (.var 8)) (.cons (.int .i64 (.var 9)) .nil))))))))))) (.lit (0))))
 (.ret (.tup (.cons (.int .i64 (.lit (0))) (.cons (.iface 111 (.int .i64 (.lit (1)))) .nil))))
 (.need xrbwbndk4_
 (.br (.not xrbwbndk29_)
 (.ret (.tup (.cons (.int .i64 (.lit (0))) (.cons (.iface 111 (.int .i64 (.lit (1)))) .nil))))
 (.need (.b2 .and xrbwbndk2_ (.b2 .and xrbwbndk9_ (.b2 .and xrbwbndk4_ (.b2 .and xrbwbndk29_ (.b2 .and xrbwbndk17_ (.b2 .eq (.wrap .i64 (.i2 .add (.var 9) (.lit (1)))) (.i2 .add (.var 9) (.lit (1)))))))))
 (.br (.b2 .eq xrbwbndk8_ (.lit (0)))
 (.ret (.tup (.cons (.int .i64 (.lit (0))) (.cons (.iface 111 (.int .i64 (.lit (13)))) .nil))))
 (.ret (.tup (.cons (.int .i64 (.wrap .i64 (.i2 .sub xrbwbndk8_ (.lit (1))))) (.cons (.cst .nilI) .nil))))))))))
abbrev bwc_bage : Con := ⟨28, [xrbwbndk10_, xrbwbndk13_, (.int .i64 (.var 17))], (.b2 .and xrbwbndk2_ (.b2 .and xrbwbndk4_ xrbwbndk17_)), (.tup (.cons (.int .i64 (.iapp 35 (.cons (.int .i64 xrbwbndk3_) (.cons (.int .i64 (.i2 .sub xrbwbndk8_ (.lit (1)))) .nil)))) (.cons (.err xrbwbndk3_) .nil))), ⟨18, 1, 1, 1⟩, none⟩
theorem bage_w : walk Tryz.prog 111 ⟨[ybc_pcheck, byc_pock, bwc_search], syG, [39, 91, 2], [], []⟩ [] .v bwc_bage bwc_bage.n 3000 = some bage_tree := by kernel_rfl
theorem bage_h (pe pb pt pr gm gs qm qs pp pc sk sb sa qu fw fc f lim : Int) (j : Bool) (l : Value) (s : ByteArray) : Hyp_ bwc_bage bage_tree (bwE [pe, pb, pt, pr, gm, gs, qm, qs, pp, pc, sk, sb, sa, qu, fw, fc, f, lim] [j] [l] [s]) := by
 intro hc hty
 simp only [bwc_bage, Sy.holds, bwE, denV, denI, denB, denL, I2.den, VOp.den, List.getD_cons_zero, List.getD_cons_succ, Cst.den, syso, syse, syio, sybo, B2.ofInts, B2.denI, B2.denB, if_true, Bool.false_eq_true, if_false, Nat.div_one, Nat.mul_one, Nat.add_zero] at hc
 simp only [bwc_bage, patsTyp, patTyp, patTypL, bwE, denV, denL, List.getD_cons_zero, List.getD_cons_succ, and_true, true_and] at hty
 have hL_l : typ (.sl (.cons (.int .i64) (.cons (.int .i64) (.cons .str .nil)))) l := by first | exact hty | exact hty.1 | exact hty.2 | exact hty.1.1 | exact hty.1.2 | exact hty.2.1 | exact hty.2.2 | exact hty.2.2.1 | exact hty.2.2.2
 have hN_l := typ_len (n := 3) hL_l rfl (by omega)
 unfold bage_tree
 simp only [bwc_bage, Tree.holds, Sy.holds, bwE, denV, denI, denB, denL, I2.den, VOp.den, List.getD_cons_zero, List.getD_cons_succ, Cst.den, syso, syse, syio, sybo, bwi_pge, bwi_poe, bwi_gdw, bwi_ag, bwi_ae, bwb_pm, B2.ofInts, B2.denI, B2.denB, if_true, Bool.false_eq_true, if_false, Nat.div_one, Nat.mul_one, Nat.add_zero]
 rcases pg_case pe pb pt pr gm gs qm qs pp pc with ⟨hp, he⟩ | ⟨hp, he⟩
 all_goals
  have hq := pg_bd pe pb pt pr gm gs qm qs pp pc
  have wn := wr_i64 (pc + 1)
  have an := ag_nn pe pb pt pr gm gs qm qs pp pc sk fw qu lim
  have al : 0 ≤ pc → agI pe pb pt pr gm gs qm qs pp pc sk fw qu lim ≤ pc + 1 := fun h => ag_le pe pb pt pr gm gs qm qs pp pc sk fw qu lim h
  have ha := ae_spec (pgE pe pb pt pr gm gs qm qs pp pc) (poE sk sb sa qu fw fc s f (Sy.rows l)) (agI pe pb pt pr gm gs qm qs pp pc sk fw qu lim)
  obtain ⟨E, hE⟩ : ∃ x, aeE (pgE pe pb pt pr gm gs qm qs pp pc) (poE sk sb sa qu fw fc s f (Sy.rows l)) (agI pe pb pt pr gm gs qm qs pp pc sk fw qu lim) = x := ⟨_, rfl⟩
  simp only [hE] at ha ⊢
  obtain ⟨A, hA⟩ : ∃ x, agI pe pb pt pr gm gs qm qs pp pc sk fw qu lim = x := ⟨_, rfl⟩
  simp only [hA] at ha an al ⊢
  have wa := wr_i64 (A - 1)
  refine ⟨?_, fun h0 => ?_⟩
  rotate_left
  refine ⟨fun h1 => ?_, fun h1 => ?_⟩
  rotate_left
  refine ⟨?_, fun h2 => ?_⟩
  rotate_left
  refine ⟨fun h3 => ?_, fun h3 => ?_⟩
  rotate_left
  refine ⟨?_, fun h4 => ?_⟩
  rotate_left
  refine ⟨fun h5 => ?_, fun h5 => ?_⟩
  rotate_left
  rotate_left
 all_goals first
 | exact True.intro
 | (show @Eq Value _ _
    first
    | (exfalso; omega)
    | (have q : E = 1 := by omega
       simp only [gw_n (show ¬ E = 0 by omega)]; simp only [q]
       first | done | rfl)
    | (have q : E = 13 := by omega
       simp only [gw_n (show ¬ E = 0 by omega)]; simp only [q]
       first | done | rfl)
    | (have q : E = 0 := by omega
       have wz : IntKind.wrap .i64 (A - 1) = A - 1 := by omega
       simp only [gw_y q, wz]
       try simp only [q]
       first | done | rfl)
    | skip
    done)
 | (skip
    first
    | exact True.intro
    | exact hc.1
    | exact hc.2.1
    | exact ⟨hc.1, decide_eq_true hp, hc.2.1, by omega, hc.2.2, by omega⟩
    | omega
    | skip
    done)
theorem bwg_bage : bwc_bage.Good Tryz.prog syG (bwE [] [] [] []) := good_of_walk (Γ := ⟨[ybc_pcheck, byc_pock, bwc_search], syG, [39, 91, 2], [], []⟩) (ρ := bwE [] [] [] []) sym bage_w rfl (fun _ _ _ _ => (ok_cons (Con.Good.env (Con.Good.up (Con.Good.up (Con.Good.up (Con.Good.up (Con.Good.up ybg_pcheck bzup rfl) byup rfl) bxup rfl) bvup rfl) bwup rfl) _ _ _ _) (ok_cons (Con.Good.env (Con.Good.up (Con.Good.up (Con.Good.up byg_pock bxup rfl) bvup rfl) bwup rfl) _ _ _ _) (ok_cons (Con.Good.env bwg_search _ _ _ _) ok_nil)))) bage_h
def rgood_tree : Tree :=
 (.need (.b2 .and (.b2 .and xrbwbndk2_ (.b2 .and (.b2 .and (.b2 .le (.lit (-9223372036854775808)) (.wrap .i64 (.i2 .add (.var 1) (.var 10)))) (.b2 .le (.wrap .i64 (.i2 .add (.var 1) (.var 10))) (.lit (9223372036854775807)))) xrbwbndk5_)) xrbwbndk21_)
 (.br (.b2 .eq xrbwbndk1_ (.lit (0)))
 (.need (.b2 .and (.b2 .and (.b2 .le (.lit (-9223372036854775808)) (.iapp 35 (.cons (.int .i64 xrbwbndk1_) (.cons (.int .i64 (.var 3)) .nil)))) (.b2 .le (.iapp 35 (.cons (.int .i64 xrbwbndk1_) (.cons (.int .i64 (.var 3)) .nil))) (.lit (9223372036854775807)))) (.b2 .and (.b2 .and (.b2 .le (.lit (-9223372036854775808)) xrbwbndk15_) (.b2 .le xrbwbndk15_ (.lit (9223372036854775807)))) (.b2 .and (.b2 .and (.b2 .le (.lit (-9223372036854775808)) xrbwbndk27_) (.b2 .le xrbwbndk27_ (.lit (9223372036854775807)))) (.b2 .and (.b2 .and (.b2 .le (.lit (-9223372036854775808)) (.iapp 35 (.cons (.int .i64 xrbwbndk1_) (.cons (.int .i64 (.var 15)) .nil)))) (.b2 .le (.iapp 35 (.cons (.int .i64 xrbwbndk1_) (.cons (.int .i64 (.var 15)) .nil))) (.lit (9223372036854775807)))) (.b2 .and (.b2 .and (.b2 .le (.lit (-9223372036854775808)) (.iapp 35 (.cons (.int .i64 xrbwbndk1_) (.cons (.int .i64 (.i2 .sub (.var 14) (.lit (1)))) .nil)))) (.b2 .le (.iapp 35 (.cons (.int .i64 xrbwbndk1_) (.cons (.int .i64 (.i2 .sub (.var 14) (.lit (1)))) .nil))) (.lit (9223372036854775807)))) (.b2 .and (.b2 .and (.b2 .le (.lit (-9223372036854775808)) xrbwbndk36_) (.b2 .le xrbwbndk36_ (.lit (9223372036854775807)))) (.b2 .and (.b2 .le (.lit (-9223372036854775808)) (.iapp 35 (.cons (.int .i64 xrbwbndk1_) (.cons (.int .i64 (.lit (0))) .nil)))) (.b2 .le (.iapp 35 (.cons (.int .i64 xrbwbndk1_) (.cons (.int .i64 (.lit (0))) .nil))) (.lit (9223372036854775807))))))))))
 (.ret (.bool (.b2 .le (.iapp 40 (.cons (.int .i64 (.iapp 35 (.cons (.int .i64 xrbwbndk1_) (.cons (.int .i64 (.var 3)) .nil)))) (.cons (.int .i64 xrbwbndk15_) (.cons (.int .i64 xrbwbndk27_) (.cons (.int .i64 (.iapp 35 (.cons (.int .i64 xrbwbndk1_) (.cons (.int .i64 (.var 15)) .nil)))) (.cons (.int .i64 (.iapp 35 (.cons (.int .i64 xrbwbndk1_) (.cons (.int .i64 (.i2 .sub (.var 14) (.lit (1)))) .nil)))) (.cons (.int .i64 xrbwbndk36_) (.cons (.int .i64 (.iapp 35 (.cons (.int .i64 xrbwbndk1_) (.cons (.int .i64 (.lit (0))) .nil)))) .nil)))))))) (.var 18)))))
 (.ret (.bool (.tt false)))))
abbrev bwc_rgood : Con := ⟨77, [xrbwbndk10_, (.int .i64 (.var 10)), (.agg (.cons (.int .i64 (.var 11)) (.cons (.int .i64 (.var 12)) (.cons (.int .i64 (.var 13)) (.cons (.int .i64 (.var 14)) (.cons (.int .i64 (.var 15)) (.cons (.int .i64 (.var 16)) (.cons (.bool (.bvar 0)) (.cons (.str 0) (.cons (.int .i64 (.var 17)) (.cons (.hs .no (.cons (.int .i64) (.cons (.int .i64) (.cons .str .nil))) (.opq 0)) .nil))))))))))), (.int .i64 (.var 18))], (.b2 .and xrbwbndk2_ (.b2 .and xrbwbndk9_ (.b2 .and xrbwbndk5_ (.b2 .and xrbwbndk14_ (.b2 .and xrbwbndk31_ (.b2 .and (.b2 .le (.lit (0)) (.var 10)) (.b2 .and (.b2 .le (.var 10) (.lit (2251799813685248))) xrbwbndk21_))))))), (.bool (.bapp 15 (.cons (.int .i64 (.var 0)) (.cons (.int .i64 (.var 1)) (.cons (.int .i64 (.var 2)) (.cons (.int .i64 (.var 3)) (.cons (.int .u32 (.var 4)) (.cons (.int .i64 (.var 5)) (.cons (.int .u32 (.var 6)) (.cons (.int .i64 (.var 7)) (.cons (.int .i64 (.var 8)) (.cons (.int .i64 (.var 9)) (.cons (.int .i64 (.var 11)) (.cons (.int .i64 (.var 15)) (.cons (.int .i64 (.var 14)) (.cons (.int .i64 (.var 18)) (.cons (.int .i64 (.var 10)) .nil))))))))))))))))), ⟨19, 1, 1, 1⟩, none⟩
theorem rgood_w : walk Tryz.prog 111 ⟨[bxc_rbof, bvc_rbsum], syG, [], [], []⟩ [] .v bwc_rgood bwc_rgood.n 3000 = some rgood_tree := by kernel_rfl
theorem rgood_h (pe pb pt pr gm gs qm qs pp pc g sk sb sa qu fw fc f lim : Int) (j : Bool) (l : Value) (s : ByteArray) : Hyp_ bwc_rgood rgood_tree (bwE [pe, pb, pt, pr, gm, gs, qm, qs, pp, pc, g, sk, sb, sa, qu, fw, fc, f, lim] [j] [l] [s]) := by
 intro hc hty
 simp only [bwc_rgood, Sy.holds, bwE, denV, denI, denB, denL, I2.den, VOp.den, List.getD_cons_zero, List.getD_cons_succ, Cst.den, syso, syse, syio, sybo, bwi_poe, bwb_pm, bwb_shr, B2.ofInts, B2.denI, B2.denB, if_true, Bool.false_eq_true, if_false, Nat.div_one, Nat.mul_one, Nat.add_zero] at hc
 simp only [bwc_rgood, patsTyp, patTyp, patTypL, bwE, denV, denL, List.getD_cons_zero, List.getD_cons_succ, and_true, true_and] at hty
 have hL_l : typ (.sl (.cons (.int .i64) (.cons (.int .i64) (.cons .str .nil)))) l := by first | exact hty | exact hty.1 | exact hty.2 | exact hty.1.1 | exact hty.1.2 | exact hty.2.1 | exact hty.2.2 | exact hty.2.2.1 | exact hty.2.2.2
 have hN_l := typ_len (n := 3) hL_l rfl (by omega)
 unfold rgood_tree
 simp only [bwc_rgood, Tree.holds, Sy.holds, bwE, denV, denI, denB, denL, I2.den, VOp.den, List.getD_cons_zero, List.getD_cons_succ, Cst.den, syso, syse, syio, sybo, bwi_sa, bwi_up, bwi_hv, bwi_q, bwi_tme, bwi_poe, bwi_gdw, bwi_boe, bwi_lp, bwi_sm, bwb_shr, bwb_gd, B2.ofInts, B2.denI, B2.denB, if_true, Bool.false_eq_true, if_false, Nat.div_one, Nat.mul_one, Nat.add_zero]
 have hp : pgP pe pb pt pr gm gs qm qs pp pc := of_decide_eq_true hc.2.1
 have he := pgE_y hp
 obtain ⟨a1, a2, a3, a4, a5, a6, a7, a8, f1, f2, a11, a12, a13, a14⟩ := id hp
 have hpo := hc.2.2.2.1
 have wk : IntKind.wrap .i64 (pb + g) = pb + g := by have := wr_i64 (pb + g); omega
 simp only [wk]
 have hO := bo_spec (poE sk sb sa qu fw fc s f (Sy.rows l)) 0 (tmE pe pb pt pr gm gs qm qs pp pc (pb + g))
 have hT := tm_spec pe pb pt pr gm gs qm qs pp pc (pb + g)
 have hpi := fun h : boE (poE sk sb sa qu fw fc s f (Sy.rows l)) 0 (tmE pe pb pt pr gm gs qm qs pp pc (pb + g)) = 0 => parts_in h
 obtain ⟨E, hE⟩ : ∃ x, boE (poE sk sb sa qu fw fc s f (Sy.rows l)) 0 (tmE pe pb pt pr gm gs qm qs pp pc (pb + g)) = x := ⟨_, rfl⟩
 simp only [hE] at hO hpi ⊢
 have kg : pb + g - pb = g := by omega
 simp only [kg] at hT hpi ⊢
 have hlp := lp_rng sk
 refine ⟨?_, fun h0 => ?_⟩
 refine ?a0; rotate_left
 refine ⟨fun h1 => ?_, fun h1 => ?_⟩
 refine ⟨?_, fun h2 => ?_⟩
 refine ?a1; rotate_left
 refine ?a2; rotate_left
 refine ?a3; rotate_left
 case a0 | a1 =>
  first
  | exact True.intro
  | omega
  | exact ⟨⟨hc.1, by omega, hc.2.2.1⟩, hc.2.2.2.2.2.2.2⟩
  | exact ⟨⟨hc.1, by omega, hc.2.2.1, by omega⟩, hc.2.2.2.2.2.2.2⟩
  | exact ⟨hc.1, by omega, hc.2.2.1, by omega⟩
  | (have hx : E = 0 := by omega
     obtain ⟨_, qp, z0, z1, z2, z3⟩ := hpi hx
     obtain ⟨b1, b2, b3, b4, b5, b6, b7, b8⟩ := id qp
     simp only [gw_y hx]
     omega)
  | skip
 case a2 | a3 =>
  first
  | (have hx : ¬ E = 0 := by omega
     have hgn : ¬ gdB pe pb pt pr gm gs qm qs pp pc sk fw qu lim g = true := fun h => by
       obtain ⟨q1, q2, q3, q4⟩ : gdP pe pb pt pr gm gs qm qs pp pc sk fw qu lim g := of_decide_eq_true h
       omega
     rw [Bool.eq_false_iff.2 hgn]
     first | done | rfl)
  | (have hx : E = 0 := by omega
     obtain ⟨_, qp, z0, z1, z2, z3⟩ := hpi hx
     simp only [gw_y hx] at *
     refine congrArg Value.bool ?_
     have hQ : gdQ pr qs qm pp sk fw qu g = smI pr (upK (satE (qE qm qs g + 1) * pp)) (g / 2 ^ qs.toNat + 4) fw (qu - 1) (lpI sk) 0 := rfl
     try simp only [← hQ] at *
     by_cases hg : gdB pe pb pt pr gm gs qm qs pp pc sk fw qu lim g = true
     · have hgp : gdP pe pb pt pr gm gs qm qs pp pc sk fw qu lim g := of_decide_eq_true hg
       have h4 := hgp.2.2.2
       rw [hg]
       first
       | (refine decide_eq_true ?_; omega)
       | (exfalso; omega)
     · have hgn : ¬ gdP pe pb pt pr gm gs qm qs pp pc sk fw qu lim g := fun h => hg (decide_eq_true h)
       rw [Bool.eq_false_iff.2 hg]
       by_cases hl : gdQ pr qs qm pp sk fw qu g ≤ lim
       · exact absurd ⟨by omega, by omega, by omega, hl⟩ hgn
       · first
         | rfl
         | (refine decide_eq_false ?_; omega))
  | skip
theorem bwg_rgood : bwc_rgood.Good Tryz.prog syG (bwE [] [] [] []) := good_of_walk (Γ := ⟨[bxc_rbof, bvc_rbsum], syG, [], [], []⟩) (ρ := bwE [] [] [] []) sym rgood_w rfl (fun _ _ _ _ => (ok_cons (Con.Good.env (Con.Good.up (Con.Good.up bxg_rbof bvup rfl) bwup rfl) _ _ _ _) (ok_cons (Con.Good.env (Con.Good.up bvg_rbsum bwup rfl) _ _ _ _) ok_nil))) rgood_h
def rageV_tree : Tree :=
 (.need xrbwbndk2_
 (.need (.b2 .and xrbwbndk4_ xrbwbndk21_)
 (.br (.not xrbwbndk20_)
 (.ret (.tup (.cons (.int .i64 (.lit (0))) (.cons (.int .i64 (.lit (1))) .nil))))
 (.need (.b2 .and xrbwbndk2_ (.b2 .and xrbwbndk9_ (.b2 .and xrbwbndk4_ (.b2 .and xrbwbndk20_ (.b2 .and xrbwbndk17_ xrbwbndk21_)))))
 (.br (.not xrbwbndk24_)
 (.ret (.tup (.cons (.int .i64 (.lit (0))) (.cons (.int .i64 (.lit (13))) .nil))))
 (.loop ⟨2, 0, 0, 0⟩ (.b2 .and (.b2 .le (.lit (0)) (.lit (0))) (.b2 .and (.b2 .le (.lit (0)) (.var 9)) (.b2 .and xrbwbndk24_ (.b2 .and (.b2 .le (.lit (0)) (.lit (1125899906842624))) (.b2 .and (.b2 .le (.lit (1125899906842624)) (.lit (1125899906842624))) (.b2 .and (.bapp 2 (.cons (.int .i64 (.lit (1125899906842624))) .nil)) (.b2 .or (.b2 .and (.b2 .eq (.lit (1125899906842624)) (.lit (0))) (.b2 .or (.b2 .lt (.var 9) (.lit (1))) (.not (.bapp 15 (.cons (.int .i64 (.var 0)) (.cons (.int .i64 (.var 1)) (.cons (.int .i64 (.var 2)) (.cons (.int .i64 (.var 3)) (.cons (.int .u32 (.var 4)) (.cons (.int .i64 (.var 5)) (.cons (.int .u32 (.var 6)) (.cons (.int .i64 (.var 7)) (.cons (.int .i64 (.var 8)) (.cons (.int .i64 (.var 9)) (.cons (.int .i64 (.var 10)) (.cons (.int .i64 (.var 14)) (.cons (.int .i64 (.var 13)) (.cons (.int .i64 (.var 17)) (.cons (.int .i64 (.lit (1))) .nil))))))))))))))))))) (.b2 .and (.b2 .lt (.lit (0)) (.lit (1125899906842624))) (.b2 .or (.b2 .lt (.var 9) (.lit (2251799813685248))) (.not (.bapp 15 (.cons (.int .i64 (.var 0)) (.cons (.int .i64 (.var 1)) (.cons (.int .i64 (.var 2)) (.cons (.int .i64 (.var 3)) (.cons (.int .u32 (.var 4)) (.cons (.int .i64 (.var 5)) (.cons (.int .u32 (.var 6)) (.cons (.int .i64 (.var 7)) (.cons (.int .i64 (.var 8)) (.cons (.int .i64 (.var 9)) (.cons (.int .i64 (.var 10)) (.cons (.int .i64 (.var 14)) (.cons (.int .i64 (.var 13)) (.cons (.int .i64 (.var 17)) (.cons (.int .i64 (.lit (2251799813685248))) .nil)))))))))))))))))))))))))) (.b2 .and (.b2 .le (.lit (0)) (.var 18)) (.b2 .and (.b2 .le (.var 18) (.var 9)) (.b2 .and xrbwbndk25_ (.b2 .and (.b2 .le (.lit (0)) (.var 19)) (.b2 .and (.b2 .le (.var 19) (.lit (1125899906842624))) (.b2 .and (.bapp 2 (.cons (.int .i64 (.var 19)) .nil)) (.b2 .or xrbwbndk19_ (.b2 .and (.b2 .lt (.lit (0)) (.var 19)) (.b2 .or (.b2 .lt (.var 9) (.i2 .add (.var 18) (.i2 .mul (.lit (2)) (.var 19)))) (.not (.bapp 15 (.cons (.int .i64 (.var 0)) (.cons (.int .i64 (.var 1)) (.cons (.int .i64 (.var 2)) (.cons (.int .i64 (.var 3)) (.cons (.int .u32 (.var 4)) (.cons (.int .i64 (.var 5)) (.cons (.int .u32 (.var 6)) (.cons (.int .i64 (.var 7)) (.cons (.int .i64 (.var 8)) (.cons (.int .i64 (.var 9)) (.cons (.int .i64 (.var 10)) (.cons (.int .i64 (.var 14)) (.cons (.int .i64 (.var 13)) (.cons (.int .i64 (.var 17)) (.cons (.int .i64 (.i2 .add (.var 18) (.i2 .mul (.lit (2)) (.var 19)))) .nil))))))))))))))))))))))))))
 (.br (.b2 .lt (.lit (0)) (.var 19))
 (.br (.b2 .le xrbwbndk33_ (.var 9))
 (.need (.b2 .and xrbwbndk2_ (.b2 .and xrbwbndk9_ (.b2 .and xrbwbndk4_ (.b2 .and xrbwbndk20_ (.b2 .and xrbwbndk17_ (.b2 .and (.b2 .le (.lit (0)) xrbwbndk33_) (.b2 .and (.b2 .le xrbwbndk33_ (.lit (2251799813685248))) xrbwbndk21_)))))))
 (.br xrbwbndk22_
 (.back (.b2 .and (.b2 .le (.lit (0)) xrbwbndk33_) (.b2 .and (.b2 .le xrbwbndk33_ (.var 9)) (.b2 .and xrbwbndk22_ (.b2 .and (.b2 .le (.lit (0)) xrbwbndk30_) (.b2 .and (.b2 .le xrbwbndk30_ (.lit (1125899906842624))) (.b2 .and (.bapp 2 (.cons (.int .i64 xrbwbndk30_) .nil)) (.b2 .or (.b2 .and (.b2 .eq xrbwbndk30_ (.lit (0))) (.b2 .or (.b2 .lt (.var 9) (.i2 .add xrbwbndk33_ (.lit (1)))) (.not (.bapp 15 (.cons (.int .i64 (.var 0)) (.cons (.int .i64 (.var 1)) (.cons (.int .i64 (.var 2)) (.cons (.int .i64 (.var 3)) (.cons (.int .u32 (.var 4)) (.cons (.int .i64 (.var 5)) (.cons (.int .u32 (.var 6)) (.cons (.int .i64 (.var 7)) (.cons (.int .i64 (.var 8)) (.cons (.int .i64 (.var 9)) (.cons (.int .i64 (.var 10)) (.cons (.int .i64 (.var 14)) (.cons (.int .i64 (.var 13)) (.cons (.int .i64 (.var 17)) (.cons (.int .i64 (.i2 .add xrbwbndk33_ (.lit (1)))) .nil))))))))))))))))))) (.b2 .and (.b2 .lt (.lit (0)) xrbwbndk30_) (.b2 .or (.b2 .lt (.var 9) (.i2 .add xrbwbndk33_ (.i2 .mul (.lit (2)) xrbwbndk30_))) (.not (.bapp 15 (.cons (.int .i64 (.var 0)) (.cons (.int .i64 (.var 1)) (.cons (.int .i64 (.var 2)) (.cons (.int .i64 (.var 3)) (.cons (.int .u32 (.var 4)) (.cons (.int .i64 (.var 5)) (.cons (.int .u32 (.var 6)) (.cons (.int .i64 (.var 7)) (.cons (.int .i64 (.var 8)) (.cons (.int .i64 (.var 9)) (.cons (.int .i64 (.var 10)) (.cons (.int .i64 (.var 14)) (.cons (.int .i64 (.var 13)) (.cons (.int .i64 (.var 17)) (.cons (.int .i64 (.i2 .add xrbwbndk33_ (.i2 .mul (.lit (2)) xrbwbndk30_))) .nil)))))))))))))))))))))))))) xrbwbndk30_ (.var 19))
 (.back xrbwbndk7_ xrbwbndk30_ (.var 19))))
 (.back xrbwbndk7_ xrbwbndk30_ (.var 19)))
 (.ret (.tup (.cons (.int .i64 (.var 18)) (.cons (.int .i64 (.lit (0))) .nil)))))))))))
abbrev bwc_rageV : Con := ⟨29, [xrbwbndk10_, xrbwbndk13_, (.int .i64 (.var 17))], (.b2 .and (.b2 .and (.b2 .and xrbwbndk2_ (.b2 .and xrbwbndk4_ xrbwbndk17_)) xrbwbndk21_) xrbwbndk9_), xrbwbndk35_, ⟨18, 1, 1, 1⟩, none⟩
theorem rageV_w : walkQ Tryz.prog 111 ⟨[ybc_pmay, byc_pomay, bwc_rgood], syG, [], [], []⟩ [⟨0, ⟨2, 0, 0, 0⟩, [(8, (.int .i64 (.var 18))), (9, (.int .i64 (.var 19)))], none, (.b2 .and (.b2 .le (.lit (0)) (.var 18)) (.b2 .and (.b2 .le (.var 18) (.var 9)) (.b2 .and xrbwbndk25_ (.b2 .and (.b2 .le (.lit (0)) (.var 19)) (.b2 .and (.b2 .le (.var 19) (.lit (1125899906842624))) (.b2 .and (.bapp 2 (.cons (.int .i64 (.var 19)) .nil)) (.b2 .or xrbwbndk19_ (.b2 .and (.b2 .lt (.lit (0)) (.var 19)) (.b2 .or (.b2 .lt (.var 9) (.i2 .add (.var 18) (.i2 .mul (.lit 2) (.var 19)))) (.not (.bapp 15 (.cons (.int .i64 (.var 0)) (.cons (.int .i64 (.var 1)) (.cons (.int .i64 (.var 2)) (.cons (.int .i64 (.var 3)) (.cons (.int .u32 (.var 4)) (.cons (.int .i64 (.var 5)) (.cons (.int .u32 (.var 6)) (.cons (.int .i64 (.var 7)) (.cons (.int .i64 (.var 8)) (.cons (.int .i64 (.var 9)) (.cons (.int .i64 (.var 10)) (.cons (.int .i64 (.var 14)) (.cons (.int .i64 (.var 13)) (.cons (.int .i64 (.var 17)) (.cons (.int .i64 (.i2 .add (.var 18) (.i2 .mul (.lit 2) (.var 19)))) .nil)))))))))))))))))))))))))), (.var 19), 0, []⟩] .v bwc_rageV bwc_rageV.n 3000 (pcOf bwc_rageV.cnd) = some rageV_tree := by kernel_rfl
set_option maxHeartbeats 4000000 in
theorem rageV_h (pe pb pt pr gm gs qm qs pp pc sk sb sa qu fw fc f lim : Int) (j : Bool) (l : Value) (s : ByteArray) : Hyp_ bwc_rageV rageV_tree (bwE [pe, pb, pt, pr, gm, gs, qm, qs, pp, pc, sk, sb, sa, qu, fw, fc, f, lim] [j] [l] [s]) := by
 intro hc hty
 simp only [bwc_rageV, Sy.holds, bwE, denV, denI, denB, denL, I2.den, VOp.den, List.getD_cons_zero, List.getD_cons_succ, Cst.den, syso, syse, syio, sybo, bwb_pm, bwb_shr, B2.ofInts, B2.denI, B2.denB, if_true, Bool.false_eq_true, if_false, Nat.div_one, Nat.mul_one, Nat.add_zero] at hc
 simp only [bwc_rageV, patsTyp, patTyp, patTypL, bwE, denV, denL, List.getD_cons_zero, List.getD_cons_succ, and_true, true_and] at hty
 have hL_l : typ (.sl (.cons (.int .i64) (.cons (.int .i64) (.cons .str .nil)))) l := by first | exact hty | exact hty.1 | exact hty.2 | exact hty.1.1 | exact hty.1.2 | exact hty.2.1 | exact hty.2.2 | exact hty.2.2.1 | exact hty.2.2.2
 have hN_l := typ_len (n := 3) hL_l rfl (by omega)
 unfold rageV_tree
 simp only [bwc_rageV, Tree.holds, Sy.holds, AllN, Env.more, bwE, List.cons_append, List.nil_append, List.append_nil, denV, denI, denB, denL, I2.den, VOp.den, List.getD_cons_zero, List.getD_cons_succ, Cst.den, syso, syse, syio, sybo, bwi_pge, bwi_poe, bwi_gdw, bwi_ag, bwi_ae, bwb_pm, bwb_p2, bwb_shr, bwb_gd, List.map_nil, List.map_cons, B2.ofInts, B2.denI, B2.denB, if_true, Bool.false_eq_true, if_false, Nat.div_one, Nat.mul_one, Nat.add_zero]
 have hp : pgP pe pb pt pr gm gs qm qs pp pc := of_decide_eq_true hc.2
 have he := pgE_y hp
 obtain ⟨a1, a2, a3, a4, a5, a6, a7, a8, f1, f2, a11, a12, a13, a14⟩ := id hp
 have hq := pg_bd pe pb pt pr gm gs qm qs pp pc
 have wn := wr_i64 (pc + 1)
 have an := ag_nn pe pb pt pr gm gs qm qs pp pc sk fw qu lim
 have al : 0 ≤ pc → agI pe pb pt pr gm gs qm qs pp pc sk fw qu lim ≤ pc + 1 := fun h => ag_le pe pb pt pr gm gs qm qs pp pc sk fw qu lim h
 have ha := ae_spec (pgE pe pb pt pr gm gs qm qs pp pc) (poE sk sb sa qu fw fc s f (Sy.rows l)) (agI pe pb pt pr gm gs qm qs pp pc sk fw qu lim)
 obtain ⟨E, hE⟩ : ∃ x, aeE (pgE pe pb pt pr gm gs qm qs pp pc) (poE sk sb sa qu fw fc s f (Sy.rows l)) (agI pe pb pt pr gm gs qm qs pp pc sk fw qu lim) = x := ⟨_, rfl⟩
 simp only [hE] at ha ⊢
 obtain ⟨A, hA⟩ : ∃ x, agI pe pb pt pr gm gs qm qs pp pc sk fw qu lim = x := ⟨_, rfl⟩
 simp only [hA] at ha an al ⊢
 have wa := wr_i64 (A - 1)
 refine ⟨?_, fun h0 => ?_⟩
 refine ?a0; rotate_left
 refine ⟨?_, fun h1 => ?_⟩
 refine ?a1; rotate_left
 refine ⟨fun h2 => ?_, fun h2 => ?_⟩
 refine ?a2; rotate_left
 refine ⟨?_, fun h3 => ?_⟩
 refine ?a3; rotate_left
 refine ⟨fun h4 => ?_, fun h4 => ?_⟩
 refine ?a4; rotate_left
 refine ⟨?_, ?_⟩
 ·
  first
  | (exfalso; omega)
  | (refine ⟨by omega, by omega, ?_, by omega, by omega, p2_top, .inr ⟨by omega, .inl (by omega)⟩⟩
     first
     | assumption
     | exact Decidable.of_not_not (by assumption)
     | (simp_all))
  | skip
 intro i0a i0b hi0
 obtain ⟨g1, g2, g3, g4, g5, g6, g7⟩ := hi0
 have ht := td2 g4
 have w1 := wr_i64 (i0a + i0b)
 have w2 := wr_i64 (i0b / 2)
 have w3 : IntKind.wrap .i64 (i0a + i0b) = i0a + i0b := by omega
 have w4 : IntKind.wrap .i64 (i0b / 2) = i0b / 2 := by omega
 have w5 : IntKind.wrap .i64 (i0b.tdiv 2) = i0b / 2 := by rw [ht]; exact w4
 try simp only [w3]
 try simp only [w5]
 refine ⟨fun h5 => ?_, fun h5 => ?_⟩
 refine ⟨fun h6 => ?_, fun h6 => ?_⟩
 refine ⟨?_, fun h7 => ?_⟩
 refine ?a5; rotate_left
 refine ⟨fun h8 => ?_, fun h8 => ?_⟩
 refine ⟨?_, ?_⟩
 refine ?a6; rotate_left
 ·
  first
  | (exfalso; omega)
  | omega
  | skip
 refine ⟨?_, ?_⟩
 refine ?a7; rotate_left
 ·
  first
  | (exfalso; omega)
  | omega
  | skip
 refine ⟨?_, ?_⟩
 refine ?a8; rotate_left
 ·
  first
  | (exfalso; omega)
  | omega
  | skip
 refine ?a9; rotate_left
 case a0 | a1 | a3 | a5 =>
  first
  | exact True.intro
  | exact hc.1.1.1
  | exact ⟨hc.1.1.2.1, hc.1.2⟩
  | exact ⟨hc.1.1.1, hc.2, hc.1.1.2.1, by omega, hc.1.1.2.2, by omega, by omega, hc.1.2⟩
  | exact ⟨hc.1.1.1, hc.2, hc.1.1.2.1, by omega, hc.1.1.2.2, by omega, hc.1.2⟩
  | exact ⟨hc.1.1.1, hc.2, hc.1.1.2.1, by omega, hc.1.1.2.2, hc.1.2⟩
  | omega
  | skip
 case a2 | a4 | a9 =>
  first
  | (exfalso; omega)
  | (have q : E = 1 := by omega
     simp only [gw_n (show ¬ E = 0 by omega)]; simp only [q]
     first | done | rfl)
  | (have q : E = 13 := by omega
     simp only [gw_n (show ¬ E = 0 by omega)]; simp only [q]
     first | done | rfl)
  | (have q : E = 0 := by omega
     have wz : IntKind.wrap .i64 (A - 1) = A - 1 := by omega
     simp only [gw_y q, wz]
     try simp only [q]
     first | done | rfl)
  | (have hz : A = 0 := hA.symm.trans (ag_eq f1 f2 a11 ⟨by omega, by omega, .inl rfl, .inr (Bool.eq_false_iff.2 (by assumption))⟩)
     have q : E = 13 := by omega
     simp only [gw_n (show ¬ E = 0 by omega)]; simp only [q]
     first | done | rfl)
  | (have e1 : i0a + 1 - 1 = i0a := by omega
     have g8 : i0a + 1 = pc + 1 ∨ gdB pe pb pt pr gm gs qm qs pp pc sk fw qu lim (i0a + 1) = false := by
       rcases g7 with ⟨_, g7 | g7⟩ | g7
       · exact .inl (by omega)
       · exact .inr (Bool.eq_false_iff.2 g7)
       · exact .inl (by omega)
     have hz : A = i0a + 1 := hA.symm.trans (ag_eq f1 f2 a11 ⟨by omega, by omega, .inr (by rw [e1]; exact g3), g8⟩)
     have q : E = 0 := by omega
     simp only [gw_y q]
     try simp only [q]
     rw [show A - 1 = i0a by omega]
     first | done | rfl)
  | skip
 case a6 | a7 | a8 =>
  first
  | (exfalso; omega)
  | (obtain ⟨q1, q2⟩ := p2_half g6 (by omega)
     have g8 : pc < i0a + 2 * i0b ∨ ¬ gdB pe pb pt pr gm gs qm qs pp pc sk fw qu lim (i0a + 2 * i0b) = true := by (rcases g7 with g7 | g7; omega; exact g7.2)
     first
     | (refine ⟨by omega, by omega, by assumption, by omega, by omega, q1, ?_⟩
        rcases q2 with q2 | q2
        · have e : i0a + i0b + 1 = i0a + 2 * i0b := by omega
          exact .inl ⟨by omega, by rw [e]; exact g8⟩
        · have e : i0a + i0b + 2 * (i0b / 2) = i0a + 2 * i0b := by omega
          exact .inr ⟨by omega, by rw [e]; exact g8⟩)
     | (have up : pc < i0a + i0b ∨ ¬ gdB pe pb pt pr gm gs qm qs pp pc sk fw qu lim (i0a + i0b) = true := by first | (exact .inr (by assumption)) | (exact .inl (by omega))
        refine ⟨by omega, by omega, g3, by omega, by omega, q1, ?_⟩
        rcases q2 with q2 | q2
        · have e : i0a + 1 = i0a + i0b := by omega
          exact .inl ⟨by omega, by rw [e]; exact up⟩
        · have e : i0a + 2 * (i0b / 2) = i0a + i0b := by omega
          exact .inr ⟨by omega, by rw [e]; exact up⟩))
  | skip
theorem bwg_rageV : bwc_rageV.Good Tryz.prog syG (bwE [] [] [] []) := good_of_walkC (Γ := ⟨[ybc_pmay, byc_pomay, bwc_rgood], syG, [], [], []⟩) (ρ := bwE [] [] [] []) sym rageV_w rfl (fun _ _ _ _ => (ok_cons (Con.Good.env (Con.Good.up (Con.Good.up (Con.Good.up (Con.Good.up (Con.Good.up ybg_pmay bzup rfl) byup rfl) bxup rfl) bvup rfl) bwup rfl) _ _ _ _) (ok_cons (Con.Good.env (Con.Good.up (Con.Good.up (Con.Good.up byg_pomay bxup rfl) bvup rfl) bwup rfl) _ _ _ _) (ok_cons (Con.Good.env bwg_rgood _ _ _ _) ok_nil)))) rageV_h
def rageX_tree : Tree :=
 (.need xrbwbndk2_
 (.ret (.tup (.cons (.int .i64 (.lit (0))) (.cons (.int .i64 (.lit (1))) .nil)))))
abbrev bwc_rageX : Con := ⟨29, [xrbwbndk10_, xrbwbndk13_, (.int .i64 (.var 17))], (.b2 .and (.b2 .and (.b2 .and xrbwbndk2_ (.b2 .and xrbwbndk4_ xrbwbndk17_)) xrbwbndk21_) (.not xrbwbndk9_)), xrbwbndk35_, ⟨18, 1, 1, 1⟩, none⟩
theorem rageX_w : walkQ Tryz.prog 111 ⟨[ybc_pmay, byc_pomay, bwc_rgood], syG, [], [], []⟩ [] .v bwc_rageX bwc_rageX.n 3000 (pcOf bwc_rageX.cnd) = some rageX_tree := by kernel_rfl
set_option maxHeartbeats 4000000 in
theorem rageX_h (pe pb pt pr gm gs qm qs pp pc sk sb sa qu fw fc f lim : Int) (j : Bool) (l : Value) (s : ByteArray) : Hyp_ bwc_rageX rageX_tree (bwE [pe, pb, pt, pr, gm, gs, qm, qs, pp, pc, sk, sb, sa, qu, fw, fc, f, lim] [j] [l] [s]) := by
 intro hc hty
 simp only [bwc_rageX, Sy.holds, bwE, denV, denI, denB, denL, I2.den, VOp.den, List.getD_cons_zero, List.getD_cons_succ, Cst.den, syso, syse, syio, sybo, bwb_pm, bwb_shr, B2.ofInts, B2.denI, B2.denB, if_true, Bool.false_eq_true, if_false, Nat.div_one, Nat.mul_one, Nat.add_zero] at hc
 simp only [bwc_rageX, patsTyp, patTyp, patTypL, bwE, denV, denL, List.getD_cons_zero, List.getD_cons_succ, and_true, true_and] at hty
 have hL_l : typ (.sl (.cons (.int .i64) (.cons (.int .i64) (.cons .str .nil)))) l := by first | exact hty | exact hty.1 | exact hty.2 | exact hty.1.1 | exact hty.1.2 | exact hty.2.1 | exact hty.2.2 | exact hty.2.2.1 | exact hty.2.2.2
 have hN_l := typ_len (n := 3) hL_l rfl (by omega)
 unfold rageX_tree
 simp only [bwc_rageX, Tree.holds, Sy.holds, bwE, denV, denI, denB, denL, I2.den, VOp.den, List.getD_cons_zero, List.getD_cons_succ, Cst.den, syso, syse, syio, sybo, bwi_pge, bwi_poe, bwi_gdw, bwi_ag, bwi_ae, B2.ofInts, B2.denI, B2.denB, if_true, Bool.false_eq_true, if_false, Nat.div_one, Nat.mul_one, Nat.add_zero]
 have hp : ¬ pgP pe pb pt pr gm gs qm qs pp pc := fun h => hc.2 (decide_eq_true h)
 have he := pgE_n hp
 have hq := pg_bd pe pb pt pr gm gs qm qs pp pc
 have wn := wr_i64 (pc + 1)
 have an := ag_nn pe pb pt pr gm gs qm qs pp pc sk fw qu lim
 have al : 0 ≤ pc → agI pe pb pt pr gm gs qm qs pp pc sk fw qu lim ≤ pc + 1 := fun h => ag_le pe pb pt pr gm gs qm qs pp pc sk fw qu lim h
 have ha := ae_spec (pgE pe pb pt pr gm gs qm qs pp pc) (poE sk sb sa qu fw fc s f (Sy.rows l)) (agI pe pb pt pr gm gs qm qs pp pc sk fw qu lim)
 obtain ⟨E, hE⟩ : ∃ x, aeE (pgE pe pb pt pr gm gs qm qs pp pc) (poE sk sb sa qu fw fc s f (Sy.rows l)) (agI pe pb pt pr gm gs qm qs pp pc sk fw qu lim) = x := ⟨_, rfl⟩
 simp only [hE] at ha ⊢
 obtain ⟨A, hA⟩ : ∃ x, agI pe pb pt pr gm gs qm qs pp pc sk fw qu lim = x := ⟨_, rfl⟩
 simp only [hA] at ha an al ⊢
 have wa := wr_i64 (A - 1)
 refine ⟨?_, fun h0 => ?_⟩
 ·
  first
  | exact True.intro
  | exact hc.1.1.1
  | exact ⟨hc.1.1.2.1, hc.1.2⟩
  | exact ⟨hc.1.1.1, hc.2, hc.1.1.2.1, by omega, hc.1.1.2.2, by omega, by omega, hc.1.2⟩
  | exact ⟨hc.1.1.1, hc.2, hc.1.1.2.1, by omega, hc.1.1.2.2, by omega, hc.1.2⟩
  | exact ⟨hc.1.1.1, hc.2, hc.1.1.2.1, by omega, hc.1.1.2.2, hc.1.2⟩
  | omega
  | skip
 ·
  first
  | (exfalso; omega)
  | (have q : E = 1 := by omega
     simp only [gw_n (show ¬ E = 0 by omega)]; simp only [q]
     first | done | rfl)
  | (have q : E = 13 := by omega
     simp only [gw_n (show ¬ E = 0 by omega)]; simp only [q]
     first | done | rfl)
  | (have q : E = 0 := by omega
     have wz : IntKind.wrap .i64 (A - 1) = A - 1 := by omega
     simp only [gw_y q, wz]
     try simp only [q]
     first | done | rfl)
  | skip
theorem bwg_rageX : bwc_rageX.Good Tryz.prog syG (bwE [] [] [] []) := good_of_walkC (Γ := ⟨[ybc_pmay, byc_pomay, bwc_rgood], syG, [], [], []⟩) (ρ := bwE [] [] [] []) sym rageX_w rfl (fun _ _ _ _ => (ok_cons (Con.Good.env (Con.Good.up (Con.Good.up (Con.Good.up (Con.Good.up (Con.Good.up ybg_pmay bzup rfl) byup rfl) bxup rfl) bvup rfl) bwup rfl) _ _ _ _) (ok_cons (Con.Good.env (Con.Good.up (Con.Good.up (Con.Good.up byg_pomay bxup rfl) bvup rfl) bwup rfl) _ _ _ _) (ok_cons (Con.Good.env bwg_rgood _ _ _ _) ok_nil)))) rageX_h
abbrev bwc_rage : Con := ⟨29, [xrbwbndk10_, xrbwbndk13_, (.int .i64 (.var 17))], (.b2 .and (.b2 .and xrbwbndk2_ (.b2 .and xrbwbndk4_ xrbwbndk17_)) xrbwbndk21_), xrbwbndk35_, ⟨18, 1, 1, 1⟩, none⟩
theorem bwg_rage : bwc_rage.Good Tryz.prog syG (bwE [] [] [] []) := by
 exact good_split (.bapp 1 (.cons (.int .i64 (.var 0)) (.cons (.int .i64 (.var 1)) (.cons (.int .i64 (.var 2)) (.cons (.int .i64 (.var 3)) (.cons (.int .u32 (.var 4)) (.cons (.int .i64 (.var 5)) (.cons (.int .u32 (.var 6)) (.cons (.int .i64 (.var 7)) (.cons (.int .i64 (.var 8)) (.cons (.int .i64 (.var 9)) .nil))))))))))) bwg_rageV bwg_rageX
end Go.Proofs.YtgondiedehjkhaaGreatDoor
