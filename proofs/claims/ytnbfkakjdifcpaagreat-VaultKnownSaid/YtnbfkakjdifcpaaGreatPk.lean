/- The tables by their functions; the law runs to true. -/
import Derived.Test.YtnbfkakjdifcpaaGreatPga
import Derived.Test.YtnbfkakjdifcpaaGreatPgb
import Derived.Test.YtnbfkakjdifcpaaGreatPgc
import Derived.Test.YtnbfkakjdifcpaaGreatPgd
import Derived.Test.YtnbfkakjdifcpaaGreatPge
import Derived.Test.YtnbfkakjdifcpaaGreatPgf
import Derived.Test.YtnbfkakjdifcpaaGreatPgg
import Derived.Test.YtnbfkakjdifcpaaGreatPw
set_option linter.unusedVariables false
set_option linter.unusedSimpArgs false
namespace Go.Proofs
open Go Go.RowKit Go.Sim
set_option maxRecDepth 1000000
def Tryz.ygrp67:List GMemoY:=[Tryz.y0k7,Tryz.y1k4,Tryz.y1k5,Tryz.y1k6,Tryz.y2k3,Tryz.y2k7,Tryz.y3k3,Tryz.y3k6,Tryz.y3k7,Tryz.y4k3,Tryz.y4k7,Tryz.y5k4,Tryz.y5k7,Tryz.y6k3,Tryz.y6k4,Tryz.y6k7]
theorem Tryz.ygrp67_ok:GrpOkY Tryz.prog 67 Tryz.ygrp67:=.cons rfl Tryz.y0k7_ok (.cons rfl Tryz.y1k4_ok (.cons rfl Tryz.y1k5_ok (.cons rfl Tryz.y1k6_ok (.cons rfl Tryz.y2k3_ok (.cons rfl Tryz.y2k7_ok (.cons rfl Tryz.y3k3_ok (.cons rfl Tryz.y3k6_ok (.cons rfl Tryz.y3k7_ok (.cons rfl Tryz.y4k3_ok (.cons rfl Tryz.y4k7_ok (.cons rfl Tryz.y5k4_ok (.cons rfl Tryz.y5k7_ok (.cons rfl Tryz.y6k3_ok (.cons rfl Tryz.y6k4_ok (.cons rfl Tryz.y6k7_ok (.nil))))))))))))))))
def Tryz.ygrp31:List GMemoY:=[Tryz.y0k1,Tryz.y0k5,Tryz.y1k0,Tryz.y1k1,Tryz.y1k2,Tryz.y2k0,Tryz.y3k0,Tryz.y3k5,Tryz.y4k0,Tryz.y4k5,Tryz.y5k0,Tryz.y6k0,Tryz.y6k1,Tryz.y6k5]
theorem Tryz.ygrp31_ok:GrpOkY Tryz.prog 31 Tryz.ygrp31:=.cons rfl Tryz.y0k1_ok (.cons rfl Tryz.y0k5_ok (.cons rfl Tryz.y1k0_ok (.cons rfl Tryz.y1k1_ok (.cons rfl Tryz.y1k2_ok (.cons rfl Tryz.y2k0_ok (.cons rfl Tryz.y3k0_ok (.cons rfl Tryz.y3k5_ok (.cons rfl Tryz.y4k0_ok (.cons rfl Tryz.y4k5_ok (.cons rfl Tryz.y5k0_ok (.cons rfl Tryz.y6k0_ok (.cons rfl Tryz.y6k1_ok (.cons rfl Tryz.y6k5_ok (.nil))))))))))))))
def Tryz.ygrp15:List GMemoY:=[Tryz.y0k2,Tryz.y0k3,Tryz.y2k2,Tryz.y2k4,Tryz.y2k6,Tryz.y3k2,Tryz.y4k2,Tryz.y4k4,Tryz.y5k3]
theorem Tryz.ygrp15_ok:GrpOkY Tryz.prog 15 Tryz.ygrp15:=.cons rfl Tryz.y0k2_ok (.cons rfl Tryz.y0k3_ok (.cons rfl Tryz.y2k2_ok (.cons rfl Tryz.y2k4_ok (.cons rfl Tryz.y2k6_ok (.cons rfl Tryz.y3k2_ok (.cons rfl Tryz.y4k2_ok (.cons rfl Tryz.y4k4_ok (.cons rfl Tryz.y5k3_ok (.nil)))))))))
def Tryz.ygrp95:List GMemoY:=[Tryz.y1k8,Tryz.y1k9,Tryz.y2k8,Tryz.y2k9,Tryz.y3k8,Tryz.y3k9,Tryz.y4k9,Tryz.y5k9]
theorem Tryz.ygrp95_ok:GrpOkY Tryz.prog 95 Tryz.ygrp95:=.cons rfl Tryz.y1k8_ok (.cons rfl Tryz.y1k9_ok (.cons rfl Tryz.y2k8_ok (.cons rfl Tryz.y2k9_ok (.cons rfl Tryz.y3k8_ok (.cons rfl Tryz.y3k9_ok (.cons rfl Tryz.y4k9_ok (.cons rfl Tryz.y5k9_ok (.nil))))))))
def Tryz.ygrp102:List GMemoY:=[Tryz.y0k9,Tryz.y0k10,Tryz.y1k10,Tryz.y2k10,Tryz.y3k10,Tryz.y4k10,Tryz.y6k9]
theorem Tryz.ygrp102_ok:GrpOkY Tryz.prog 102 Tryz.ygrp102:=.cons rfl Tryz.y0k9_ok (.cons rfl Tryz.y0k10_ok (.cons rfl Tryz.y1k10_ok (.cons rfl Tryz.y2k10_ok (.cons rfl Tryz.y3k10_ok (.cons rfl Tryz.y4k10_ok (.cons rfl Tryz.y6k9_ok (.nil)))))))
def Tryz.ygrp17:List GMemoY:=[Tryz.y0k8,Tryz.y1k7,Tryz.y4k6,Tryz.y4k8,Tryz.y5k8]
theorem Tryz.ygrp17_ok:GrpOkY Tryz.prog 17 Tryz.ygrp17:=.cons rfl Tryz.y0k8_ok (.cons rfl Tryz.y1k7_ok (.cons rfl Tryz.y4k6_ok (.cons rfl Tryz.y4k8_ok (.cons rfl Tryz.y5k8_ok (.nil)))))
def Tryz.ygrp25:List GMemoY:=[Tryz.y0k4,Tryz.y3k4,Tryz.y5k2]
theorem Tryz.ygrp25_ok:GrpOkY Tryz.prog 25 Tryz.ygrp25:=.cons rfl Tryz.y0k4_ok (.cons rfl Tryz.y3k4_ok (.cons rfl Tryz.y5k2_ok (.nil)))
def Tryz.ygrp22:List GMemoY:=[Tryz.y2k5,Tryz.y5k5,Tryz.y6k2]
theorem Tryz.ygrp22_ok:GrpOkY Tryz.prog 22 Tryz.ygrp22:=.cons rfl Tryz.y2k5_ok (.cons rfl Tryz.y5k5_ok (.cons rfl Tryz.y6k2_ok (.nil)))
def Tryz.ygrp58:List GMemoY:=[Tryz.y0k6,Tryz.y6k8]
theorem Tryz.ygrp58_ok:GrpOkY Tryz.prog 58 Tryz.ygrp58:=.cons rfl Tryz.y0k6_ok (.cons rfl Tryz.y6k8_ok (.nil))
def Tryz.ygrp35:List GMemoY:=[Tryz.y2k1,Tryz.y4k1]
theorem Tryz.ygrp35_ok:GrpOkY Tryz.prog 35 Tryz.ygrp35:=.cons rfl Tryz.y2k1_ok (.cons rfl Tryz.y4k1_ok (.nil))
def Tryz.ygrp33:List GMemoY:=[Tryz.y3k1,Tryz.y5k1]
theorem Tryz.ygrp33_ok:GrpOkY Tryz.prog 33 Tryz.ygrp33:=.cons rfl Tryz.y3k1_ok (.cons rfl Tryz.y5k1_ok (.nil))
def Tryz.ygrp19:List GMemoY:=[Tryz.y5k6,Tryz.y6k6]
theorem Tryz.ygrp19_ok:GrpOkY Tryz.prog 19 Tryz.ygrp19:=.cons rfl Tryz.y5k6_ok (.cons rfl Tryz.y6k6_ok (.nil))
def Tryz.ygrp29:List GMemoY:=[Tryz.y0k0]
theorem Tryz.ygrp29_ok:GrpOkY Tryz.prog 29 Tryz.ygrp29:=.cons rfl Tryz.y0k0_ok (.nil)
def Tryz.ygrp27:List GMemoY:=[Tryz.y1k3]
theorem Tryz.ygrp27_ok:GrpOkY Tryz.prog 27 Tryz.ygrp27:=.cons rfl Tryz.y1k3_ok (.nil)
def Tryz.ygrp68:List GMemoY:=[Tryz.y5k10]
theorem Tryz.ygrp68_ok:GrpOkY Tryz.prog 68 Tryz.ygrp68:=.cons rfl Tryz.y5k10_ok (.nil)
def Tryz.ygrps:List (FuncId × List GMemoY):=[(67,Tryz.ygrp67),(31,Tryz.ygrp31),(15,Tryz.ygrp15),(95,Tryz.ygrp95),(102,Tryz.ygrp102),(17,Tryz.ygrp17),(25,Tryz.ygrp25),(22,Tryz.ygrp22),(58,Tryz.ygrp58),(35,Tryz.ygrp35),(33,Tryz.ygrp33),(19,Tryz.ygrp19),(29,Tryz.ygrp29),(27,Tryz.ygrp27),(68,Tryz.ygrp68)]
theorem Tryz.ygrps_ok:GrpsOkY Tryz.prog Tryz.ygrps:=.cons Tryz.ygrp67_ok (.cons Tryz.ygrp31_ok (.cons Tryz.ygrp15_ok (.cons Tryz.ygrp95_ok (.cons Tryz.ygrp102_ok (.cons Tryz.ygrp17_ok (.cons Tryz.ygrp25_ok (.cons Tryz.ygrp22_ok (.cons Tryz.ygrp58_ok (.cons Tryz.ygrp35_ok (.cons Tryz.ygrp33_ok (.cons Tryz.ygrp19_ok (.cons Tryz.ygrp29_ok (.cons Tryz.ygrp27_ok (.cons Tryz.ygrp68_ok (.nil)))))))))))))))
def Tryz.toldKy:ToldF:=toldGrpY Tryz.ygrps Tryz.T0
theorem Tryz.toldKy_ok (N:Nat):ToldOk Tryz.prog N Tryz.toldKy:=toldGrp_okY Tryz.ygrps_ok Tryz.toldT0 N
theorem Tryz.known (W:World):Calls Tryz.prog 14 #[] W fun e W'=>e=.returned (.bool true)/\BelowD W.heap.size W W' :=
 calls_true (F:=1000000) Tryz.fits Tryz.mixed Tryz.toldKy_ok (n:=99) (by decide +kernel) (by decide +kernel) W
end Go.Proofs
