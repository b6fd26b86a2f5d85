import Derived.Test.YtldekgkjofgacaaZwd1
set_option linter.all false
/- lampblack/lampblacklaw03.Works, computed down into its ca -/
namespace Go.Proofs.Ytldekgkjofgacaa
open Ev
noncomputable section
variable (w:BaseW) (eb:EB) (ec:EC)
theorem ZwG183:Goes pg 46 ZwC208 ZwT141.lit (bw w 1702 eb ec) (Land 46 isN ZwT142.lit (bw w 1702 eb ec)):=goes_partL (k:=1000) cm (by kernel_rfl) rfl rfl (by kernel_rfl)
theorem ZwG90:Goes pg 46 ZwC118 ZwT78.lit (bw w 919 eb ec) (Land 46 isN ZwT79.lit (bw w 919 eb ec)):=goes_partL (k:=1000) cm (by kernel_rfl) rfl rfl (by kernel_rfl)
theorem ZwG184:Goes pg 46 ZwC208 ZwT142.lit (bw w 1702 eb ec) (Land 46 isN ZwT143.lit (bw w 1702 eb ec)):=goes_partL (k:=1000) cm (by kernel_rfl) rfl rfl (by kernel_rfl)
theorem ZwG182:Goes pg 46 ZwC208 ZwT140.lit (bw w 1702 eb ec) (Land 46 isN ZwT141.lit (bw w 1702 eb ec)):=goes_partL (k:=1000) cm (by kernel_rfl) rfl rfl (by kernel_rfl)
theorem ZwG149:Goes pg 46 ZwC178 ZwT117.lit (bw w 1441 eb ec) (Land 46 isN ZwT118.lit (bw w 1441 eb ec)):=goes_partL (k:=1000) cm (by kernel_rfl) rfl rfl (by kernel_rfl)
theorem ZwG4:Goes pg 161 ZwC8 ZwT3 (bw w 0 eb ec) (Land 161 isN ZwT4 (bw w 0 eb ec)):=goes_part (k:=1000) cm (by kernel_rfl) (by kernel_rfl)
theorem ZwG54:Goes pg 46 ZwC88 ZwT52.lit (bw w 532 eb ec) (Land 46 isN ZwT53.lit (bw w 532 eb ec)):=goes_partL (k:=1000) cm (by kernel_rfl) rfl rfl (by kernel_rfl)
theorem ZwG48:Goes pg 46 ZwC88 ZwT46.lit (bw w 532 eb ec) (Land 46 isN ZwT47.lit (bw w 532 eb ec)):=goes_partL (k:=1000) cm (by kernel_rfl) rfl rfl (by kernel_rfl)
theorem ZwG6:Goes pg 161 ZwC12 ZwT5 (bw w 0 eb ec) (Land 161 isN ZwT6 (bw w 0 eb ec)):=goes_part (k:=1000) cm (by kernel_rfl) (by kernel_rfl)
theorem ZwG22:Goes pg 46 ZwC54 ZwT26.lit (bw w 397 eb ec) (Land 46 isN ZwT27.lit (bw w 397 eb ec)):=goes_partL (k:=1000) cm (by kernel_rfl) rfl rfl (by kernel_rfl)
theorem ZwG8:Goes pg 161 ZwC16 ZwT7 (bw w 0 eb ec) (Land 161 isN ZwT8 (bw w 0 eb ec)):=goes_part (k:=1000) cm (by kernel_rfl) (by kernel_rfl)
theorem ZwG146:Goes pg 46 ZwC173 ZwT114.lit (bw w 1441 eb ec) (Land 46 isN ZwT115.lit (bw w 1441 eb ec)):=goes_partL (k:=1000) cm (by kernel_rfl) rfl rfl (by kernel_rfl)
theorem ZwG44:Goes pg 46 ZwC83 ZwT42.lit (bw w 532 eb ec) (Land 46 isN ZwT43.lit (bw w 532 eb ec)):=goes_partL (k:=1000) cm (by kernel_rfl) rfl rfl (by kernel_rfl)
theorem ZwG178:Goes pg 46 ZwC201 ZwT136.lit (bw w 1702 eb ec) (Land 46 isN ZwT137.lit (bw w 1702 eb ec)):=goes_partL (k:=1000) cm (by kernel_rfl) rfl rfl (by kernel_rfl)
theorem ZwG43:Goes pg 46 ZwC81 ZwT41.lit (bw w 532 eb ec) (Land 46 isN ZwT42.lit (bw w 532 eb ec)):=goes_partL (k:=1000) cm (by kernel_rfl) rfl rfl (by kernel_rfl)
theorem ZwG55:Goes pg 46 ZwC88 ZwT53.lit (bw w 532 eb ec) (Land 46 (isX 0) ZwT54.lit (bw w 532 eb ec)):=goes_partL (k:=1000) cm (by kernel_rfl) rfl rfl (by kernel_rfl)
theorem ZwG211:Goes pg 56 ZwC215 ZwT152 (bw w 331 eb ec) (Land 56 isR ZwT153 (bw w 331 eb ec)):=goes_part (k:=1000) cm (by kernel_rfl) (by kernel_rfl)
theorem ZwG147:Goes pg 46 ZwC175 ZwT115.lit (bw w 1441 eb ec) (Land 46 isN ZwT116.lit (bw w 1441 eb ec)):=goes_partL (k:=1000) cm (by kernel_rfl) rfl rfl (by kernel_rfl)
theorem ZwG117:Goes pg 46 ZwC145 ZwT95.lit (bw w 1306 eb ec) (Land 46 isN ZwT96.lit (bw w 1306 eb ec)):=goes_partL (k:=1000) cm (by kernel_rfl) rfl rfl (by kernel_rfl)
theorem ZwG176:Goes pg 11 ZwC194 ZwT133 (bw w 1699 eb ec) (Land 11 isN ZwT134 (bw w 1699 eb ec)):=goes_part (k:=1000) cm (by kernel_rfl) (by kernel_rfl)
theorem ZwG100:Goes pg 11 ZwC119 ZwT81 (bw w 916 eb ec) (Land 11 isR ZwT82 (bw w 916 eb ec)):=goes_part (k:=1000) cm (by kernel_rfl) (by kernel_rfl)
theorem ZwG135:Goes pg 56 ZwC152 ZwT104 (bw w 331 eb ec) (Land 56 isN ZwT105 (bw w 331 eb ec)):=goes_part (k:=1000) cm (by kernel_rfl) (by kernel_rfl)
theorem ZwG64:Goes pg 11 ZwC89 ZwT55 (bw w 529 eb ec) (Land 11 isR ZwT56 (bw w 529 eb ec)):=goes_part (k:=1000) cm (by kernel_rfl) (by kernel_rfl)
theorem ZwG108:Goes pg 56 ZwC123 ZwT85 (bw w 331 eb ec) (Land 56 isN ZwT86 (bw w 331 eb ec)):=goes_part (k:=1000) cm (by kernel_rfl) (by kernel_rfl)
theorem ZwG175:Goes pg 11 ZwC192 ZwT132 (bw w 1699 eb ec) (Land 11 isN ZwT133 (bw w 1699 eb ec)):=goes_part (k:=1000) cm (by kernel_rfl) (by kernel_rfl)
theorem ZwG114:Goes pg 11 ZwC137 ZwT91 (bw w 1303 eb ec) (Land 11 isN ZwT92 (bw w 1303 eb ec)):=goes_part (k:=1000) cm (by kernel_rfl) (by kernel_rfl)
theorem ZwG14:Goes pg 56 ZwC32 ZwT15 (bw w 331 eb ec) (Land 56 isN ZwT16 (bw w 331 eb ec)):=goes_part (k:=1000) cm (by kernel_rfl) (by kernel_rfl)
theorem ZwG40:Goes pg 11 ZwC72 ZwT37 (bw w 529 eb ec) (Land 11 isN ZwT38 (bw w 529 eb ec)):=goes_part (k:=1000) cm (by kernel_rfl) (by kernel_rfl)
theorem ZwG1:Goes pg 161 ZwC2 ZwT0 (bw w 0 eb ec) (Land 161 isN ZwT1 (bw w 0 eb ec)):=goes_part (k:=1000) cm (by kernel_rfl) (by kernel_rfl)
end
end Go.Proofs.Ytldekgkjofgacaa
