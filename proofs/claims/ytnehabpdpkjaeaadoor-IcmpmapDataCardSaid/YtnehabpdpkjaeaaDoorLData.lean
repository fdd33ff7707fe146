/-
  Proved here: the law IcmpmapData answers true.
  Conditions: none.
-/
import Derived.Test.YtnehabpdpkjaeaaDoorLDatab
import Derived.Test.YtnehabpdpkjaeaaDoorLDatac
import Derived.Test.YtnehabpdpkjaeaaDoorLDatad
namespace Go.Proofs.YtnehabpdpkjaeaaDoor
open Go.RowKit

theorem icmpmapData_all (m : Mg) (r : Int) (d : ByteArray) (a b len : Int) (w : World) (hm : Hm w) (hr : 0 ≤ m.rs ∧ m.rs < 4294967296) (ir : 0 ≤ r ∧ r < 4294967296) : Calls Tryd.prog 10 #[.agg m.vals.toArray, .int .u32 r, .string d, .int .i64 a, .int .i64 b, .int .i64 len] w (fun e w' => e = .returned (.bool true) ∧ Below w.heap.size w w') := by
  by_cases hd : (1000 : Int) < (m.da.size : Int)
  · exact data_long1 m r d a b len w hm hd
  by_cases he : (1000 : Int) < (d.size : Int)
  · exact data_long2 m r d a b len w hm hd he
  by_cases g12 : m.kd = 12
  · cases e4 : (four m a b).2
    · exact data_s12f m r d a b len w hm hr ir hd he g12 e4
    · exact data_s12t m r d a b len w hm hr ir hd he g12 e4
  by_cases g8 : m.kd = 8
  · cases e6 : (six m a b len).2
    · cases e4 : (four m a b).2
      · exact data_s8ff m r d a b len w hm hr ir hd he g8 e6 e4
      · exact data_s8ft m r d a b len w hm hr ir hd he g8 e6 e4
    · cases e4 : (four m a b).2
      · exact data_s8tf m r d a b len w hm hr ir hd he g8 e6 e4
      · exact data_s8tt m r d a b len w hm hr ir hd he g8 e6 e4
  by_cases g0 : m.kd = 0
  · cases e6 : (six m a b len).2
    · cases e4 : (four m a b).2
      · exact data_s0ff m r d a b len w hm hr ir hd he g0 e6 e4
      · exact data_s0ft m r d a b len w hm hr ir hd he g0 e6 e4
    · cases e4 : (four m a b).2
      · exact data_s0tf m r d a b len w hm hr ir hd he g0 e6 e4
      · exact data_s0tt m r d a b len w hm hr ir hd he g0 e6 e4
  by_cases g3 : m.kd = 3
  · by_cases c4 : m.cd = 4
    · cases e6 : (six m a b len).2
      · cases e4 : (four m a b).2
        · exact data_s34ff m r d a b len w hm hr ir hd he g3 c4 e6 e4
        · exact data_s34ft m r d a b len w hm hr ir hd he g3 c4 e6 e4
      · cases e4 : (four m a b).2
        · exact data_s34tf m r d a b len w hm hr ir hd he g3 c4 e6 e4
        · exact data_s34tt m r d a b len w hm hr ir hd he g3 c4 e6 e4
    · cases e6 : (six m a b len).2
      · cases e4 : (four m a b).2
        · exact data_s3ff m r d a b len w hm hr ir hd he g3 c4 e6 e4
        · exact data_s3ft m r d a b len w hm hr ir hd he g3 c4 e6 e4
      · cases e4 : (four m a b).2
        · exact data_s3tf m r d a b len w hm hr ir hd he g3 c4 e6 e4
        · exact data_s3tt m r d a b len w hm hr ir hd he g3 c4 e6 e4
  by_cases g4 : m.kd = 4
  · by_cases c0 : m.cd = 0
    · cases e6 : (six m a b len).2
      · exact data_s40f m r d a b len w hm hr ir hd he g4 c0 e6
      · exact data_s40t m r d a b len w hm hr ir hd he g4 c0 e6
    · cases e6 : (six m a b len).2
      · cases e4 : (four m a b).2
        · exact data_s4ff m r d a b len w hm hr ir hd he g4 c0 e6 e4
        · exact data_s4ft m r d a b len w hm hr ir hd he g4 c0 e6 e4
      · cases e4 : (four m a b).2
        · exact data_s4tf m r d a b len w hm hr ir hd he g4 c0 e6 e4
        · exact data_s4tt m r d a b len w hm hr ir hd he g4 c0 e6 e4
  cases e6 : (six m a b len).2
  · cases e4 : (four m a b).2
    · exact data_sxff m r d a b len w hm hr ir hd he g12 g8 g0 g3 g4 e6 e4
    · exact data_sxft m r d a b len w hm hr ir hd he g12 g8 g0 g3 g4 e6 e4
  · cases e4 : (four m a b).2
    · exact data_sxtf m r d a b len w hm hr ir hd he g12 g8 g0 g3 g4 e6 e4
    · exact data_sxtt m r d a b len w hm hr ir hd he g12 g8 g0 g3 g4 e6 e4
end Go.Proofs.YtnehabpdpkjaeaaDoor
