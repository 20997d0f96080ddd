/- Joined: H9, H10, H11a, H12. -/
import Derived.Test.YthpfdnkcepfbaaaDoorH8
import Derived.Lib.SlBytesConst
import Derived.Lib.BufferMore
/- The digest of three bytes, a, b, c; alive. -/
set_option linter.unusedVariables false
set_option linter.unusedSimpArgs false
set_option linter.unnecessarySimpa false
namespace Go.Proofs.YthpfdnkcepfbaaaDoor
open Go.RowKit

def abc (i : Nat) : Nat := [97, 98, 99].getD i 0
def bA (j : Nat) : Nat := cat abc 3 (pdf 3) (128 * 0 + j)
theorem rds_succ (k w : Nat → Nat) (s : R8) (n : Nat) : rds k w s (n + 1) = rd (rds k w s n) (k n) (w n) := rfl
theorem rd_eq {r r' : R8} {k w w' : Nat} {x : R8} (h1 : r = r') (h2 : w = w') (h : rd r' k w' = x) : rd r k w = x := by rw [h1, h2]; exact h
theorem sw_eq {b : Nat → Nat} {i a1 a2 a3 a4 x : Nat} (h : ¬ i < 16) (e1 : sw b (i - 16) = a1) (e2 : sw b (i - 15) = a2) (e3 : sw b (i - 7) = a3) (e4 : sw b (i - 2) = a4) (hx : (a1 + sg0 a2 + a3 + sg1 a4) % 18446744073709551616 = x) : sw b i = x := by
  rw [sw_hi b i h, e1, e2, e3, e4]; exact hx
theorem aw0 : sw bA 0 = 7017280570803617792 := (sw_lo bA 0 (by decide)).trans (by kernel_rfl)
theorem aw1 : sw bA 1 = 0 := (sw_lo bA 1 (by decide)).trans (by kernel_rfl)
theorem aw2 : sw bA 2 = 0 := (sw_lo bA 2 (by decide)).trans (by kernel_rfl)
theorem aw3 : sw bA 3 = 0 := (sw_lo bA 3 (by decide)).trans (by kernel_rfl)
theorem aw4 : sw bA 4 = 0 := (sw_lo bA 4 (by decide)).trans (by kernel_rfl)
theorem aw5 : sw bA 5 = 0 := (sw_lo bA 5 (by decide)).trans (by kernel_rfl)
theorem aw6 : sw bA 6 = 0 := (sw_lo bA 6 (by decide)).trans (by kernel_rfl)
theorem aw7 : sw bA 7 = 0 := (sw_lo bA 7 (by decide)).trans (by kernel_rfl)
theorem aw8 : sw bA 8 = 0 := (sw_lo bA 8 (by decide)).trans (by kernel_rfl)
theorem aw9 : sw bA 9 = 0 := (sw_lo bA 9 (by decide)).trans (by kernel_rfl)
theorem aw10 : sw bA 10 = 0 := (sw_lo bA 10 (by decide)).trans (by kernel_rfl)
theorem aw11 : sw bA 11 = 0 := (sw_lo bA 11 (by decide)).trans (by kernel_rfl)
theorem aw12 : sw bA 12 = 0 := (sw_lo bA 12 (by decide)).trans (by kernel_rfl)
theorem aw13 : sw bA 13 = 0 := (sw_lo bA 13 (by decide)).trans (by kernel_rfl)
theorem aw14 : sw bA 14 = 0 := (sw_lo bA 14 (by decide)).trans (by kernel_rfl)
theorem aw15 : sw bA 15 = 24 := (sw_lo bA 15 (by decide)).trans (by kernel_rfl)
theorem aw16 : sw bA 16 = 7017280570803617792 := sw_eq (by decide) aw0 aw1 aw9 aw14 (by kernel_rfl)
theorem aw17 : sw bA 17 = 844424930132160 := sw_eq (by decide) aw1 aw2 aw10 aw15 (by kernel_rfl)
theorem aw18 : sw bA 18 = 762966109232037891 := sw_eq (by decide) aw2 aw3 aw11 aw16 (by kernel_rfl)
theorem aw19 : sw bA 19 = 13195750147587 := sw_eq (by decide) aw3 aw4 aw12 aw17 (by kernel_rfl)
theorem aw20 : sw bA 20 = 6097581589540473238 := sw_eq (by decide) aw4 aw5 aw13 aw18 (by kernel_rfl)
theorem aw21 : sw bA 21 = 54043414571793408 := sw_eq (by decide) aw5 aw6 aw14 aw19 (by kernel_rfl)
theorem aw22 : sw bA 22 = 1483655128544091580 := sw_eq (by decide) aw6 aw7 aw15 aw20 (by kernel_rfl)
theorem aw23 : sw bA 23 = 7126213039481127152 := sw_eq (by decide) aw7 aw8 aw16 aw21 (by kernel_rfl)
theorem aw24 : sw bA 24 = 8602118586805487511 := sw_eq (by decide) aw8 aw9 aw17 aw22 (by kernel_rfl)
theorem aw25 : sw bA 25 = 17389888485336023043 := sw_eq (by decide) aw9 aw10 aw18 aw23 (by kernel_rfl)
theorem aw26 : sw bA 26 = 14567336803169050610 := sw_eq (by decide) aw10 aw11 aw19 aw24 (by kernel_rfl)
theorem aw27 : sw bA 27 = 6777467420161596722 := sw_eq (by decide) aw11 aw12 aw20 aw25 (by kernel_rfl)
theorem aw28 : sw bA 28 = 16310457152051956578 := sw_eq (by decide) aw12 aw13 aw21 aw26 (by kernel_rfl)
theorem aw29 : sw bA 29 = 11476377395010010066 := sw_eq (by decide) aw13 aw14 aw22 aw27 (by kernel_rfl)
theorem aw30 : sw bA 30 = 12906063273572982575 := sw_eq (by decide) aw14 aw15 aw23 aw28 (by kernel_rfl)
theorem aw31 : sw bA 31 = 1051720670150476534 := sw_eq (by decide) aw15 aw16 aw24 aw29 (by kernel_rfl)
theorem aw32 : sw bA 32 = 11866753008450386212 := sw_eq (by decide) aw16 aw17 aw25 aw30 (by kernel_rfl)
theorem aw33 : sw bA 33 = 12477396688234164614 := sw_eq (by decide) aw17 aw18 aw26 aw31 (by kernel_rfl)
theorem aw34 : sw bA 34 = 4356201549416458046 := sw_eq (by decide) aw18 aw19 aw27 aw32 (by kernel_rfl)
theorem aw35 : sw bA 35 = 7840148015528850751 := sw_eq (by decide) aw19 aw20 aw28 aw33 (by kernel_rfl)
theorem aw36 : sw bA 36 = 14121359558264892382 := sw_eq (by decide) aw20 aw21 aw29 aw34 (by kernel_rfl)
theorem aw37 : sw bA 37 = 6614793513367853908 := sw_eq (by decide) aw21 aw22 aw30 aw35 (by kernel_rfl)
theorem aw38 : sw bA 38 = 4522218185451149906 := sw_eq (by decide) aw22 aw23 aw31 aw36 (by kernel_rfl)
theorem aw39 : sw bA 39 = 2892552721718560235 := sw_eq (by decide) aw23 aw24 aw32 aw37 (by kernel_rfl)
theorem aw40 : sw bA 40 = 352189473509599370 := sw_eq (by decide) aw24 aw25 aw33 aw38 (by kernel_rfl)
theorem aw41 : sw bA 41 = 9030584440117125351 := sw_eq (by decide) aw25 aw26 aw34 aw39 (by kernel_rfl)
theorem aw42 : sw bA 42 = 12607724378241962598 := sw_eq (by decide) aw26 aw27 aw35 aw40 (by kernel_rfl)
theorem aw43 : sw bA 43 = 829913954127880271 := sw_eq (by decide) aw27 aw28 aw36 aw41 (by kernel_rfl)
theorem aw44 : sw bA 44 = 12787094207806812211 := sw_eq (by decide) aw28 aw29 aw37 aw42 (by kernel_rfl)
theorem aw45 : sw bA 45 = 6729427763312036062 := sw_eq (by decide) aw29 aw30 aw38 aw43 (by kernel_rfl)
theorem aw46 : sw bA 46 = 5477573448673053883 := sw_eq (by decide) aw30 aw31 aw39 aw44 (by kernel_rfl)
theorem aw47 : sw bA 47 = 16621003149437336899 := sw_eq (by decide) aw31 aw32 aw40 aw45 (by kernel_rfl)
theorem aw48 : sw bA 48 = 16999664878006829468 := sw_eq (by decide) aw32 aw33 aw41 aw46 (by kernel_rfl)
theorem aw49 : sw bA 49 = 3899695832832618899 := sw_eq (by decide) aw33 aw34 aw42 aw47 (by kernel_rfl)
theorem aw50 : sw bA 50 = 3357496273253151093 := sw_eq (by decide) aw34 aw35 aw43 aw48 (by kernel_rfl)
theorem aw51 : sw bA 51 = 3682082552034448227 := sw_eq (by decide) aw35 aw36 aw44 aw49 (by kernel_rfl)
theorem aw52 : sw bA 52 = 11294004811417749973 := sw_eq (by decide) aw36 aw37 aw45 aw50 (by kernel_rfl)
theorem aw53 : sw bA 53 = 2836744397419860151 := sw_eq (by decide) aw37 aw38 aw46 aw51 (by kernel_rfl)
theorem aw54 : sw bA 54 = 4287662693712260952 := sw_eq (by decide) aw38 aw39 aw47 aw52 (by kernel_rfl)
theorem aw55 : sw bA 55 = 938603131418550565 := sw_eq (by decide) aw39 aw40 aw48 aw53 (by kernel_rfl)
theorem aw56 : sw bA 56 = 8445351822503640832 := sw_eq (by decide) aw40 aw41 aw49 aw54 (by kernel_rfl)
theorem aw57 : sw bA 57 = 13301424169519149285 := sw_eq (by decide) aw41 aw42 aw50 aw55 (by kernel_rfl)
theorem aw58 : sw bA 58 = 2637789678536900255 := sw_eq (by decide) aw42 aw43 aw51 aw56 (by kernel_rfl)
theorem aw59 : sw bA 59 = 5398300769020374814 := sw_eq (by decide) aw43 aw44 aw52 aw57 (by kernel_rfl)
theorem aw60 : sw bA 60 = 3226112756715261327 := sw_eq (by decide) aw44 aw45 aw53 aw58 (by kernel_rfl)
theorem aw61 : sw bA 61 = 12850822427266563721 := sw_eq (by decide) aw45 aw46 aw54 aw59 (by kernel_rfl)
theorem aw62 : sw bA 62 = 13957599002836691690 := sw_eq (by decide) aw46 aw47 aw55 aw60 (by kernel_rfl)
theorem aw63 : sw bA 63 = 14720324025197921979 := sw_eq (by decide) aw47 aw48 aw56 aw61 (by kernel_rfl)
theorem aw64 : sw bA 64 = 5807888345885282540 := sw_eq (by decide) aw48 aw49 aw57 aw62 (by kernel_rfl)
theorem aw65 : sw bA 65 = 6820734040768121841 := sw_eq (by decide) aw49 aw50 aw58 aw63 (by kernel_rfl)
theorem aw66 : sw bA 66 = 17000633838971044521 := sw_eq (by decide) aw50 aw51 aw59 aw64 (by kernel_rfl)
theorem aw67 : sw bA 67 = 12690899187530245291 := sw_eq (by decide) aw51 aw52 aw60 aw65 (by kernel_rfl)
theorem aw68 : sw bA 68 = 8675115807306831190 := sw_eq (by decide) aw52 aw53 aw61 aw66 (by kernel_rfl)
theorem aw69 : sw bA 69 = 14216296850786374956 := sw_eq (by decide) aw53 aw54 aw62 aw67 (by kernel_rfl)
theorem aw70 : sw bA 70 = 12954869667114756766 := sw_eq (by decide) aw54 aw55 aw63 aw68 (by kernel_rfl)
theorem aw71 : sw bA 71 = 13513824624013906744 := sw_eq (by decide) aw55 aw56 aw64 aw69 (by kernel_rfl)
theorem aw72 : sw bA 72 = 17743411111893162616 := sw_eq (by decide) aw56 aw57 aw65 aw70 (by kernel_rfl)
theorem aw73 : sw bA 73 = 13727910554596711163 := sw_eq (by decide) aw57 aw58 aw66 aw71 (by kernel_rfl)
theorem aw74 : sw bA 74 = 5324059115621695157 := sw_eq (by decide) aw58 aw59 aw67 aw72 (by kernel_rfl)
theorem aw75 : sw bA 75 = 9378356217484295577 := sw_eq (by decide) aw59 aw60 aw68 aw73 (by kernel_rfl)
theorem aw76 : sw bA 76 = 18299600774795048491 := sw_eq (by decide) aw60 aw61 aw69 aw74 (by kernel_rfl)
theorem aw77 : sw bA 77 = 5065130554155974958 := sw_eq (by decide) aw61 aw62 aw70 aw75 (by kernel_rfl)
theorem aw78 : sw bA 78 = 16449879781680111900 := sw_eq (by decide) aw62 aw63 aw71 aw76 (by kernel_rfl)
theorem aw79 : sw bA 79 = 10569647959714887634 := sw_eq (by decide) aw63 aw64 aw72 aw77 (by kernel_rfl)
theorem aq0 : rds KK (sw bA) (r8 IV) 0 = ⟨7640891576956012808, 13503953896175478587, 4354685564936845355, 11912009170470909681, 5840696475078001361, 11170449401992604703, 2270897969802886507, 6620516959819538809⟩ := by kernel_rfl
theorem aq1 : rds KK (sw bA) (r8 IV) 1 = ⟨17775653547094629877, 7640891576956012808, 13503953896175478587, 4354685564936845355, 6398210120030166929, 5840696475078001361, 11170449401992604703, 2270897969802886507⟩ := (rds_succ KK (sw bA) (r8 IV) 0).trans (rd_eq aq0 aw0 (by kernel_rfl))
theorem aq2 : rds KK (sw bA) (r8 IV) 2 = ⟨1378375032367426752, 17775653547094629877, 7640891576956012808, 13503953896175478587, 14111163005532442618, 6398210120030166929, 5840696475078001361, 11170449401992604703⟩ := (rds_succ KK (sw bA) (r8 IV) 1).trans (rd_eq aq1 aw1 (by kernel_rfl))
theorem aq3 : rds KK (sw bA) (r8 IV) 3 = ⟨16992077026628047347, 1378375032367426752, 17775653547094629877, 7640891576956012808, 16116608703471908882, 14111163005532442618, 6398210120030166929, 5840696475078001361⟩ := (rds_succ KK (sw bA) (r8 IV) 2).trans (rd_eq aq2 aw2 (by kernel_rfl))
theorem aq4 : rds KK (sw bA) (r8 IV) 4 = ⟨6522280154658836098, 16992077026628047347, 1378375032367426752, 17775653547094629877, 812816973437638926, 16116608703471908882, 14111163005532442618, 6398210120030166929⟩ := (rds_succ KK (sw bA) (r8 IV) 3).trans (rd_eq aq3 aw3 (by kernel_rfl))
theorem aq5 : rds KK (sw bA) (r8 IV) 5 = ⟨13150674985332787296, 6522280154658836098, 16992077026628047347, 1378375032367426752, 8384236076355474146, 812816973437638926, 16116608703471908882, 14111163005532442618⟩ := (rds_succ KK (sw bA) (r8 IV) 4).trans (rd_eq aq4 aw4 (by kernel_rfl))
theorem aq6 : rds KK (sw bA) (r8 IV) 6 = ⟨12634632160465029581, 13150674985332787296, 6522280154658836098, 16992077026628047347, 10877884190705857978, 8384236076355474146, 812816973437638926, 16116608703471908882⟩ := (rds_succ KK (sw bA) (r8 IV) 5).trans (rd_eq aq5 aw5 (by kernel_rfl))
theorem aq7 : rds KK (sw bA) (r8 IV) 7 = ⟨14161387662446692203, 12634632160465029581, 13150674985332787296, 6522280154658836098, 6515714836861337612, 10877884190705857978, 8384236076355474146, 812816973437638926⟩ := (rds_succ KK (sw bA) (r8 IV) 6).trans (rd_eq aq6 aw6 (by kernel_rfl))
theorem aq8 : rds KK (sw bA) (r8 IV) 8 = ⟨9264979300070018979, 14161387662446692203, 12634632160465029581, 13150674985332787296, 9725086217580637194, 6515714836861337612, 10877884190705857978, 8384236076355474146⟩ := (rds_succ KK (sw bA) (r8 IV) 7).trans (rd_eq aq7 aw7 (by kernel_rfl))
theorem aq9 : rds KK (sw bA) (r8 IV) 9 = ⟨17432490039127347749, 9264979300070018979, 14161387662446692203, 12634632160465029581, 15006060176321282050, 9725086217580637194, 6515714836861337612, 10877884190705857978⟩ := (rds_succ KK (sw bA) (r8 IV) 8).trans (rd_eq aq8 aw8 (by kernel_rfl))
theorem aq10 : rds KK (sw bA) (r8 IV) 10 = ⟨9329256425520926467, 17432490039127347749, 9264979300070018979, 14161387662446692203, 2567660498086994, 15006060176321282050, 9725086217580637194, 6515714836861337612⟩ := (rds_succ KK (sw bA) (r8 IV) 9).trans (rd_eq aq9 aw9 (by kernel_rfl))
theorem aq11 : rds KK (sw bA) (r8 IV) 11 = ⟨7603567429296479065, 9329256425520926467, 17432490039127347749, 9264979300070018979, 15237163099293983732, 2567660498086994, 15006060176321282050, 9725086217580637194⟩ := (rds_succ KK (sw bA) (r8 IV) 10).trans (rd_eq aq10 aw10 (by kernel_rfl))
theorem aq12 : rds KK (sw bA) (r8 IV) 12 = ⟨15783596498715684522, 7603567429296479065, 9329256425520926467, 17432490039127347749, 5141269887493752364, 15237163099293983732, 2567660498086994, 15006060176321282050⟩ := (rds_succ KK (sw bA) (r8 IV) 11).trans (rd_eq aq11 aw11 (by kernel_rfl))
theorem aq13 : rds KK (sw bA) (r8 IV) 13 = ⟨6791746286981245972, 15783596498715684522, 7603567429296479065, 9329256425520926467, 14840416245504788953, 5141269887493752364, 15237163099293983732, 2567660498086994⟩ := (rds_succ KK (sw bA) (r8 IV) 12).trans (rd_eq aq12 aw12 (by kernel_rfl))
theorem aq14 : rds KK (sw bA) (r8 IV) 14 = ⟨4910214631565110432, 6791746286981245972, 15783596498715684522, 7603567429296479065, 9658760632651640673, 14840416245504788953, 5141269887493752364, 15237163099293983732⟩ := (rds_succ KK (sw bA) (r8 IV) 13).trans (rd_eq aq13 aw13 (by kernel_rfl))
theorem aq15 : rds KK (sw bA) (r8 IV) 15 = ⟨18056759314602819624, 4910214631565110432, 6791746286981245972, 15783596498715684522, 9749165504138747695, 9658760632651640673, 14840416245504788953, 5141269887493752364⟩ := (rds_succ KK (sw bA) (r8 IV) 14).trans (rd_eq aq14 aw14 (by kernel_rfl))
theorem aq16 : rds KK (sw bA) (r8 IV) 16 = ⟨783763253101075573, 18056759314602819624, 4910214631565110432, 6791746286981245972, 12068375980370346337, 9749165504138747695, 9658760632651640673, 14840416245504788953⟩ := (rds_succ KK (sw bA) (r8 IV) 15).trans (rd_eq aq15 aw15 (by kernel_rfl))
theorem aq17 : rds KK (sw bA) (r8 IV) 17 = ⟨14625468662224520503, 783763253101075573, 18056759314602819624, 4910214631565110432, 3309807537067806072, 12068375980370346337, 9749165504138747695, 9658760632651640673⟩ := (rds_succ KK (sw bA) (r8 IV) 16).trans (rd_eq aq16 aw16 (by kernel_rfl))
theorem aq18 : rds KK (sw bA) (r8 IV) 18 = ⟨5126712815256706667, 14625468662224520503, 783763253101075573, 18056759314602819624, 17617663188986524757, 3309807537067806072, 12068375980370346337, 9749165504138747695⟩ := (rds_succ KK (sw bA) (r8 IV) 17).trans (rd_eq aq17 aw17 (by kernel_rfl))
theorem aq19 : rds KK (sw bA) (r8 IV) 19 = ⟨4344637751343070939, 5126712815256706667, 14625468662224520503, 783763253101075573, 2984021611801336784, 17617663188986524757, 3309807537067806072, 12068375980370346337⟩ := (rds_succ KK (sw bA) (r8 IV) 18).trans (rd_eq aq18 aw18 (by kernel_rfl))
theorem aq20 : rds KK (sw bA) (r8 IV) 20 = ⟨11114801226032008966, 4344637751343070939, 5126712815256706667, 14625468662224520503, 17386595912996910718, 2984021611801336784, 17617663188986524757, 3309807537067806072⟩ := (rds_succ KK (sw bA) (r8 IV) 19).trans (rd_eq aq19 aw19 (by kernel_rfl))
theorem aq21 : rds KK (sw bA) (r8 IV) 21 = ⟨10215763080027912277, 11114801226032008966, 4344637751343070939, 5126712815256706667, 5456645779651674076, 17386595912996910718, 2984021611801336784, 17617663188986524757⟩ := (rds_succ KK (sw bA) (r8 IV) 20).trans (rd_eq aq20 aw20 (by kernel_rfl))
theorem aq22 : rds KK (sw bA) (r8 IV) 22 = ⟨15723427937955163599, 10215763080027912277, 11114801226032008966, 4344637751343070939, 10245969569294878547, 5456645779651674076, 17386595912996910718, 2984021611801336784⟩ := (rds_succ KK (sw bA) (r8 IV) 21).trans (rd_eq aq21 aw21 (by kernel_rfl))
theorem aq23 : rds KK (sw bA) (r8 IV) 23 = ⟨4478342017695390328, 15723427937955163599, 10215763080027912277, 11114801226032008966, 775376826807972294, 10245969569294878547, 5456645779651674076, 17386595912996910718⟩ := (rds_succ KK (sw bA) (r8 IV) 22).trans (rd_eq aq22 aw22 (by kernel_rfl))
theorem aq24 : rds KK (sw bA) (r8 IV) 24 = ⟨5721954948261172356, 4478342017695390328, 15723427937955163599, 10215763080027912277, 14294431782093017651, 775376826807972294, 10245969569294878547, 5456645779651674076⟩ := (rds_succ KK (sw bA) (r8 IV) 23).trans (rd_eq aq23 aw23 (by kernel_rfl))
theorem aq25 : rds KK (sw bA) (r8 IV) 25 = ⟨11168769941273028928, 5721954948261172356, 4478342017695390328, 15723427937955163599, 15270845656795188847, 14294431782093017651, 775376826807972294, 10245969569294878547⟩ := (rds_succ KK (sw bA) (r8 IV) 24).trans (rd_eq aq24 aw24 (by kernel_rfl))
theorem aq26 : rds KK (sw bA) (r8 IV) 26 = ⟨848356311147381099, 11168769941273028928, 5721954948261172356, 4478342017695390328, 7917081682208678710, 15270845656795188847, 14294431782093017651, 775376826807972294⟩ := (rds_succ KK (sw bA) (r8 IV) 25).trans (rd_eq aq25 aw25 (by kernel_rfl))
theorem aq27 : rds KK (sw bA) (r8 IV) 27 = ⟨9821290593874409793, 848356311147381099, 11168769941273028928, 5721954948261172356, 16637577518858404709, 7917081682208678710, 15270845656795188847, 14294431782093017651⟩ := (rds_succ KK (sw bA) (r8 IV) 26).trans (rd_eq aq26 aw26 (by kernel_rfl))
theorem aq28 : rds KK (sw bA) (r8 IV) 28 = ⟨16912329303693954313, 9821290593874409793, 848356311147381099, 11168769941273028928, 650359264440356268, 16637577518858404709, 7917081682208678710, 15270845656795188847⟩ := (rds_succ KK (sw bA) (r8 IV) 27).trans (rd_eq aq27 aw27 (by kernel_rfl))
theorem aq29 : rds KK (sw bA) (r8 IV) 29 = ⟨16583178556168196874, 16912329303693954313, 9821290593874409793, 848356311147381099, 1138840708014282116, 650359264440356268, 16637577518858404709, 7917081682208678710⟩ := (rds_succ KK (sw bA) (r8 IV) 28).trans (rd_eq aq28 aw28 (by kernel_rfl))
theorem aq30 : rds KK (sw bA) (r8 IV) 30 = ⟨8412514064609660003, 16583178556168196874, 16912329303693954313, 9821290593874409793, 17343013611567050885, 1138840708014282116, 650359264440356268, 16637577518858404709⟩ := (rds_succ KK (sw bA) (r8 IV) 29).trans (rd_eq aq29 aw29 (by kernel_rfl))
theorem aq31 : rds KK (sw bA) (r8 IV) 31 = ⟨5498820066291512230, 8412514064609660003, 16583178556168196874, 16912329303693954313, 8349715323546435235, 17343013611567050885, 1138840708014282116, 650359264440356268⟩ := (rds_succ KK (sw bA) (r8 IV) 30).trans (rd_eq aq30 aw30 (by kernel_rfl))
theorem aq32 : rds KK (sw bA) (r8 IV) 32 = ⟨18396429455477614390, 5498820066291512230, 8412514064609660003, 16583178556168196874, 4382997362745284142, 8349715323546435235, 17343013611567050885, 1138840708014282116⟩ := (rds_succ KK (sw bA) (r8 IV) 31).trans (rd_eq aq31 aw31 (by kernel_rfl))
theorem aq33 : rds KK (sw bA) (r8 IV) 33 = ⟨11551891467463608532, 18396429455477614390, 5498820066291512230, 8412514064609660003, 16213879445386825839, 4382997362745284142, 8349715323546435235, 17343013611567050885⟩ := (rds_succ KK (sw bA) (r8 IV) 32).trans (rd_eq aq32 aw32 (by kernel_rfl))
theorem aq34 : rds KK (sw bA) (r8 IV) 34 = ⟨6977455269099413478, 11551891467463608532, 18396429455477614390, 5498820066291512230, 17270105604882170906, 16213879445386825839, 4382997362745284142, 8349715323546435235⟩ := (rds_succ KK (sw bA) (r8 IV) 33).trans (rd_eq aq33 aw33 (by kernel_rfl))
theorem aq35 : rds KK (sw bA) (r8 IV) 35 = ⟨3195845407571912225, 6977455269099413478, 11551891467463608532, 18396429455477614390, 1133471629149999059, 17270105604882170906, 16213879445386825839, 4382997362745284142⟩ := (rds_succ KK (sw bA) (r8 IV) 34).trans (rd_eq aq34 aw34 (by kernel_rfl))
theorem aq36 : rds KK (sw bA) (r8 IV) 36 = ⟨1875778915943693356, 3195845407571912225, 6977455269099413478, 11551891467463608532, 17336615764864222413, 1133471629149999059, 17270105604882170906, 16213879445386825839⟩ := (rds_succ KK (sw bA) (r8 IV) 35).trans (rd_eq aq35 aw35 (by kernel_rfl))
theorem aq37 : rds KK (sw bA) (r8 IV) 37 = ⟨9862748703077922068, 1875778915943693356, 3195845407571912225, 6977455269099413478, 10358226461617243765, 17336615764864222413, 1133471629149999059, 17270105604882170906⟩ := (rds_succ KK (sw bA) (r8 IV) 36).trans (rd_eq aq36 aw36 (by kernel_rfl))
theorem aq38 : rds KK (sw bA) (r8 IV) 38 = ⟨12306716839941479, 9862748703077922068, 1875778915943693356, 3195845407571912225, 7398798058767285181, 10358226461617243765, 17336615764864222413, 1133471629149999059⟩ := (rds_succ KK (sw bA) (r8 IV) 37).trans (rd_eq aq37 aw37 (by kernel_rfl))
theorem aq39 : rds KK (sw bA) (r8 IV) 39 = ⟨12951091674955083237, 12306716839941479, 9862748703077922068, 1875778915943693356, 13012472458591840222, 7398798058767285181, 10358226461617243765, 17336615764864222413⟩ := (rds_succ KK (sw bA) (r8 IV) 38).trans (rd_eq aq38 aw38 (by kernel_rfl))
theorem aq40 : rds KK (sw bA) (r8 IV) 40 = ⟨10232707380485149221, 12951091674955083237, 12306716839941479, 9862748703077922068, 896509104009926267, 13012472458591840222, 7398798058767285181, 10358226461617243765⟩ := (rds_succ KK (sw bA) (r8 IV) 39).trans (rd_eq aq39 aw39 (by kernel_rfl))
theorem aq41 : rds KK (sw bA) (r8 IV) 41 = ⟨12688084760043184428, 10232707380485149221, 12951091674955083237, 12306716839941479, 1625809033136641803, 896509104009926267, 13012472458591840222, 7398798058767285181⟩ := (rds_succ KK (sw bA) (r8 IV) 40).trans (rd_eq aq40 aw40 (by kernel_rfl))
theorem aq42 : rds KK (sw bA) (r8 IV) 42 = ⟨16820814716754188369, 12688084760043184428, 10232707380485149221, 12951091674955083237, 17336998440402750641, 1625809033136641803, 896509104009926267, 13012472458591840222⟩ := (rds_succ KK (sw bA) (r8 IV) 41).trans (rd_eq aq41 aw41 (by kernel_rfl))
theorem aq43 : rds KK (sw bA) (r8 IV) 43 = ⟨13548440172623021184, 16820814716754188369, 12688084760043184428, 10232707380485149221, 7177815560071004560, 17336998440402750641, 1625809033136641803, 896509104009926267⟩ := (rds_succ KK (sw bA) (r8 IV) 42).trans (rd_eq aq42 aw42 (by kernel_rfl))
theorem aq44 : rds KK (sw bA) (r8 IV) 44 = ⟨3879824639663262677, 13548440172623021184, 16820814716754188369, 12688084760043184428, 14722549316117270770, 7177815560071004560, 17336998440402750641, 1625809033136641803⟩ := (rds_succ KK (sw bA) (r8 IV) 43).trans (rd_eq aq43 aw43 (by kernel_rfl))
theorem aq45 : rds KK (sw bA) (r8 IV) 45 = ⟨14158364349133529652, 3879824639663262677, 13548440172623021184, 16820814716754188369, 9623492198945820956, 14722549316117270770, 7177815560071004560, 17336998440402750641⟩ := (rds_succ KK (sw bA) (r8 IV) 44).trans (rd_eq aq44 aw44 (by kernel_rfl))
theorem aq46 : rds KK (sw bA) (r8 IV) 46 = ⟨153046364994624198, 14158364349133529652, 3879824639663262677, 13548440172623021184, 16815361663307703513, 9623492198945820956, 14722549316117270770, 7177815560071004560⟩ := (rds_succ KK (sw bA) (r8 IV) 45).trans (rd_eq aq45 aw45 (by kernel_rfl))
theorem aq47 : rds KK (sw bA) (r8 IV) 47 = ⟨17734725798035598695, 153046364994624198, 14158364349133529652, 3879824639663262677, 14320379687691201178, 16815361663307703513, 9623492198945820956, 14722549316117270770⟩ := (rds_succ KK (sw bA) (r8 IV) 46).trans (rd_eq aq46 aw46 (by kernel_rfl))
theorem aq48 : rds KK (sw bA) (r8 IV) 48 = ⟨7739994630535708332, 17734725798035598695, 153046364994624198, 14158364349133529652, 3829822426967623853, 14320379687691201178, 16815361663307703513, 9623492198945820956⟩ := (rds_succ KK (sw bA) (r8 IV) 47).trans (rd_eq aq47 aw47 (by kernel_rfl))
theorem aq49 : rds KK (sw bA) (r8 IV) 49 = ⟨6277791645680508999, 7739994630535708332, 17734725798035598695, 153046364994624198, 2816298899201742416, 3829822426967623853, 14320379687691201178, 16815361663307703513⟩ := (rds_succ KK (sw bA) (r8 IV) 48).trans (rd_eq aq48 aw48 (by kernel_rfl))
theorem aq50 : rds KK (sw bA) (r8 IV) 50 = ⟨14599500535775430936, 6277791645680508999, 7739994630535708332, 17734725798035598695, 16132054233708160581, 2816298899201742416, 3829822426967623853, 14320379687691201178⟩ := (rds_succ KK (sw bA) (r8 IV) 49).trans (rd_eq aq49 aw49 (by kernel_rfl))
theorem aq51 : rds KK (sw bA) (r8 IV) 51 = ⟨9311829796752203843, 14599500535775430936, 6277791645680508999, 7739994630535708332, 549677677730881050, 16132054233708160581, 2816298899201742416, 3829822426967623853⟩ := (rds_succ KK (sw bA) (r8 IV) 50).trans (rd_eq aq50 aw50 (by kernel_rfl))
theorem aq52 : rds KK (sw bA) (r8 IV) 52 = ⟨15294087387154865527, 9311829796752203843, 14599500535775430936, 6277791645680508999, 5206021154089656894, 549677677730881050, 16132054233708160581, 2816298899201742416⟩ := (rds_succ KK (sw bA) (r8 IV) 51).trans (rd_eq aq51 aw51 (by kernel_rfl))
theorem aq53 : rds KK (sw bA) (r8 IV) 53 = ⟨278961163176436227, 15294087387154865527, 9311829796752203843, 14599500535775430936, 5787007753261273082, 5206021154089656894, 549677677730881050, 16132054233708160581⟩ := (rds_succ KK (sw bA) (r8 IV) 52).trans (rd_eq aq52 aw52 (by kernel_rfl))
theorem aq54 : rds KK (sw bA) (r8 IV) 54 = ⟨15438172411855308458, 278961163176436227, 15294087387154865527, 9311829796752203843, 11995371684218654210, 5787007753261273082, 5206021154089656894, 549677677730881050⟩ := (rds_succ KK (sw bA) (r8 IV) 53).trans (rd_eq aq53 aw53 (by kernel_rfl))
theorem aq55 : rds KK (sw bA) (r8 IV) 55 = ⟨17748832896332585549, 15438172411855308458, 278961163176436227, 15294087387154865527, 11299446916609150854, 11995371684218654210, 5787007753261273082, 5206021154089656894⟩ := (rds_succ KK (sw bA) (r8 IV) 54).trans (rd_eq aq54 aw54 (by kernel_rfl))
theorem aq56 : rds KK (sw bA) (r8 IV) 56 = ⟨7184473838590656894, 17748832896332585549, 15438172411855308458, 278961163176436227, 14318312290346190089, 11299446916609150854, 11995371684218654210, 5787007753261273082⟩ := (rds_succ KK (sw bA) (r8 IV) 55).trans (rd_eq aq55 aw55 (by kernel_rfl))
theorem aq57 : rds KK (sw bA) (r8 IV) 57 = ⟨8814267027135212293, 7184473838590656894, 17748832896332585549, 15438172411855308458, 15197568181060242400, 14318312290346190089, 11299446916609150854, 11995371684218654210⟩ := (rds_succ KK (sw bA) (r8 IV) 56).trans (rd_eq aq56 aw56 (by kernel_rfl))
theorem aq58 : rds KK (sw bA) (r8 IV) 58 = ⟨5440844980312009291, 8814267027135212293, 7184473838590656894, 17748832896332585549, 8093066971341607340, 15197568181060242400, 14318312290346190089, 11299446916609150854⟩ := (rds_succ KK (sw bA) (r8 IV) 57).trans (rd_eq aq57 aw57 (by kernel_rfl))
theorem aq59 : rds KK (sw bA) (r8 IV) 59 = ⟨6349735945983285688, 5440844980312009291, 8814267027135212293, 7184473838590656894, 7655163957258796854, 8093066971341607340, 15197568181060242400, 14318312290346190089⟩ := (rds_succ KK (sw bA) (r8 IV) 58).trans (rd_eq aq58 aw58 (by kernel_rfl))
theorem aq60 : rds KK (sw bA) (r8 IV) 60 = ⟨3172579800243940492, 6349735945983285688, 5440844980312009291, 8814267027135212293, 5158818281292236434, 7655163957258796854, 8093066971341607340, 15197568181060242400⟩ := (rds_succ KK (sw bA) (r8 IV) 59).trans (rd_eq aq59 aw59 (by kernel_rfl))
theorem aq61 : rds KK (sw bA) (r8 IV) 61 = ⟨4059959686365434810, 3172579800243940492, 6349735945983285688, 5440844980312009291, 12010905165818265169, 5158818281292236434, 7655163957258796854, 8093066971341607340⟩ := (rds_succ KK (sw bA) (r8 IV) 60).trans (rd_eq aq60 aw60 (by kernel_rfl))
theorem aq62 : rds KK (sw bA) (r8 IV) 62 = ⟨14973785467481547446, 4059959686365434810, 3172579800243940492, 6349735945983285688, 697747594908290533, 12010905165818265169, 5158818281292236434, 7655163957258796854⟩ := (rds_succ KK (sw bA) (r8 IV) 61).trans (rd_eq aq61 aw61 (by kernel_rfl))
theorem aq63 : rds KK (sw bA) (r8 IV) 63 = ⟨12114099962780444227, 14973785467481547446, 4059959686365434810, 3172579800243940492, 9513159758854096378, 697747594908290533, 12010905165818265169, 5158818281292236434⟩ := (rds_succ KK (sw bA) (r8 IV) 62).trans (rd_eq aq62 aw62 (by kernel_rfl))
theorem aq64 : rds KK (sw bA) (r8 IV) 64 = ⟨12341244388490841477, 12114099962780444227, 14973785467481547446, 4059959686365434810, 14810121346132393043, 9513159758854096378, 697747594908290533, 12010905165818265169⟩ := (rds_succ KK (sw bA) (r8 IV) 63).trans (rd_eq aq63 aw63 (by kernel_rfl))
theorem aq65 : rds KK (sw bA) (r8 IV) 65 = ⟨6521332650918126849, 12341244388490841477, 12114099962780444227, 14973785467481547446, 12287139774699560005, 14810121346132393043, 9513159758854096378, 697747594908290533⟩ := (rds_succ KK (sw bA) (r8 IV) 64).trans (rd_eq aq64 aw64 (by kernel_rfl))
theorem aq66 : rds KK (sw bA) (r8 IV) 66 = ⟨17201993675892073880, 6521332650918126849, 12341244388490841477, 12114099962780444227, 4278398812896073441, 12287139774699560005, 14810121346132393043, 9513159758854096378⟩ := (rds_succ KK (sw bA) (r8 IV) 65).trans (rd_eq aq65 aw65 (by kernel_rfl))
theorem aq67 : rds KK (sw bA) (r8 IV) 67 = ⟨5099237007923352925, 17201993675892073880, 6521332650918126849, 12341244388490841477, 3024929831817392998, 4278398812896073441, 12287139774699560005, 14810121346132393043⟩ := (rds_succ KK (sw bA) (r8 IV) 66).trans (rd_eq aq66 aw66 (by kernel_rfl))
theorem aq68 : rds KK (sw bA) (r8 IV) 68 = ⟨6105251409481970702, 5099237007923352925, 17201993675892073880, 6521332650918126849, 2046591832181771215, 3024929831817392998, 4278398812896073441, 12287139774699560005⟩ := (rds_succ KK (sw bA) (r8 IV) 67).trans (rd_eq aq67 aw67 (by kernel_rfl))
theorem aq69 : rds KK (sw bA) (r8 IV) 69 = ⟨1736201247801186120, 6105251409481970702, 5099237007923352925, 17201993675892073880, 782070226320908608, 2046591832181771215, 3024929831817392998, 4278398812896073441⟩ := (rds_succ KK (sw bA) (r8 IV) 68).trans (rd_eq aq68 aw68 (by kernel_rfl))
theorem aq70 : rds KK (sw bA) (r8 IV) 70 = ⟨18116480355077104711, 1736201247801186120, 6105251409481970702, 5099237007923352925, 16388912088435462445, 782070226320908608, 2046591832181771215, 3024929831817392998⟩ := (rds_succ KK (sw bA) (r8 IV) 69).trans (rd_eq aq69 aw69 (by kernel_rfl))
theorem aq71 : rds KK (sw bA) (r8 IV) 71 = ⟨8526094171459613084, 18116480355077104711, 1736201247801186120, 6105251409481970702, 12679370825376170234, 16388912088435462445, 782070226320908608, 2046591832181771215⟩ := (rds_succ KK (sw bA) (r8 IV) 70).trans (rd_eq aq70 aw70 (by kernel_rfl))
theorem aq72 : rds KK (sw bA) (r8 IV) 72 = ⟨17392504170187076981, 8526094171459613084, 18116480355077104711, 1736201247801186120, 10699494962953023727, 12679370825376170234, 16388912088435462445, 782070226320908608⟩ := (rds_succ KK (sw bA) (r8 IV) 71).trans (rd_eq aq71 aw71 (by kernel_rfl))
theorem aq73 : rds KK (sw bA) (r8 IV) 73 = ⟨3856214677359880619, 17392504170187076981, 8526094171459613084, 18116480355077104711, 10122789973502020768, 10699494962953023727, 12679370825376170234, 16388912088435462445⟩ := (rds_succ KK (sw bA) (r8 IV) 72).trans (rd_eq aq72 aw72 (by kernel_rfl))
theorem aq74 : rds KK (sw bA) (r8 IV) 74 = ⟨2343998043378809589, 3856214677359880619, 17392504170187076981, 8526094171459613084, 382020050843420880, 10122789973502020768, 10699494962953023727, 12679370825376170234⟩ := (rds_succ KK (sw bA) (r8 IV) 73).trans (rd_eq aq73 aw73 (by kernel_rfl))
theorem aq75 : rds KK (sw bA) (r8 IV) 75 = ⟨3734765759617965538, 2343998043378809589, 3856214677359880619, 17392504170187076981, 3143937250783257807, 382020050843420880, 10122789973502020768, 10699494962953023727⟩ := (rds_succ KK (sw bA) (r8 IV) 74).trans (rd_eq aq74 aw74 (by kernel_rfl))
theorem aq76 : rds KK (sw bA) (r8 IV) 76 = ⟨14453755910715390230, 3734765759617965538, 2343998043378809589, 3856214677359880619, 11047358090977190878, 3143937250783257807, 382020050843420880, 10122789973502020768⟩ := (rds_succ KK (sw bA) (r8 IV) 75).trans (rd_eq aq75 aw75 (by kernel_rfl))
theorem aq77 : rds KK (sw bA) (r8 IV) 77 = ⟨7300046562812009641, 14453755910715390230, 3734765759617965538, 2343998043378809589, 14896214553809290022, 11047358090977190878, 3143937250783257807, 382020050843420880⟩ := (rds_succ KK (sw bA) (r8 IV) 76).trans (rd_eq aq76 aw76 (by kernel_rfl))
theorem aq78 : rds KK (sw bA) (r8 IV) 78 = ⟨15454109661322839671, 7300046562812009641, 14453755910715390230, 3734765759617965538, 2722824510817118883, 14896214553809290022, 11047358090977190878, 3143937250783257807⟩ := (rds_succ KK (sw bA) (r8 IV) 77).trans (rd_eq aq77 aw77 (by kernel_rfl))
theorem aq79 : rds KK (sw bA) (r8 IV) 79 = ⟨1214217921339169270, 15454109661322839671, 7300046562812009641, 14453755910715390230, 11219825219206152094, 2722824510817118883, 14896214553809290022, 11047358090977190878⟩ := (rds_succ KK (sw bA) (r8 IV) 78).trans (rd_eq aq78 aw78 (by kernel_rfl))
theorem aq80 : rds KK (sw bA) (r8 IV) 80 = ⟨8333153794429071794, 1214217921339169270, 15454109661322839671, 7300046562812009641, 15025211954810142423, 11219825219206152094, 2722824510817118883, 14896214553809290022⟩ := (rds_succ KK (sw bA) (r8 IV) 79).trans (rd_eq aq79 aw79 (by kernel_rfl))
theorem cmp_eq {k s b : Nat → Nat} {i x : Nat} {r : R8} (h : rds k (sw b) (r8 s) 80 = r) (hx : (s i + r.at i) % 18446744073709551616 = x) : cmp k s b i = x := by unfold cmp; rw [h]; exact hx
theorem ac0 : cmp KK IV bA 0 = 15974045371385084602 := cmp_eq aq80 (by kernel_rfl)
theorem ac7 : cmp KK IV bA 7 = 3069987439919277215 := cmp_eq aq80 (by kernel_rfl)
theorem sha_abc : sha abc 3 = dig (cmp KK IV bA) := rfl
theorem dig_at (s : Nat → Nat) (j a b : Nat) (h1 : j / 8 = a) (h2 : 7 - j % 8 = b) : dig s j = s a / 256 ^ b % 256 := by subst h1 h2; rfl
theorem ab0 : sha abc 3 0 = 221 := by rw [sha_abc]; exact (dig_at _ 0 0 7 rfl rfl).trans ((congrArg (fun x => x / 256 ^ 7 % 256) ac0).trans (by kernel_rfl))
theorem ab1 : sha abc 3 1 = 175 := by rw [sha_abc]; exact (dig_at _ 1 0 6 rfl rfl).trans ((congrArg (fun x => x / 256 ^ 6 % 256) ac0).trans (by kernel_rfl))
theorem ab2 : sha abc 3 2 = 53 := by rw [sha_abc]; exact (dig_at _ 2 0 5 rfl rfl).trans ((congrArg (fun x => x / 256 ^ 5 % 256) ac0).trans (by kernel_rfl))
theorem ab7 : sha abc 3 7 = 186 := by rw [sha_abc]; exact (dig_at _ 7 0 0 rfl rfl).trans ((congrArg (fun x => x / 256 ^ 0 % 256) ac0).trans (by kernel_rfl))
theorem ab63 : sha abc 3 63 = 159 := by rw [sha_abc]; exact (dig_at _ 63 7 0 rfl rfl).trans ((congrArg (fun x => x / 256 ^ 0 % 256) ac7).trans (by kernel_rfl))
end Go.Proofs.YthpfdnkcepfbaaaDoor

/- alive. -/
namespace Go.Proofs.YthpfdnkcepfbaaaDoor
open Go.RowKit

end Go.Proofs.YthpfdnkcepfbaaaDoor

/- append of bytes, slices.Clone, Pad, Compress. -/
namespace Go.Proofs.YthpfdnkcepfbaaaDoor
open Go.RowKit

theorem results_cell_tmp {P : Program} {fn : Func} {p q : Tmp} {ty : TypeId} (h : fn.results = #[.cell p ty, .tmp q]) (tmps : Array Value) (w : World) (g : Nat) (t : TypeId) (cs : Array Value) (d : TypeDesc) (v : Value)
    (hp : tmps.getD p undef = .pointer (some ⟨g, 0, none⟩)) (hq : tmps.getD q undef = v) (hg : w.heap[g]? = some (.cells cs t (0, 0)))
    (hu : P.underlying ty = some d) (hd : (match d with | .struct _ | .array _ _ => true | _ => false) = true) (hi : (P.info? ty).map (·.size) = some cs.size) :
    (results fn tmps).run P w = .ok (.tuple #[.agg cs, v]) w := by
  have hp' : tmps[p]?.getD undef = .pointer (some ⟨g, 0, none⟩) := by simpa using hp
  have hq' : tmps[q]?.getD undef = v := by simpa using hq
  simp [results, h, hp', hq', asAddr, run_loadVar_row w g t ty cs (0, 0) d hg hu hd hi]
/-- Eight words 0. -/
def z8 : Array Value := #[.int .u64 0, .int .u64 0, .int .u64 0, .int .u64 0, .int .u64 0, .int .u64 0, .int .u64 0, .int .u64 0]
end Go.Proofs.YthpfdnkcepfbaaaDoor

/- (*Hasher).State. -/
namespace Go.Proofs.YthpfdnkcepfbaaaDoor
open Go.RowKit

/-- A midstate's cells. -/
def mC (s : Nat → Nat) (v : Value) (n : Nat) : Array Value := vC 8 s ++ #[v, .int .u64 n]
theorem mC_size (s : Nat → Nat) (v : Value) (n : Nat) : (mC s v n).size = 10 := by unfold mC; rw [Array.size_append, vC_size]; rfl
theorem mC_one (s : Nat → Nat) (v : Value) (n : Nat) (hv : v.oneCell' = true) : (mC s v n).all (·.oneCell') = true := by
  unfold mC
  rw [Array.all_append, vC_one]
  cases v <;> simp_all [Value.oneCell']
def vL (n : Nat) (f : Nat → Nat) : List Value := (List.range n).map fun i => Value.int .u64 (f i)
theorem vL_len (n : Nat) (f : Nat → Nat) : (vL n f).length = n := by simp [vL]
theorem vL_arr (n : Nat) (f : Nat → Nat) : (vL n f).toArray = vC n f := rfl
theorem front_range {w : World} {h n : Nat} {s t : Nat → Nat} {T : TypeId} (H : Blk w h (hC s t n) T) : w.rangeAt h 0 (vL 8 s) := fun j v hv => by
  have hj : j < 8 := by
    by_cases hj : j < 8
    · exact hj
    · rw [List.getElem?_eq_none (by rw [vL_len]; omega)] at hv; simp at hv
  have e : (vL 8 s)[j]? = some (.int .u64 (s j)) := by simp [vL, hj]
  rw [e] at hv
  rw [Nat.zero_add, H.cell]
  unfold hC
  rw [Array.getElem?_append_left (by rw [vC_size]; exact hj), vC_get _ _ _ hj]
  exact hv
theorem exec_load_mid {P : Program} {op : Oper} {a : Act} (w : World) (ty : TypeId) (x : Operand) (ho : op.op = .load ty x) (b o : Nat) (hx : a.eval x = .pointer (some ⟨b, o, none⟩)) (cs : List Value) (d : TypeDesc) (hc : w.rangeAt b o cs)
    (hu : P.underlying ty = some d) (hd : d.isRow = true) (hi : (P.info? ty).map (·.size) = some cs.length) {arr : Array Value} (ha : cs.toArray = arr) : (execOp a.eval op).run P w = .ok (.value (.agg arr)) w := by
  subst ha
  unfold execOp
  simp only [ho, hx, Instr.loadAt, Instr.sureAddr, Sem.run_bind, Sem.run_pure, Result.andThen_ok, run_loadVar_mid w b o ty cs d hc hu hd hi]
theorem exec_build {P : Program} {o : Oper} {a : Act} (w : World) (t : TypeId) (parts : Array (Nat × Operand)) (ho : o.op = .build t parts) (cells : Array Value) (hb : P.built t (parts.map fun (i, x) => (i, a.eval x)).toList = some cells) :
    (execOp a.eval o).run P w = .ok (.value (.agg cells)) w := by
  have h := run_build (P := P) w t (parts.map fun (i, x) => (i, a.eval x)) cells hb
  unfold execOp
  simp only [ho, Sem.run_bind, h, Result.andThen_ok, Sem.run_pure]
/-- A midstate of zeros. -/
def zM : Array Value := #[.int .u64 0, .int .u64 0, .int .u64 0, .int .u64 0, .int .u64 0, .int .u64 0, .int .u64 0, .int .u64 0, .slice none 0 0, .int .u64 0]
end Go.Proofs.YthpfdnkcepfbaaaDoor
