import Derived.Stop.Asserts
import Derived.Test.YtgnkjijocdmniaaGreatDoorWMatch
namespace Go.Proofs.YtgnkjijocdmniaaGreatDoor
set_option linter.unusedVariables false
set_option linter.unusedSimpArgs false
set_option maxRecDepth 100000
set_option maxHeartbeats 4000000
open Go.Proofs.Tryz
section
open Go.RowKit
section
variable {P:Program} {w:World} {t xT T:TypeId} {v z:Value}
theorem Qhv{fs:Array Field}(hu:P.underlying T=some (.struct fs))(hz:(P.info? T).map (·.zero)=some (some z))(aa:¬ t=T) :
 (Instr.typeAssert (.iface t v) xT T true).run P w=.ok (.tuple #[z,.bool false]) w:=by
 obtain⟨j,hj,ab⟩:=Option.map_eq_some_iff.1 hz;simp[Instr.typeAssert,run_underlying hu,typeInfo,aa,zeroValue,hj,ab]
theorem Qd8{fs:Array Field}(hu:P.underlying T=some (.struct fs)) :
 (Instr.typeAssert (.iface T v) xT T true).run P w=.ok (.tuple #[v,.bool true]) w:=by
 simp[Instr.typeAssert,run_underlying hu]
end
theorem Tryz.noNot(t xT:TypeId)(v:Value)(w:World)(h:¬ t=305):(Instr.typeAssert (.iface t v) xT 305 true).run Tryz.prog w=.ok (.tuple #[.agg #[.string ⟨#[]⟩,.int .i64 0,.nilIface],.bool false]) w:=Qhv underlying305 (by kernel_rfl) h
theorem Tryz.yesNot(xT:TypeId)(v:Value)(w:World):(Instr.typeAssert (.iface 305 v) xT 305 true).run Tryz.prog w=.ok (.tuple #[v,.bool true]) w:=Qd8 underlying305
theorem Tryz.noAllOf(t xT:TypeId)(v:Value)(w:World)(h:¬ t=224):(Instr.typeAssert (.iface t v) xT 224 true).run Tryz.prog w=.ok (.tuple #[.agg #[.string ⟨#[]⟩,.int .i64 0,.slice none 0 0],.bool false]) w:=Qhv underlying224 (by kernel_rfl) h
theorem Tryz.yesAllOf(xT:TypeId)(v:Value)(w:World):(Instr.typeAssert (.iface 224 v) xT 224 true).run Tryz.prog w=.ok (.tuple #[v,.bool true]) w:=Qd8 underlying224
theorem Tryz.noAnyOf(t xT:TypeId)(v:Value)(w:World)(h:¬ t=225):(Instr.typeAssert (.iface t v) xT 225 true).run Tryz.prog w=.ok (.tuple #[.agg #[.string ⟨#[]⟩,.int .i64 0,.slice none 0 0],.bool false]) w:=Qhv underlying225 (by kernel_rfl) h
theorem Tryz.yesAnyOf(xT:TypeId)(v:Value)(w:World):(Instr.typeAssert (.iface 225 v) xT 225 true).run Tryz.prog w=.ok (.tuple #[v,.bool true]) w:=Qd8 underlying225
theorem Tryz.noHeader(t xT:TypeId)(v:Value)(w:World)(h:¬ t=231):(Instr.typeAssert (.iface t v) xT 231 true).run Tryz.prog w=.ok (.tuple #[.agg #[.string ⟨#[]⟩,.int .i64 0,.int .i64 0,.bool false,.slice none 0 0,.slice none 0 0],.bool false]) w:=Qhv underlying231 (by kernel_rfl) h
theorem Tryz.yesHeader(xT:TypeId)(v:Value)(w:World):(Instr.typeAssert (.iface 231 v) xT 231 true).run Tryz.prog w=.ok (.tuple #[v,.bool true]) w:=Qd8 underlying231
theorem Tryz.noEnvelope(t xT:TypeId)(v:Value)(w:World)(h:¬ t=234):(Instr.typeAssert (.iface t v) xT 234 true).run Tryz.prog w=.ok (.tuple #[.agg #[.string ⟨#[]⟩,.int .i64 0,.int .i64 0,.bool false,.slice none 0 0,.slice none 0 0],.bool false]) w:=Qhv underlying234 (by kernel_rfl) h
theorem Tryz.yesEnvelope(xT:TypeId)(v:Value)(w:World):(Instr.typeAssert (.iface 234 v) xT 234 true).run Tryz.prog w=.ok (.tuple #[v,.bool true]) w:=Qd8 underlying234
theorem Tryz.noString(t xT:TypeId)(v:Value)(w:World)(h:¬ t=235):(Instr.typeAssert (.iface t v) xT 235 true).run Tryz.prog w=.ok (.tuple #[.agg #[.string ⟨#[]⟩,.int .i64 0,.int .i64 0,.bool false,.slice none 0 0,.slice none 0 0],.bool false]) w:=Qhv underlying235 (by kernel_rfl) h
theorem Tryz.yesString(xT:TypeId)(v:Value)(w:World):(Instr.typeAssert (.iface 235 v) xT 235 true).run Tryz.prog w=.ok (.tuple #[v,.bool true]) w:=Qd8 underlying235
theorem Tryz.noExists(t xT:TypeId)(v:Value)(w:World)(h:¬ t=309):(Instr.typeAssert (.iface t v) xT 309 true).run Tryz.prog w=.ok (.tuple #[.agg #[.string ⟨#[]⟩,.int .i64 0,.slice none 0 0],.bool false]) w:=Qhv underlying309 (by kernel_rfl) h
theorem Tryz.yesExists(xT:TypeId)(v:Value)(w:World):(Instr.typeAssert (.iface 309 v) xT 309 true).run Tryz.prog w=.ok (.tuple #[v,.bool true]) w:=Qd8 underlying309
theorem Tryz.noSize(t xT:TypeId)(v:Value)(w:World)(h:¬ t=311):(Instr.typeAssert (.iface t v) xT 311 true).run Tryz.prog w=.ok (.tuple #[.agg #[.string ⟨#[]⟩,.int .i64 0,.int .i64 0,.int .i64 0],.bool false]) w:=Qhv underlying311 (by kernel_rfl) h
theorem Tryz.yesSize(xT:TypeId)(v:Value)(w:World):(Instr.typeAssert (.iface 311 v) xT 311 true).run Tryz.prog w=.ok (.tuple #[v,.bool true]) w:=Qd8 underlying311
theorem Tryz.noIf(t xT:TypeId)(v:Value)(w:World)(h:¬ t=261):(Instr.typeAssert (.iface t v) xT 261 true).run Tryz.prog w=.ok (.tuple #[.agg #[.string ⟨#[]⟩,.int .i64 0,.slice none 0 0,.bool false,.slice none 0 0],.bool false]) w:=Qhv underlying261 (by kernel_rfl) h
theorem Tryz.yesIf(xT:TypeId)(v:Value)(w:World):(Instr.typeAssert (.iface 261 v) xT 261 true).run Tryz.prog w=.ok (.tuple #[v,.bool true]) w:=Qd8 underlying261
theorem Tryz.noSet(t xT:TypeId)(v:Value)(w:World)(h:¬ t=264):(Instr.typeAssert (.iface t v) xT 264 true).run Tryz.prog w=.ok (.tuple #[.agg #[.string ⟨#[]⟩,.int .i64 0,.int .i64 0,.string ⟨#[]⟩,.string ⟨#[]⟩],.bool false]) w:=Qhv underlying264 (by kernel_rfl) h
theorem Tryz.yesSet(xT:TypeId)(v:Value)(w:World):(Instr.typeAssert (.iface 264 v) xT 264 true).run Tryz.prog w=.ok (.tuple #[v,.bool true]) w:=Qd8 underlying264
theorem Tryz.noAct(t xT:TypeId)(v:Value)(w:World)(h:¬ t=269):(Instr.typeAssert (.iface t v) xT 269 true).run Tryz.prog w=.ok (.tuple #[.agg #[.string ⟨#[]⟩,.int .i64 0,.int .i64 0,.string ⟨#[]⟩],.bool false]) w:=Qhv underlying269 (by kernel_rfl) h
theorem Tryz.yesAct(xT:TypeId)(v:Value)(w:World):(Instr.typeAssert (.iface 269 v) xT 269 true).run Tryz.prog w=.ok (.tuple #[v,.bool true]) w:=Qd8 underlying269
theorem Tryz.nameTruth(a b c:Value)(w:World):(Go.method 518 302 (.agg #[a,b,c]) "Name").run Tryz.prog w=.ok (326,.agg #[a,b]) w:=by kernel_rfl
theorem Tryz.nameDiscard(a b:Value)(w:World):(Go.method 518 294 (.agg #[a,b]) "Name").run Tryz.prog w=.ok (326,.agg #[a,b]) w:=by kernel_rfl
theorem Tryz.nameStop(a b:Value)(w:World):(Go.method 518 295 (.agg #[a,b]) "Name").run Tryz.prog w=.ok (326,.agg #[a,b]) w:=by kernel_rfl
theorem Tryz.nameAct(a b c d:Value)(w:World):(Go.method 518 269 (.agg #[a,b,c,d]) "Name").run Tryz.prog w=.ok (326,.agg #[a,b]) w:=by kernel_rfl
theorem Tryz.noTruth(t xT:TypeId)(v:Value)(w:World)(h:¬ t=302):(Instr.typeAssert (.iface t v) xT 302 true).run Tryz.prog w=.ok (.tuple #[.agg #[.string ⟨#[]⟩,.int .i64 0,.bool false],.bool false]) w:=Qhv underlying302 (by kernel_rfl) h
theorem Tryz.yesTruth(xT:TypeId)(v:Value)(w:World):(Instr.typeAssert (.iface 302 v) xT 302 true).run Tryz.prog w=.ok (.tuple #[v,.bool true]) w:=Qd8 underlying302
theorem Tryz.noDiscard(t xT:TypeId)(v:Value)(w:World)(h:¬ t=294):(Instr.typeAssert (.iface t v) xT 294 true).run Tryz.prog w=.ok (.tuple #[.agg #[.string ⟨#[]⟩,.int .i64 0],.bool false]) w:=Qhv underlying294 (by kernel_rfl) h
theorem Tryz.yesDiscard(xT:TypeId)(v:Value)(w:World):(Instr.typeAssert (.iface 294 v) xT 294 true).run Tryz.prog w=.ok (.tuple #[v,.bool true]) w:=Qd8 underlying294
theorem Tryz.noStop(t xT:TypeId)(v:Value)(w:World)(h:¬ t=295):(Instr.typeAssert (.iface t v) xT 295 true).run Tryz.prog w=.ok (.tuple #[.agg #[.string ⟨#[]⟩,.int .i64 0],.bool false]) w:=Qhv underlying295 (by kernel_rfl) h
theorem Tryz.yesStop(xT:TypeId)(v:Value)(w:World):(Instr.typeAssert (.iface 295 v) xT 295 true).run Tryz.prog w=.ok (.tuple #[v,.bool true]) w:=Qd8 underlying295
end
section
open Go.RowKit
attribute [local go_sem ↓] Go.wp_at_zero Go.wp_at_succ
def QiM (fn:Nat) (w:World) (v:Value) (t:L8):Prop:=
 ∀ W,Below w.heap.size w W→Calls Tryz.prog fn #[v] W fun e w'=>e=.returned (.string (Qaf t))∧Below W.heap.size W w'
theorem QiM.below{fn:Nat}{w w':World}{v:Value}{t:L8}(h:QiM fn w v t)(hb:Below w.heap.size w w'):QiM fn w' v t:=
 fun W hW=>h W (hb.trans (hW.mono hb.size))
theorem Qgu(hw:L8)(p:Nat)(b:Bool)(w:World) :
 Calls Tryz.prog 198 #[.iface 302 (.agg #[.string (Qaf hw),.int .i64 p,.bool b])] w fun e w'=>e=.returned (.string (Qaf hw))/\Below w.heap.size w w':=by
 have n0:=Tryz.noNot;have n1:=Tryz.noAllOf;have n2:=Tryz.noAnyOf;have n3:=Tryz.noHeader;have n4:=Tryz.noEnvelope;have n5:=Tryz.noString;have n6:=Tryz.noExists;have n7:=Tryz.noSize;have mN:=Tryz.nameTruth;go_enter func198,ntmps198;go_wp2;go_ret;exact⟨rfl,(Below.refl _ _).alloc (Nat.le_refl _) _⟩
theorem Qjj(X:Nat->Prop)(hw:L8)(x:Qcv)(u:Value)(w:World)(hm:mtX X hw x w u)(h1:1<=x.tag)(h3:x.tag<=3)(aa:(Qbd hw x).length<=4294967280) :
 Calls Tryz.prog 198 #[.iface 231 u] w fun e w'=>e=.returned (.string (Qaf (Qbd hw x)))/\Below w.heap.size w w':=by
 obtain⟨fv,kv,rfl,hf,hk⟩:=hm;have HF:=Qab hf;have HK:=Qab hk;obtain⟨gf,cf,rfl,_⟩:=hf;obtain⟨gk,ck,rfl,_⟩:=hk;have n0:=Tryz.noNot;have n1:=Tryz.noAllOf;have n2:=Tryz.noAnyOf;have yy:=Tryz.yesHeader;have ab:∀ o,Below w.heap.size w (w.alloc o):=fun o=>(Below.refl _ _).alloc (Nat.le_refl _) o
 have ad:=Qab ab;clear ab;go_enter func198,ntmps198;go_wp2_with fail;refine(QeZ X hw x _ _ _ (HF.o.keep (fun k _ hk=>Below.heap_alloc _ _ _ hk)) (HK.o.keep (fun k _ hk=>Below.heap_alloc _ _ _ hk)) h1 h3 aa).mono ?_;rintro e w1 ⟨rfl,ac⟩;have ae:=Qab ((ad.o _).trans (ac.mono (by simp)));clear ac;go_wp2;go_ret;exact⟨rfl,ae.o⟩
theorem QhC(X:Nat->Prop)(hw:L8)(x:Qcv)(u:Value)(w:World)(hm:mtX X hw x w u)(h1:1<=x.tag)(h3:x.tag<=3)(aa:(Qbd hw x).length<=4294967280) :
 Calls Tryz.prog 198 #[.iface 234 u] w fun e w'=>e=.returned (.string (Qaf (Qbd hw x)))/\Below w.heap.size w w':=by
 obtain⟨fv,kv,rfl,hf,hk⟩:=hm;have HF:=Qab hf;have HK:=Qab hk;obtain⟨gf,cf,rfl,_⟩:=hf;obtain⟨gk,ck,rfl,_⟩:=hk;have n0:=Tryz.noNot;have n1:=Tryz.noAllOf;have n2:=Tryz.noAnyOf;have n3:=Tryz.noHeader;have yy:=Tryz.yesEnvelope;have ab:∀ o,Below w.heap.size w (w.alloc o):=fun o=>(Below.refl _ _).alloc (Nat.le_refl _) o
 have ad:=Qab ab;clear ab;go_enter func198,ntmps198;go_wp2_with fail;refine(QeZ X hw x _ _ _ (HF.o.keep (fun k _ hk=>Below.heap_alloc _ _ _ hk)) (HK.o.keep (fun k _ hk=>Below.heap_alloc _ _ _ hk)) h1 h3 aa).mono ?_;rintro e w1 ⟨rfl,ac⟩;have ae:=Qab ((ad.o _).trans (ac.mono (by simp)));clear ac;go_wp2;go_ret;exact⟨rfl,ae.o⟩
theorem Qkq(X:Nat->Prop)(hw:L8)(x:Qcv)(u:Value)(w:World)(hm:mtX X hw x w u)(h1:1<=x.tag)(h3:x.tag<=3)(aa:(Qbd hw x).length<=4294967280) :
 Calls Tryz.prog 198 #[.iface 235 u] w fun e w'=>e=.returned (.string (Qaf (Qbd hw x)))/\Below w.heap.size w w':=by
 obtain⟨fv,kv,rfl,hf,hk⟩:=hm;have HF:=Qab hf;have HK:=Qab hk;obtain⟨gf,cf,rfl,_⟩:=hf;obtain⟨gk,ck,rfl,_⟩:=hk;have n0:=Tryz.noNot;have n1:=Tryz.noAllOf;have n2:=Tryz.noAnyOf;have n3:=Tryz.noHeader;have n4:=Tryz.noEnvelope;have yy:=Tryz.yesString;have ab:∀ o,Below w.heap.size w (w.alloc o):=fun o=>(Below.refl _ _).alloc (Nat.le_refl _) o
 have ad:=Qab ab;clear ab;go_enter func198,ntmps198;go_wp2_with fail;refine(QeZ X hw x _ _ _ (HF.o.keep (fun k _ hk=>Below.heap_alloc _ _ _ hk)) (HK.o.keep (fun k _ hk=>Below.heap_alloc _ _ _ hk)) h1 h3 aa).mono ?_;rintro e w1 ⟨rfl,ac⟩;have ae:=Qab ((ad.o _).trans (ac.mono (by simp)));clear ac;go_wp2;go_ret;exact⟨rfl,ae.o⟩
theorem QoL(hw:L8)(p:Nat)(ty:TypeId)(y:Value)(t:L8)(w:World)(hu:QiM 198 w (.iface ty y) t)(ab:(phraseL [hw,t]).length<=4294967280) :
 Calls Tryz.prog 198 #[.iface 305 (.agg #[.string (Qaf hw),.int .i64 p,.iface ty y])] w fun e w'=>e=.returned (.string (Qaf (phraseL [hw,t])))/\Below w.heap.size w w':=by
 have yy:=Tryz.yesNot;have HU:=Qab hu;have HL:=Qab ab;clear hu ab;go_enter func198,ntmps198;go_wp2_with fail;refine Qb8 (P:=fun W=>Code.wp _ _ _ _ W) (w:=w) (B:=w.heap.size) (o:=.cells #[.string (Qaf hw),.int .i64 p,.iface ty y] 305) ((Below.refl _ _).alloc (Nat.le_refl _) _) (Qat _ _) ?_;intro W ac aa;have c0:W.cell? ⟨w.heap.size,0,none⟩=some (.string (Qaf hw)):=Qaa aa 0;have c2:W.cell? ⟨w.heap.size,2,none⟩=some (.iface ty y):=Qaa aa 2;have HWB:=Qab ac;have HWb:=Qab aa;have hWs:=ac.size;have hWl:=QaI aa;clear ac aa
 go_region_held3 (fun w'=>w'.cell? ⟨w.heap.size,0,none⟩=some (.string (Qaf hw))∧w'.cell? ⟨w.heap.size,2,none⟩=some (.iface ty y)) (first | go_keep | exact ⟨Qaa (Qae HW1.o) 0,Qaa (Qae HW1.o) 2⟩) (first
  |(go_at_call 150;refine(QbY [hw,t] _ 2 2 _ (Qba w1 [hw,t] _ _ rfl) rfl (by simp) HL.o).mono ?_;rintro e w3 ⟨rfl,rfl⟩;skip)
  | (go_at_call 198;refine (HU.o W.drew HWB.o.drew).mono ?_;rintro e w1 ⟨rfl,hB1⟩;have HB1:=Qab (HWB.o.drew.trans (hB1.mono hWs));have HW1:=Qab (Qal (w:=W.drew) HWb.o hB1);have d0:w1.cell? ⟨w.heap.size,0,none⟩=some (.string (Qaf hw)):=Qaa HW1.o 0;have d2:w1.cell? ⟨w.heap.size,2,none⟩=some (.iface ty y):=Qaa HW1.o 2;have h1s:=HB1.o.size;clear hB1;skip))
 all_goals go_wp2
 all_goals go_ret
 all_goals exact⟨rfl,Qbb HB1.o (Nat.le_refl _) _⟩
theorem Qjq(X:Nat->Prop)(hw:L8)(p:Nat)(xs:List (L8))(u:Value)(w:World)(hu:slX X xs w u)(aa:(phraseL [hw,Qam xs]).length<=4294967280) :
 Calls Tryz.prog 198 #[.iface 309 (.agg #[.string (Qaf hw),.int .i64 p,u])] w fun e w'=>e=.returned (.string (Qaf (phraseL [hw,Qam xs])))/\Below w.heap.size w w':=by
 obtain⟨gf,cf,rfl,hgf,ad,hnf⟩:=hu;have n0:=Tryz.noNot;have n1:=Tryz.noAllOf;have n2:=Tryz.noAnyOf;have n3:=Tryz.noHeader;have n4:=Tryz.noEnvelope;have n5:=Tryz.noString;have yy:=Tryz.yesExists;have HF:=Qab ad;have HL:=Qab aa;have HLF:Hid ((Qam xs).length<=4294967280):=Nat.le_trans (QbB (ps:=[hw,Qam xs]) (by simp)) aa;clear ad aa;go_enter func198,ntmps198;go_wp2_with fail;refine Qb8 (P:=fun W=>Code.wp _ _ _ _ W) (w:=w) (B:=w.heap.size) (o:=.cells #[.string (Qaf hw),.int .i64 p,.slice (some ⟨gf,0,none⟩) xs.length cf] 309) ((Below.refl _ _).alloc (Nat.le_refl _) _) (Qat _ _) ?_;intro W ac ab;have c0:W.cell? ⟨w.heap.size,0,none⟩=some (.string (Qaf hw)):=Qaa ab 0;have c2:W.cell? ⟨w.heap.size,2,none⟩=some (.slice (some ⟨gf,0,none⟩) xs.length cf):=Qaa ab 2;have HFW:=Qab (HF.o.below ac);have HWB:=Qab ac;have HWb:=Qab ab;have hWs:=ac.size;have hWl:=QaI ab;clear ac ab
 go_region_held3 (fun w'=>w'.cell? ⟨w.heap.size,0,none⟩=some (.string (Qaf hw))∧w'.cell? ⟨w.heap.size,2,none⟩=some (.slice (some ⟨gf,0,none⟩) xs.length cf)) (first | go_keep | exact ⟨Qaa (Qae HW1.o) 0,Qaa (Qae HW1.o) 2⟩) (first
  |(go_at_call 150;refine(QbY [hw,Qam xs] _ 2 2 _ (Qba w1 [hw,Qam xs] _ _ rfl) rfl (by simp) HL.o).mono ?_;rintro e w3 ⟨rfl,rfl⟩;skip)
  | (go_at_call 62;refine (Qcm xs gf xs.length cf _ (HFW.o.drew) rfl hnf HLF.o).mono ?_;rintro e w1 ⟨rfl,hB1⟩;have HB1:=Qab (HWB.o.drew.trans (hB1.mono hWs));have HW1:=Qab (Qal (w:=W.drew) HWb.o hB1);have d0:w1.cell? ⟨w.heap.size,0,none⟩=some (.string (Qaf hw)):=Qaa HW1.o 0;have d2:w1.cell? ⟨w.heap.size,2,none⟩=some (.slice (some ⟨gf,0,none⟩) xs.length cf):=Qaa HW1.o 2;have h1s:=HB1.o.size;clear hB1;skip))
 all_goals go_wp2
 all_goals go_ret
 all_goals exact⟨rfl,Qbb HB1.o (Nat.le_refl _) _⟩
theorem QmQ(hw:L8)(p tag num:Nat)(w:World)(ht:Tab w)(h2:tag<=2)(hn:num<=2147483647)(ab:(phraseL [hw,tagTextL tag [Qdh,Qb9],iL num]).length<=4294967280) :
 Calls Tryz.prog 198 #[.iface 311 (.agg #[.string (Qaf hw),.int .i64 p,.int .i64 tag,.int .i64 num])] w fun e w'=>e=.returned (.string (Qaf (phraseL [hw,tagTextL tag [Qdh,Qb9],iL num])))/\Below w.heap.size w w':=by
 have n0:=Tryz.noNot;have n1:=Tryz.noAllOf;have n2:=Tryz.noAnyOf;have n3:=Tryz.noHeader;have n4:=Tryz.noEnvelope;have n5:=Tryz.noString;have n6:=Tryz.noExists;have yy:=Tryz.yesSize;have HT:=Qab ht;have HL:=Qab ab;clear ht ab;go_enter func198,ntmps198;go_wp2_with fail;refine Qb8 (P:=fun W=>Code.wp _ _ _ _ W) (w:=w) (B:=w.heap.size) (o:=.cells #[.string (Qaf hw),.int .i64 p,.int .i64 tag,.int .i64 num] 311) ((Below.refl _ _).alloc (Nat.le_refl _) _) (Qat _ _) ?_;intro W ac aa;have c0:W.cell? ⟨w.heap.size,0,none⟩=some (.string (Qaf hw)):=Qaa aa 0;have c2:W.cell? ⟨w.heap.size,2,none⟩=some (.int .i64 tag):=Qaa aa 2;have c3:W.cell? ⟨w.heap.size,3,none⟩=some (.int .i64 num):=Qaa aa 3;have HTW:=Qab (HT.o.below ac);have HWB:=Qab ac;have HWb:=Qab aa;have hWs:=ac.size;have hWl:=QaI aa;clear ac aa
 go_region_held3 (fun w'=>w'.cell? ⟨w.heap.size,0,none⟩=some (.string (Qaf hw))∧w'.cell? ⟨w.heap.size,2,none⟩=some (.int .i64 tag)∧w'.cell? ⟨w.heap.size,3,none⟩=some (.int .i64 num)) (first | go_keep | exact ⟨Qaa (Qae HW1.o) 0,Qaa (Qae HW1.o) 2,Qaa (Qae HW1.o) 3⟩ | exact ⟨Qaa (Qae HWb.o) 0,Qaa (Qae HWb.o) 2,Qaa (Qae HWb.o) 3⟩) (first
  |(go_at_call 150;refine(QbY [hw,tagTextL tag [Qdh,Qb9],iL num] _ 3 3 _ (Qba w1 [hw,tagTextL tag [Qdh,Qb9],iL num] _ _ rfl) rfl (by simp) HL.o).mono ?_;rintro e w3 ⟨rfl,rfl⟩;skip)
  |(go_at_call 191;refine(Qis _).mono ?_;rintro e w' ⟨rfl,rfl⟩;skip)
  |(go_at_call 151;refine(QeG tag _ 2 2 [Qdh,Qb9] _ ((QbI (w:=W) (g:=W.heap.size) [Qdh,Qb9] 9 rfl).drew) rfl (by decide) h2).mono ?_;rintro e w' ⟨rfl,rfl⟩;skip)
  | (go_at_call 240;refine (QqP num hn (W.alloc (.cells (QaN [Qdh,Qb9]).toArray 9)).drew (HTW.o.below (((Below.refl _ W).alloc (Nat.le_refl _) _).drew))).mono ?_;rintro e w1 ⟨rfl,hB1⟩;have HB1:=Qab (((Qbb HWB.o (Nat.le_refl _) (.cells (QaN [Qdh,Qb9]).toArray 9)).drew).trans (hB1.mono (by simp;omega)));have HW1:=Qab (Qal (w:=(W.alloc (.cells (QaN [Qdh,Qb9]).toArray 9)).drew) (Qae HWb.o) hB1);have d0:w1.cell? ⟨w.heap.size,0,none⟩=some (.string (Qaf hw)):=Qaa HW1.o 0;have d2:w1.cell? ⟨w.heap.size,2,none⟩=some (.int .i64 tag):=Qaa HW1.o 2;have d3:w1.cell? ⟨w.heap.size,3,none⟩=some (.int .i64 num):=Qaa HW1.o 3;have h1s:=HB1.o.size;clear hB1;skip))
 all_goals go_wp2
 all_goals go_ret
 all_goals exact⟨rfl,Qbb HB1.o (Nat.le_refl _) _⟩
end
end Go.Proofs.YtgnkjijocdmniaaGreatDoor
