import Derived.Test.YthkibedbcbgajaaGreatDoorZGSafe
namespace Go.Proofs.YthkibedbcbgajaaGreatDoor
set_option linter.unusedVariables false
set_option linter.unusedSimpArgs false
set_option maxRecDepth 100000
set_option maxHeartbeats 4000000
open Go.RowKit
theorem Qsk(i:Nat)(hi:i<=1000000):aWr ⟨-1 - (i:Int),-1 - (i:Int),false⟩=(0,⟨-1 - ((i+1:Nat):Int),-1 - ((i+1:Nat):Int),false⟩):=by
 have e:w64 (-1 - (i:Int) - 1) = -1 - ((i+1:Nat):Int):=by
  unfold w64 wrap64;omega
 unfold aWr;dsimp only;rw[if_neg (by rintro(h|h);cases h;omega),if_neg (by omega),e]
theorem QsQ(o:Dop)(A:AD)(i:Nat)(hi:i<=1000000)(h:A.lf=⟨-1 - (i:Int),-1 - (i:Int),false⟩):(aDo o A).1=0/\(aDo o A).2.lf=⟨-1 - ((i+1:Nat):Int),-1 - ((i+1:Nat):Int),false⟩:=by
 have hw:=Qsk i hi;rw[<-h]at hw;unfold aDo;rw[hw];dsimp only;rw[if_pos rfl]
 repeat' split
 all_goals exact⟨rfl,rfl⟩
theorem QgH:∀(l:List Dop) (A:AD) (i:Nat),i+l.length<=1000000->A.lf=⟨-1 - (i:Int),-1 - (i:Int),false⟩->(Qa1 l A).1=0
 | [],A,i,_,_=>rfl
 |o::r,A,i,hi,h=>by
  simp only[List.length_cons]at hi;obtain⟨h1,h2⟩:=QsQ o A i (by omega) h;rw[Qa1,if_pos h1];exact QgH r _ (i+1) (by omega) h2
theorem Qs3{F:Fs}{J:L8}{fs:List Fl}(D N:Fs)(p:List Dop)(aa:Option (List Fl))(h:QhY F J fs D p)(hN:N=p.foldl doF D)(ho:OwnOf F J fs N aa)(hf:fs.length<=100):(Qa1 (Qdo aa) ⟨D,N,p,⟨-1,-1,false⟩⟩).1=0:=by
 refine QgH _ _ 0 ?_ rfl;unfold Qdo Qsb;rcases ho with⟨rfl,_⟩ | ⟨rfl,_⟩ | ⟨rfl,_⟩
 ·simp
 ·simp[Qa8]
 ·simp[Qa8];omega
theorem QeB{F:Fs}{id:L8}{aa:List (Int×L8)}{text:L8}{fs:List Fl}(B bb db bd:Nat)(L:List (L8))(kp pt:Int)(w:World)(hv:QnI F id aa text fs)(hL:Qdp F fs L)(hb:w.heap[bb]?=some (.cells #[.pointer (some ⟨db,0,none⟩)] 55))(h:Qx9 w B db bd L.length F (QeX id text aa) fs)(hB:6<B)(ht:Tab w)(hz:Tz w)(hg:Qfv w)(hn:L.length<=450000)(ae:-9223372036854775808<=pt)(ad:pt<=9223372036854775807) :
 Calls Tryz.prog 12 #[.pointer (some ⟨bb,0,none⟩),.int .i64 (-1),.int .i64 (-1),.int .i64 kp,.int .i64 pt] w fun e w'=>e=.returned (.int .i64 0)/\Fr (PDk B) w w'/\Quf w' B db bd L.length (fun M=>Was F M\/Nxt F fs M):=by
 obtain⟨bn,D,N,p,hA,ab,hN⟩:=h;have af:QhY F (QeX id text aa) fs N []:=by rw[hN];exact QpE ab hv.fj hv.nj
 obtain⟨ac,ho⟩:=QxL af;have hE:=QwK ⟨D,N,p,⟨-1,-1,false⟩⟩ ac ab hN ho hv.fj hv.nj;have h0:=Qs3 D N p ac ab hN ho (by have:=hv.f10;omega);obtain⟨p1,p2,p3⟩:=Qh1 hv hE;obtain⟨q1,q2,q3⟩:=QlX hv ab (by have:=Qhc hv;omega);refine(QkJ B bb db bd bn L.length D N p (-1) (-1) kp pt ac _ w hb hA hB ht hg (Qx7 hv w ht hz N ac ho) hn (by omega) q2 rfl (by omega) p2 p3 ae ad).mono ?_;rintro e w' ⟨he,hf,bn',D',N',p',hbe,hA'⟩
 have hP:=Qoi hL hv.fj hv.nj hE (fun M hM x hx=>by
  rcases hM with hM|hM
  ·exact hL.f x (by rw[<-hM x];exact hx)
  ·exact hL.next x (by rw [← hM x];exact hx)) he hf hbe hA'
 obtain⟨k,hk,hf',hh⟩:=hP;rw[he,h0]at hk
 have hk0:k=0:=by
  injection hk with hk
  injection hk with _ hk
  omega
 rcases hh with⟨_,hh⟩ | ⟨hh,_⟩
 ·exact⟨by rw[he,h0];rfl,hf,hh⟩
 ·omega
end Go.Proofs.YthkibedbcbgajaaGreatDoor
