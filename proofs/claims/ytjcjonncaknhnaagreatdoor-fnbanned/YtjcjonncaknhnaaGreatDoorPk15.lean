import Derived.Test.YtjcjonncaknhnaaGreatDoorPk10
import Derived.Test.YtjcjonncaknhnaaGreatDoorPk06
namespace Go.Proofs.YtjcjonncaknhnaaGreatDoor
open Go.RowKit Go.Proofs.Tryz
set_option linter.unusedSimpArgs false
set_option maxHeartbeats 32000000
set_option maxRecDepth 10000 in
theorem rz:cz.p0∧cz.p1:=by
 refine⟨?tax,?tbx⟩
 all_goals
  intro w0 R ca Qa Ra zs Eb ab aj nb cb nj cj bs qs Fb Gb w Hb Ib Aa HJ Jb Kb Lb wq Nb w1 v v0 v1 wk Ob Pb w2 ac Ba Qb Rb Sb Tb Ub Vb Wb Xb Yb w3 Sa Ca Da Ea Ta Ua;(go_wp2_with fail);refine(mE Aa.o _ Da.o).mono ?_;rintro e w4 ⟨⟨⟨a,b,c,d,f,k⟩,⟨a',b',c',d',f',k'⟩⟩,rfl,hr,hg⟩;have Fa:=Hd (Ca.o.grown hg (by simp;omega));have Ga:=Hd hr;have Ha:=Hd (Ea.o.trans hg);clear Sa Ca Da Ea Ta Ua;clear hg hr;dsimp only[da];(go_wp2_with fail);refine(dK Aa.o _ Ga.o).mono ?_;rintro e w5 ⟨⟨s1,s2⟩,rfl,hr,hg⟩;have Ia:=Hd (Fa.o.grown hg (by simp;omega));have Ja:=Hd hr;have Ka:=Hd (Ha.o.trans hg);clear Fa Ga Ha;clear hg hr;dsimp only[cM];(go_wp2_with fail);refine(bi Aa.o 2 (by decide) (by decide) _ Ja.o).mono ?_;rintro e w6 ⟨y,y0,y1,rfl,hr,hg⟩;have La:=Hd (Ia.o.grown hg (by simp;omega));have Na:=Hd hr;have Oa:=Hd (Ka.o.trans hg);clear Ia Ja Ka;clear hg hr;clear y0 y1;(go_wp2_with fail);refine(bi Aa.o 3 (by decide) (by decide) _ Na.o).mono ?_;rintro e w7 ⟨z,z0,z1,rfl,hr,hg⟩;have Pa:=Hd (La.o.grown hg (by simp;omega));have Va:=Hd hr;have Wa:=Hd (Oa.o.trans hg);clear La Na Oa;clear hg hr;have Zb:IntKind.i64.wrap (1+z)=1+z:=(by rw[uQ];omega);(go_wp2_with(with_reducible refine aA 29 ?_ ?_;rfl));show wpList _ _ _ _ _ _;generalize wrap64 (2*2 ^ min (IntKind.u64.wrap y).toNat 64)=pv;(go_wp2_with(with_reducible refine aF ?_ ?_;rfl));with_reducible refine fq 37 (w.heap.size+1) 0 (kA pv (1+z) a b c d f k a' b' c' d' f' k' s1 s2) ?q6 ?q5 ?_
  case q6=>exact Pa.o.there _ 27 (by simp)
  case q5=>exact⟨rfl,by kernel_rfl,by kernel_rfl,_,_,rfl,by kernel_rfl,by kernel_rfl⟩
  have Xa:=cm w7 (w.heap.size+1) 0 (kA pv (1+z) a b c d f k a' b' c' d' f' k' s1 s2);have Ya:au (w7.setCells (w.heap.size+1) 0 (kA pv (1+z) a b c d f k a' b' c' d' f' k' s1 s2)) (w.heap.size+1) (kA pv (1+z) a b c d f k a' b' c' d' f' k' s1 s2):=Pa.o.setCells (kA pv (1+z) a b c d f k a' b' c' d' f' k' s1 s2) 0 (by simp);have Za:Rd w0 R ca Qa Ra (w7.setCells (w.heap.size+1) 0 (kA pv (1+z) a b c d f k a' b' c' d' f' k' s1 s2)):=Va.o.cells (by omega) (by omega) _;have Ab:=aK Wa.o Xa (by omega);have Ba:aw (w7.setCells (w.heap.size+1) 0 (kA pv (1+z) a b c d f k a' b' c' d' f' k' s1 s2)) none 0 0 []:=aP _;have Bb:aw (w7.setCells (w.heap.size+1) 0 (kA pv (1+z) a b c d f k a' b' c' d' f' k' s1 s2)) none 0 0 []:=aP _;have Cb:aw (w7.setCells (w.heap.size+1) 0 (kA pv (1+z) a b c d f k a' b' c' d' f' k' s1 s2)) none 0 0 []:=aP _;have Db:aw (w7.setCells (w.heap.size+1) 0 (kA pv (1+z) a b c d f k a' b' c' d' f' k' s1 s2)) none 0 0 []:=aP _
  generalize(w7.setCells (w.heap.size+1) 0 (kA pv (1+z) a b c d f k a' b' c' d' f' k' s1 s2))=wf at *;(go_wp2_with fail);exact m7 (aS rfl rfl (uN wf (w.heap.size+1) 0 37 _ _ Ya.row underlying37 rfl (by kernel_rfl))) rfl ⟨_,_,_,_,_,_,_,_,_,_,_,_,_,_,_,_,_,_,_,_,_,_,_,_,_,_,_,_,_,_,_,_,_,_,_,_,_,_,_,rfl,⟨Ba,Bb,Cb,Db⟩,⟨by omega,by omega,by omega,by omega⟩,⟨by simp,by simp,by simp,by simp⟩,Za,Ab⟩
theorem t8:cz.p0:=rz.1
theorem ub:cz.p1:=rz.2
set_option maxRecDepth 10000 in
theorem ud:cz.p2:=by
 intro w0 R ca Fa Ga zs Va ab aj nb cb nj cj bs qs Wa Xa w Ya Za Ha HJ Ab Bb Cb wq Db w1 v v0 v1 wk Eb Fb w2 ac Aa Gb Hb Ib Jb Kb Lb Nb Ob Pb w3 Ia Ba Ca Da Ja Ka;(go_wp2_with fail);refine(bi Ha.o 6 (by decide) (by decide) _ Ca.o).mono ?_;rintro e w4 ⟨z,z0,z1,rfl,hr,hg⟩;have Ea:=Hd (Ba.o.grown hg (by simp;omega));have La:=Hd hr;have Na:=Hd (Da.o.trans hg);clear Ia Ba Ca Da Ja Ka;clear hg hr;have Qb:IntKind.i64.wrap (1+z)=1+z:=(by rw[uQ];omega);(go_wp2_with(with_reducible refine aF ?_ ?_;rfl));with_reducible refine fq 37 (w.heap.size+1) 0 (ky (1+z)) ?q6 ?q5 ?_
 case q6=>exact Ea.o.there _ 27 (by simp)
 case q5=>exact⟨rfl,by kernel_rfl,by kernel_rfl,_,_,rfl,by kernel_rfl,by kernel_rfl⟩
 have Oa:=cm w4 (w.heap.size+1) 0 (ky (1+z));have Pa:au (w4.setCells (w.heap.size+1) 0 (ky (1+z))) (w.heap.size+1) (ky (1+z)):=Ea.o.setCells (ky (1+z)) 0 (by simp);have Qa:Rd w0 R ca Fa Ga (w4.setCells (w.heap.size+1) 0 (ky (1+z))):=La.o.cells (by omega) (by omega) _;have Ra:=aK Na.o Oa (by omega);have Aa:aw (w4.setCells (w.heap.size+1) 0 (ky (1+z))) none 0 0 []:=aP _;have Sa:aw (w4.setCells (w.heap.size+1) 0 (ky (1+z))) none 0 0 []:=aP _;have Ta:aw (w4.setCells (w.heap.size+1) 0 (ky (1+z))) none 0 0 []:=aP _;have Ua:aw (w4.setCells (w.heap.size+1) 0 (ky (1+z))) none 0 0 []:=aP _
 generalize(w4.setCells (w.heap.size+1) 0 (ky (1+z)))=wf at *;(go_wp2_with fail);exact m7 (aS rfl rfl (uN wf (w.heap.size+1) 0 37 _ _ Pa.row underlying37 rfl (by kernel_rfl))) rfl ⟨_,_,_,_,_,_,_,_,_,_,_,_,_,_,_,_,_,_,_,_,_,_,_,_,_,_,_,_,_,_,_,_,_,_,_,_,_,_,_,rfl,⟨Aa,Sa,Ta,Ua⟩,⟨by omega,by omega,by omega,by omega⟩,⟨by simp,by simp,by simp,by simp⟩,Qa,Ra⟩
set_option maxRecDepth 10000 in
theorem ue:cz.p3:=by
 intro w0 R ca Ea Fa zs Rb ab aj nb cb nj cj bs qs Sb Tb w Ub Vb Pa HJ Wb Xb Yb wq Zb w1 v v0 v1 wk Ac Bc w2 ac Da Cc Dc Ec Fc Gc Hc Ic Jc Kc w3 Lb Cb Db Eb Nb Fb;(go_wp2_with fail);refine(dp Pa.o 3 (by decide) (by decide) _ Db.o).mono ?_;rintro e w4 ⟨o,rfl,hr,hg⟩;have Qa:=Hd (Cb.o.grown hg (by simp;omega));have Ra:=Hd hr;have Sa:=Hd (Eb.o.trans hg);have Ta:=Hd (Fb.o.grown hg (by simp;omega));clear Lb Cb Db Eb Nb Fb;clear hg hr
 cases o with
 | true=>
  (go_wp2_with fail);refine(eO Pa.o 1 3 (by decide) (by decide) (by decide) _ Ra.o).mono ?_;rintro e w5 ⟨y,y0,y1,rfl,hr,hg⟩;have Ga:=Hd (Qa.o.grown hg (by simp;omega));have Ua:=Hd hr;have Va:=Hd (Sa.o.trans hg);clear Qa Ra Sa Ta;clear hg hr;clear y0 y1;(go_wp2_with(with_reducible refine aF ?_ ?_;rfl));with_reducible refine fq 37 (w.heap.size+1) 0 (kz y) ?q6 ?q5 ?_
  case q6=>exact Ga.o.there _ 27 (by simp)
  case q5=>exact⟨rfl,by kernel_rfl,by kernel_rfl,_,_,rfl,by kernel_rfl,by kernel_rfl⟩
  have Ha:=cm w5 (w.heap.size+1) 0 (kz y);have Ia:au (w5.setCells (w.heap.size+1) 0 (kz y)) (w.heap.size+1) (kz y):=Ga.o.setCells (kz y) 0 (by simp);have Ja:Rd w0 R ca Ea Fa (w5.setCells (w.heap.size+1) 0 (kz y)):=Ua.o.cells (by omega) (by omega) _;have Ka:=aK Va.o Ha (by omega);have Da:aw (w5.setCells (w.heap.size+1) 0 (kz y)) none 0 0 []:=aP _;have La:aw (w5.setCells (w.heap.size+1) 0 (kz y)) none 0 0 []:=aP _;have Na:aw (w5.setCells (w.heap.size+1) 0 (kz y)) none 0 0 []:=aP _;have Oa:aw (w5.setCells (w.heap.size+1) 0 (kz y)) none 0 0 []:=aP _
  generalize(w5.setCells (w.heap.size+1) 0 (kz y))=wf at *;(go_wp2_with fail);exact m7 (aS rfl rfl (uN wf (w.heap.size+1) 0 37 _ _ Ia.row underlying37 rfl (by kernel_rfl))) rfl ⟨_,_,_,_,_,_,_,_,_,_,_,_,_,_,_,_,_,_,_,_,_,_,_,_,_,_,_,_,_,_,_,_,_,_,_,_,_,_,_,rfl,⟨Da,La,Na,Oa⟩,⟨by omega,by omega,by omega,by omega⟩,⟨by simp,by simp,by simp,by simp⟩,Ja,Ka⟩
 | false=>
  (go_wp2_with(with_reducible refine aF ?_ ?_;rfl));with_reducible refine mO 2 ac 0 (it 2) ?q6 ?q5 ?_
  case q6=>exact Ta.o.there 0 1 (by simp)
  case q5=>exact⟨rfl,rfl,rfl,by kernel_rfl,_,_,rfl,by kernel_rfl,by kernel_rfl⟩
  have Ca:=cm w4 ac 0 [it 2];have Ga:=Hd (Qa.o.grown Ca (by simp;omega));have Ua:H9 (Rd w0 R ca Ea Fa (w4.setCells ac 0 [it 2])):=Ra.o.cells (by omega) (by omega) _;have Va:=Hd (aK Sa.o Ca (by omega));have Gb:H9 (au (w4.setCells ac 0 [it 2]) ac (cW 2 wk)):=Ta.o.setCells [it 2] 0 (by simp);clear Ca Qa Ra Sa Ta;generalize(w4.setCells ac 0 [it 2])=Lc at *;(go_wp2_with fail);refine(dp Pa.o 40 (by decide) (by decide) _ Ua.o).mono ?_;rintro e Aa ⟨o,rfl,hr,hg⟩;have Wa:=Hd (Ga.o.grown hg (by simp;omega));have Ya:=Hd hr;have Za:=Hd (Va.o.trans hg);have Ab:=Hd (Gb.o.grown hg (by simp;omega));clear Ga Ua Va Gb;clear hg hr
  cases o with
  | true=>
   (go_wp2_with fail);refine(eO Pa.o 1 5 (by decide) (by decide) (by decide) _ Ya.o).mono ?_;rintro e Xa ⟨y,y0,y1,rfl,hr,hg⟩;have Hb:=Hd (Wa.o.grown hg (by simp;omega));have Ib:=Hd hr;have Jb:=Hd (Za.o.trans hg);have Bb:=Hd (Ab.o.grown hg (by simp;omega));clear Wa Ya Za Ab;clear hg hr;clear y0 y1;(go_wp2_with(with_reducible refine aF ?_ ?_;rfl));with_reducible refine mO 2 ac 0 (it y) ?q6 ?q5 ?_
   case q6=>exact Bb.o.there 0 1 (by simp)
   case q5=>exact⟨rfl,rfl,rfl,by kernel_rfl,_,_,rfl,by kernel_rfl,by kernel_rfl⟩
   have Ca:=cm Xa ac 0 [it y];have Kb:=Hd (Hb.o.grown Ca (by simp;omega));have Ob:H9 (Rd w0 R ca Ea Fa (Xa.setCells ac 0 [it y])):=Ib.o.cells (by omega) (by omega) _;have Pb:=Hd (aK Jb.o Ca (by omega));have Qb:H9 (au (Xa.setCells ac 0 [it y]) ac (cW y wk)):=Bb.o.setCells [it y] 0 (by simp);clear Ca Hb Ib Jb Bb;generalize(Xa.setCells ac 0 [it y])=Ba at *;have hR:=Qb.o.row;(go_wp2_with(with_reducible refine aA 123 ?_ ?_;rfl));with_reducible refine fE 37 ac 0 (cW y wk) hR underlying37 ?q5 ?_
   case q5=>exact⟨rfl,rfl,by kernel_rfl,_,rfl,by kernel_rfl⟩
   clear hR;(go_wp2_with(with_reducible refine aF ?_ ?_;rfl));with_reducible refine fq 37 (w.heap.size+1) 0 (cW y wk) ?q6 ?q5 ?_
   case q6=>exact Kb.o.there _ 27 (by simp)
   case q5=>exact⟨rfl,by kernel_rfl,by kernel_rfl,_,_,rfl,by kernel_rfl,by kernel_rfl⟩
   have Ha:=cm Ba (w.heap.size+1) 0 (cW y wk);have Ia:au (Ba.setCells (w.heap.size+1) 0 (cW y wk)) (w.heap.size+1) (cW y wk):=Kb.o.setCells (cW y wk) 0 (by simp);have Ja:Rd w0 R ca Ea Fa (Ba.setCells (w.heap.size+1) 0 (cW y wk)):=Ob.o.cells (by omega) (by omega) _;have Ka:=aK Pb.o Ha (by omega);have Da:aw (Ba.setCells (w.heap.size+1) 0 (cW y wk)) none 0 0 []:=aP _;have La:aw (Ba.setCells (w.heap.size+1) 0 (cW y wk)) none 0 0 []:=aP _;have Na:aw (Ba.setCells (w.heap.size+1) 0 (cW y wk)) none 0 0 []:=aP _;have Oa:aw (Ba.setCells (w.heap.size+1) 0 (cW y wk)) none 0 0 []:=aP _
   generalize(Ba.setCells (w.heap.size+1) 0 (cW y wk))=wf at *;(go_wp2_with fail);exact m7 (aS rfl rfl (uN wf (w.heap.size+1) 0 37 _ _ Ia.row underlying37 rfl (by kernel_rfl))) rfl ⟨_,_,_,_,_,_,_,_,_,_,_,_,_,_,_,_,_,_,_,_,_,_,_,_,_,_,_,_,_,_,_,_,_,_,_,_,_,_,_,rfl,⟨Da,La,Na,Oa⟩,⟨by omega,by omega,by omega,by omega⟩,⟨by simp,by simp,by simp,by simp⟩,Ja,Ka⟩
  | false=>
   have hR:=Ab.o.row;(go_wp2_with(with_reducible refine aA 123 ?_ ?_;rfl));with_reducible refine fE 37 ac 0 (cW 2 wk) hR underlying37 ?q5 ?_
   case q5=>exact⟨rfl,rfl,by kernel_rfl,_,rfl,by kernel_rfl⟩
   clear hR;(go_wp2_with(with_reducible refine aF ?_ ?_;rfl));with_reducible refine fq 37 (w.heap.size+1) 0 (cW 2 wk) ?q6 ?q5 ?_
   case q6=>exact Wa.o.there _ 27 (by simp)
   case q5=>exact⟨rfl,by kernel_rfl,by kernel_rfl,_,_,rfl,by kernel_rfl,by kernel_rfl⟩
   have Ha:=cm Aa (w.heap.size+1) 0 (cW 2 wk);have Ia:au (Aa.setCells (w.heap.size+1) 0 (cW 2 wk)) (w.heap.size+1) (cW 2 wk):=Wa.o.setCells (cW 2 wk) 0 (by simp);have Ja:Rd w0 R ca Ea Fa (Aa.setCells (w.heap.size+1) 0 (cW 2 wk)):=Ya.o.cells (by omega) (by omega) _;have Ka:=aK Za.o Ha (by omega);have Da:aw (Aa.setCells (w.heap.size+1) 0 (cW 2 wk)) none 0 0 []:=aP _;have La:aw (Aa.setCells (w.heap.size+1) 0 (cW 2 wk)) none 0 0 []:=aP _;have Na:aw (Aa.setCells (w.heap.size+1) 0 (cW 2 wk)) none 0 0 []:=aP _;have Oa:aw (Aa.setCells (w.heap.size+1) 0 (cW 2 wk)) none 0 0 []:=aP _
   generalize(Aa.setCells (w.heap.size+1) 0 (cW 2 wk))=wf at *;(go_wp2_with fail);exact m7 (aS rfl rfl (uN wf (w.heap.size+1) 0 37 _ _ Ia.row underlying37 rfl (by kernel_rfl))) rfl ⟨_,_,_,_,_,_,_,_,_,_,_,_,_,_,_,_,_,_,_,_,_,_,_,_,_,_,_,_,_,_,_,_,_,_,_,_,_,_,_,rfl,⟨Da,La,Na,Oa⟩,⟨by omega,by omega,by omega,by omega⟩,⟨by simp,by simp,by simp,by simp⟩,Ja,Ka⟩
set_option maxRecDepth 10000 in
theorem rA:cz.p7∧cz.p8:=by
 refine⟨?tax,?tbx⟩
 all_goals
  intro w0 R ca Da Ea zs Nb ab aj nb cb nj cj bs qs Ob Pb w Qb Rb Va HJ Sb Tb Ub wq Vb w1 v v0 v1 wk Wb Xb w2 ac Fa Yb Zb Ac Bc Cc Dc Ec Fc Gc w3 Hb Wa Xa Ya Ib Ia;(go_wp2_with(with_reducible refine aF ?_ ?_;rfl));with_reducible refine mO 2 ac 0 (it 2) ?q6 ?q5 ?_
  case q6=>exact Ia.o.there 0 1 (by simp)
  case q5=>exact⟨rfl,rfl,rfl,by kernel_rfl,_,_,rfl,by kernel_rfl,by kernel_rfl⟩
  have Ca:=cm w3 ac 0 [it 2];have Za:=Hd (Wa.o.grown Ca (by simp;omega));have Ab:H9 (Rd w0 R ca Da Ea (w3.setCells ac 0 [it 2])):=Xa.o.cells (by omega) (by omega) _;have Bb:=Hd (aK Ya.o Ca (by omega));have Cb:H9 (au (w3.setCells ac 0 [it 2]) ac (cW 2 wk)):=Ia.o.setCells [it 2] 0 (by simp);clear Ca Hb Wa Xa Ya Ib Ia;generalize(w3.setCells ac 0 [it 2])=Hc at *;(go_wp2_with fail);refine(dp Va.o 40 (by decide) (by decide) _ Ab.o).mono ?_;rintro e Aa ⟨o,rfl,hr,hg⟩;have Ga:=Hd (Za.o.grown hg (by simp;omega));have Ja:=Hd hr;have Ka:=Hd (Bb.o.trans hg);have La:=Hd (Cb.o.grown hg (by simp;omega));clear Za Ab Bb Cb;clear hg hr
  cases o with
  | true=>
   (go_wp2_with fail);refine(eO Va.o 1 5 (by decide) (by decide) (by decide) _ Ja.o).mono ?_;rintro e Ha ⟨y,y0,y1,rfl,hr,hg⟩;have Db:=Hd (Ga.o.grown hg (by simp;omega));have Eb:=Hd hr;have Fb:=Hd (Ka.o.trans hg);have Na:=Hd (La.o.grown hg (by simp;omega));clear Ga Ja Ka La;clear hg hr;clear y0 y1;(go_wp2_with(with_reducible refine aF ?_ ?_;rfl));with_reducible refine mO 2 ac 0 (it y) ?q6 ?q5 ?_
   case q6=>exact Na.o.there 0 1 (by simp)
   case q5=>exact⟨rfl,rfl,rfl,by kernel_rfl,_,_,rfl,by kernel_rfl,by kernel_rfl⟩
   have Ca:=cm Ha ac 0 [it y];have Gb:=Hd (Db.o.grown Ca (by simp;omega));have Jb:H9 (Rd w0 R ca Da Ea (Ha.setCells ac 0 [it y])):=Eb.o.cells (by omega) (by omega) _;have Kb:=Hd (aK Fb.o Ca (by omega));have Lb:H9 (au (Ha.setCells ac 0 [it y]) ac (cW y wk)):=Na.o.setCells [it y] 0 (by simp);clear Ca Db Eb Fb Na;generalize(Ha.setCells ac 0 [it y])=Ba at *;have hR:=Lb.o.row;(go_wp2_with(with_reducible refine aA 123 ?_ ?_;rfl));with_reducible refine fE 37 ac 0 (cW y wk) hR underlying37 ?q5 ?_
   case q5=>exact⟨rfl,rfl,by kernel_rfl,_,rfl,by kernel_rfl⟩
   clear hR;(go_wp2_with(with_reducible refine aF ?_ ?_;rfl));with_reducible refine fq 37 (w.heap.size+1) 0 (cW y wk) ?q6 ?q5 ?_
   case q6=>exact Gb.o.there _ 27 (by simp)
   case q5=>exact⟨rfl,by kernel_rfl,by kernel_rfl,_,_,rfl,by kernel_rfl,by kernel_rfl⟩
   have Oa:=cm Ba (w.heap.size+1) 0 (cW y wk);have Pa:au (Ba.setCells (w.heap.size+1) 0 (cW y wk)) (w.heap.size+1) (cW y wk):=Gb.o.setCells (cW y wk) 0 (by simp);have Qa:Rd w0 R ca Da Ea (Ba.setCells (w.heap.size+1) 0 (cW y wk)):=Jb.o.cells (by omega) (by omega) _;have Ra:=aK Kb.o Oa (by omega);have Fa:aw (Ba.setCells (w.heap.size+1) 0 (cW y wk)) none 0 0 []:=aP _;have Sa:aw (Ba.setCells (w.heap.size+1) 0 (cW y wk)) none 0 0 []:=aP _;have Ta:aw (Ba.setCells (w.heap.size+1) 0 (cW y wk)) none 0 0 []:=aP _;have Ua:aw (Ba.setCells (w.heap.size+1) 0 (cW y wk)) none 0 0 []:=aP _
   generalize(Ba.setCells (w.heap.size+1) 0 (cW y wk))=wf at *;(go_wp2_with fail);exact m7 (aS rfl rfl (uN wf (w.heap.size+1) 0 37 _ _ Pa.row underlying37 rfl (by kernel_rfl))) rfl ⟨_,_,_,_,_,_,_,_,_,_,_,_,_,_,_,_,_,_,_,_,_,_,_,_,_,_,_,_,_,_,_,_,_,_,_,_,_,_,_,rfl,⟨Fa,Sa,Ta,Ua⟩,⟨by omega,by omega,by omega,by omega⟩,⟨by simp,by simp,by simp,by simp⟩,Qa,Ra⟩
  | false=>
   have hR:=La.o.row;(go_wp2_with(with_reducible refine aA 123 ?_ ?_;rfl));with_reducible refine fE 37 ac 0 (cW 2 wk) hR underlying37 ?q5 ?_
   case q5=>exact⟨rfl,rfl,by kernel_rfl,_,rfl,by kernel_rfl⟩
   clear hR;(go_wp2_with(with_reducible refine aF ?_ ?_;rfl));with_reducible refine fq 37 (w.heap.size+1) 0 (cW 2 wk) ?q6 ?q5 ?_
   case q6=>exact Ga.o.there _ 27 (by simp)
   case q5=>exact⟨rfl,by kernel_rfl,by kernel_rfl,_,_,rfl,by kernel_rfl,by kernel_rfl⟩
   have Oa:=cm Aa (w.heap.size+1) 0 (cW 2 wk);have Pa:au (Aa.setCells (w.heap.size+1) 0 (cW 2 wk)) (w.heap.size+1) (cW 2 wk):=Ga.o.setCells (cW 2 wk) 0 (by simp);have Qa:Rd w0 R ca Da Ea (Aa.setCells (w.heap.size+1) 0 (cW 2 wk)):=Ja.o.cells (by omega) (by omega) _;have Ra:=aK Ka.o Oa (by omega);have Fa:aw (Aa.setCells (w.heap.size+1) 0 (cW 2 wk)) none 0 0 []:=aP _;have Sa:aw (Aa.setCells (w.heap.size+1) 0 (cW 2 wk)) none 0 0 []:=aP _;have Ta:aw (Aa.setCells (w.heap.size+1) 0 (cW 2 wk)) none 0 0 []:=aP _;have Ua:aw (Aa.setCells (w.heap.size+1) 0 (cW 2 wk)) none 0 0 []:=aP _
   generalize(Aa.setCells (w.heap.size+1) 0 (cW 2 wk))=wf at *;(go_wp2_with fail);exact m7 (aS rfl rfl (uN wf (w.heap.size+1) 0 37 _ _ Pa.row underlying37 rfl (by kernel_rfl))) rfl ⟨_,_,_,_,_,_,_,_,_,_,_,_,_,_,_,_,_,_,_,_,_,_,_,_,_,_,_,_,_,_,_,_,_,_,_,_,_,_,_,rfl,⟨Fa,Sa,Ta,Ua⟩,⟨by omega,by omega,by omega,by omega⟩,⟨by simp,by simp,by simp,by simp⟩,Qa,Ra⟩
theorem uf:cz.p7:=rA.1
theorem ug:cz.p8:=rA.2
set_option maxRecDepth 10000 in
theorem fZ:cz.p4∧cz.p5∧cz.p6:=by
 refine⟨?tax,?tbx,?tcx⟩
 all_goals
  intro w0 R ca Ja Ka zs Te ab aj nb cb nj cj bs qs Ue Ve w Gi Hi Ya HJ Ii Ji Ki wq Li w1 v v0 v1 wk Ni Oi w2 ac La Pi Qi Td Ri Si Ti Ui Vi Wi w3 We Nb Ob Pb Rc Ua;go_wp2_with fail
  go_loopw [6] (fun i wr=>∃n:Nat,n≤nj∧i=it n∧au wr w.heap.size (aI Ue Ve ab nb cb aj nj cj)∧au wr (w.heap.size+1) (bM 0)∧Rd w0 R ca Ja Ka wr∧w.grownBy wr (some R)∧aV wr Te ab nb cb bs aj nj cj qs∧au wr ac (bM wk)) (fun i _=>nj-(intOf i).toNat)
  case atStart=>exact⟨0,by omega,rfl,We.o,Nb.o,Ob.o,Pb.o,Rc.o,Ua.o⟩
  case round=>
   obtain⟨n,hn,rfl,hM,hZ,Qb,Rb,hO,hC⟩:=hrel;by_cases Gd:n<nj
   case neg=>
    have Kh:¬ (n:Int)<(nj:Int):=(by omega);have Va:=Hd hM;have Za:=Hd hZ;have Ab:=Hd Qb;have Bb:=Hd Rb;have Na:=Hd hC;have Xe:=Va.c 3;(go_wp2_with(with_reducible refine aF ?_ ?_;rfl));with_reducible refine mO 2 ac 0 (it 2) ?q6 ?q5 ?_
    case q6=>exact Na.o.there 0 1 (by simp)
    case q5=>exact⟨rfl,rfl,rfl,by kernel_rfl,_,_,rfl,by kernel_rfl,by kernel_rfl⟩
    have Ba:=cm wr ac 0 [it 2];have Cb:=Hd (Za.o.grown Ba (by simp;omega));have Db:H9 (Rd w0 R ca Ja Ka (wr.setCells ac 0 [it 2])):=Ab.o.cells (by omega) (by omega) _;have Eb:=Hd (aK Bb.o Ba (by omega));have Wa:H9 (au (wr.setCells ac 0 [it 2]) ac (cW 2 wk)):=Na.o.setCells [it 2] 0 (by simp);generalize(wr.setCells ac 0 [it 2])=Xi at *;(go_wp2_with fail);refine(dp Ya.o 40 (by decide) (by decide) _ Db.o).mono ?_;rintro e Fb ⟨o,rfl,hr,hg⟩;have Xb:=Hd (Cb.o.grown hg (by simp;omega));have Hc:=Hd hr;have Ic:=Hd (Eb.o.trans hg);have Yb:=Hd (Wa.o.grown hg (by simp;omega))
    cases o with
    | true=>
     (go_wp2_with fail);refine(eO Ya.o 1 5 (by decide) (by decide) (by decide) _ Hc.o).mono ?_;rintro e Id ⟨y,y0,y1,rfl,hr,hg⟩;have Nb:=Hd (Xb.o.grown hg (by simp;omega));have Ob:=Hd hr;have Pb:=Hd (Ic.o.trans hg);have Ua:=Hd (Yb.o.grown hg (by simp;omega));(go_wp2_with(with_reducible refine aF ?_ ?_;rfl));with_reducible refine mO 2 ac 0 (it y) ?q6 ?q5 ?_
     case q6=>exact Ua.o.there 0 1 (by simp)
     case q5=>exact⟨rfl,rfl,rfl,by kernel_rfl,_,_,rfl,by kernel_rfl,by kernel_rfl⟩
     have Ba:=cm Id ac 0 [it y];have Sc:=Hd (Nb.o.grown Ba (by simp;omega));have Jd:H9 (Rd w0 R ca Ja Ka (Id.setCells ac 0 [it y])):=Ob.o.cells (by omega) (by omega) _;have Kd:=Hd (aK Pb.o Ba (by omega));have Tc:H9 (au (Id.setCells ac 0 [it y]) ac (cW y wk)):=Ua.o.setCells [it y] 0 (by simp);generalize(Id.setCells ac 0 [it y])=Gb at *;have hR:=Tc.o.row;(go_wp2_with(with_reducible refine aA 123 ?_ ?_;rfl));with_reducible refine fE 37 ac 0 (cW y wk) hR underlying37 ?q5 ?_
     case q5=>exact⟨rfl,rfl,by kernel_rfl,_,rfl,by kernel_rfl⟩
     (go_wp2_with(with_reducible refine aF ?_ ?_;rfl));with_reducible refine fq 37 (w.heap.size+1) 0 (cW y wk) ?q6 ?q5 ?_
     case q6=>exact Sc.o.there _ 27 (by simp)
     case q5=>exact⟨rfl,by kernel_rfl,by kernel_rfl,_,_,rfl,by kernel_rfl,by kernel_rfl⟩
     have Ga:=cm Gb (w.heap.size+1) 0 (cW y wk);have Oa:au (Gb.setCells (w.heap.size+1) 0 (cW y wk)) (w.heap.size+1) (cW y wk):=Sc.o.setCells (cW y wk) 0 (by simp);have Pa:Rd w0 R ca Ja Ka (Gb.setCells (w.heap.size+1) 0 (cW y wk)):=Jd.o.cells (by omega) (by omega) _;have Qa:=aK Kd.o Ga (by omega);have La:aw (Gb.setCells (w.heap.size+1) 0 (cW y wk)) none 0 0 []:=aP _;have Ra:aw (Gb.setCells (w.heap.size+1) 0 (cW y wk)) none 0 0 []:=aP _;have Sa:aw (Gb.setCells (w.heap.size+1) 0 (cW y wk)) none 0 0 []:=aP _;have Ta:aw (Gb.setCells (w.heap.size+1) 0 (cW y wk)) none 0 0 []:=aP _
     generalize(Gb.setCells (w.heap.size+1) 0 (cW y wk))=wf at *;(go_wp2_with fail);exact m7 (aS rfl rfl (uN wf (w.heap.size+1) 0 37 _ _ Oa.row underlying37 rfl (by kernel_rfl))) rfl ⟨_,_,_,_,_,_,_,_,_,_,_,_,_,_,_,_,_,_,_,_,_,_,_,_,_,_,_,_,_,_,_,_,_,_,_,_,_,_,_,rfl,⟨La,Ra,Sa,Ta⟩,⟨by omega,by omega,by omega,by omega⟩,⟨by simp,by simp,by simp,by simp⟩,Pa,Qa⟩
    | false=>
     have hR:=Yb.o.row;(go_wp2_with(with_reducible refine aA 123 ?_ ?_;rfl));with_reducible refine fE 37 ac 0 (cW 2 wk) hR underlying37 ?q5 ?_
     case q5=>exact⟨rfl,rfl,by kernel_rfl,_,rfl,by kernel_rfl⟩
     (go_wp2_with(with_reducible refine aF ?_ ?_;rfl));with_reducible refine fq 37 (w.heap.size+1) 0 (cW 2 wk) ?q6 ?q5 ?_
     case q6=>exact Xb.o.there _ 27 (by simp)
     case q5=>exact⟨rfl,by kernel_rfl,by kernel_rfl,_,_,rfl,by kernel_rfl,by kernel_rfl⟩
     have Ga:=cm Fb (w.heap.size+1) 0 (cW 2 wk);have Oa:au (Fb.setCells (w.heap.size+1) 0 (cW 2 wk)) (w.heap.size+1) (cW 2 wk):=Xb.o.setCells (cW 2 wk) 0 (by simp);have Pa:Rd w0 R ca Ja Ka (Fb.setCells (w.heap.size+1) 0 (cW 2 wk)):=Hc.o.cells (by omega) (by omega) _;have Qa:=aK Ic.o Ga (by omega);have La:aw (Fb.setCells (w.heap.size+1) 0 (cW 2 wk)) none 0 0 []:=aP _;have Ra:aw (Fb.setCells (w.heap.size+1) 0 (cW 2 wk)) none 0 0 []:=aP _;have Sa:aw (Fb.setCells (w.heap.size+1) 0 (cW 2 wk)) none 0 0 []:=aP _;have Ta:aw (Fb.setCells (w.heap.size+1) 0 (cW 2 wk)) none 0 0 []:=aP _
     generalize(Fb.setCells (w.heap.size+1) 0 (cW 2 wk))=wf at *;(go_wp2_with fail);exact m7 (aS rfl rfl (uN wf (w.heap.size+1) 0 37 _ _ Oa.row underlying37 rfl (by kernel_rfl))) rfl ⟨_,_,_,_,_,_,_,_,_,_,_,_,_,_,_,_,_,_,_,_,_,_,_,_,_,_,_,_,_,_,_,_,_,_,_,_,_,_,_,rfl,⟨La,Ra,Sa,Ta⟩,⟨by omega,by omega,by omega,by omega⟩,⟨by simp,by simp,by simp,by simp⟩,Pa,Qa⟩
   case pos=>
    obtain⟨gj,rfl⟩:=hO.block (by omega);have hT:=hO.jtask Gd;have Ye:=fun j (hj:j<18)=>hO.jcell Gd hj;have Kh:(n:Int)<(nj:Int):=(by omega);have Yi:(0:Int)≤(n:Int):=(by omega);have Va:=Hd hM;have Za:=Hd hZ;have Ab:=Hd Qb;have Bb:=Hd Rb;have Sb:=Hd hO;have Na:=Hd hC;have Ld:=HJ.o (qs.getD n q0) (M.getD_mem (by have:=Sb.o.jl;omega));generalize Uc:(qs.getD n q0).1.ts.length=tn at hT Ld;generalize Ud:(qs.getD n q0).2.1=ta at hT;generalize Vd:(qs.getD n q0).2.2=tc at hT;have hA:∀j,j<18→wr.cell? ⟨gj,n*18+j,none⟩=(eN (qs.getD n q0).1 ta tc)[j]?:=fun j hj=>by have:=Ye j hj;rw[this];unfold iG;rw[Ud,Vd]
    have Jc:H9 ((qs.getD n q0).1.ts.length=tn∧(qs.getD n q0).2.1=ta∧(qs.getD n q0).2.2=tc):=⟨Uc,Ud,Vd⟩;generalize Ze:(qs.getD n q0).1=cq at hA Uc Ld;have Af:=Hd Ze;obtain⟨Aa,⟨⟨a,b,c',d,f,k⟩,⟨a',b',Ha,d',f',k'⟩⟩,⟨s1,s2⟩,jr,jg,tl⟩:=cq;dsimp only at Uc Ld;have hR:wr.rangeAt gj (n*18) (eN ⟨Aa,⟨⟨a,b,c',d,f,k⟩,⟨a',b',Ha,d',f',k'⟩⟩,(s1,s2),jr,jg,tl⟩ ta tc):=ch rfl hA;dsimp only[eN]at hR;rw[Uc]at hR;obtain⟨Lh,Nh,Zi⟩:=Ld;have Xe:=Va.c 3;(go_wp2_with(with_reducible refine aA 58 ?_ ?_;rfl));with_reducible refine fE 45 gj (n*18) (ce Aa a b c' d f k a' b' Ha d' f' k' s1 s2 jr jg ta tn tc) hR underlying45 ?q5 ?_
    case q5=>exact⟨rfl,rfl,by kernel_rfl,_,rfl,by kernel_rfl⟩
    have Oh:=Na.o.2.2;(go_wp2_with(with_reducible refine aA 7 ?_ ?_;rfl));show wpList _ _ _ _ _ _;have Bf:(Instr.alloc 45 true (.tuple #[])).run prog wr=.ok (.pointer (some ⟨wr.heap.size,0,none⟩)) (wr.alloc (.cells cD.toArray 45)):=(by kernel_rfl);with_reducible refine bF ?qg 45 ?qo cD.toArray Bf ?_
    case qg | qo=>exact rfl
    show wpList _ _ _ _ _ _;with_reducible refine Hx (fq 45 wr.heap.size 0 (ce Aa a b c' d f k a' b' Ha d' f' k' s1 s2 jr jg ta tn tc) ?q6 ?q5 ?_)
    case q6=>exact(aO _ _ _).there _ 18 (by simp)
    case q5=>exact⟨rfl,by kernel_rfl,by kernel_rfl,_,_,rfl,by kernel_rfl,by kernel_rfl⟩
    have Zb:m1 wr ((wr.alloc (.cells cD.toArray 45)).setCells wr.heap.size 0 (ce Aa a b c' d f k a' b' Ha d' f' k' s1 s2 jr jg ta tn tc)):=aM _ _ ((m5 _ _).alloc (m3 _) _) (m3 _);have Vc:=Va.b Zb;have Cb:=Za.b Zb;have Db:=Hd (Ab.o.grow Zb);have Eb:=Hd (Bb.o.trans (aB Zb _));have Kc:=Hd (Sb.o.below Zb);have Wa:=Na.b Zb;have Ac:H9 (au ((wr.alloc (.cells cD.toArray 45)).setCells wr.heap.size 0 (ce Aa a b c' d f k a' b' Ha d' f' k' s1 s2 jr jg ta tn tc)) wr.heap.size (ce Aa a b c' d f k a' b' Ha d' f' k' s1 s2 jr jg ta tn tc)):=(aO wr cD.toArray 45).setCells (ce Aa a b c' d f k a' b' Ha d' f' k' s1 s2 jr jg ta tn tc) 0 (by simp);generalize((wr.alloc (.cells cD.toArray 45)).setCells wr.heap.size 0 (ce Aa a b c' d f k a' b' Ha d' f' k' s1 s2 jr jg ta tn tc))=wj at *;generalize wr.heap.size=jb at Ac Oh ⊢;go_wp2_with fail
    go_loopw [8] (fun i wr=>∃p:Nat,p≤tn∧i=it p∧au wr w.heap.size (aI Ue Ve ab nb cb (some ⟨gj,0,none⟩) nj cj)∧au wr (w.heap.size+1) (bM 0)∧Rd w0 R ca Ja Ka wr∧w.grownBy wr (some R)∧aV wr Te ab nb cb bs (some ⟨gj,0,none⟩) nj cj qs∧au wr ac (bM wk)∧au wr jb (ce Aa a b c' d f k a' b' Ha d' f' k' s1 s2 jr jg ta tn tc)) (fun i _=>tn-(intOf i).toNat)
    case atStart=>exact⟨0,by omega,rfl,Vc.o,Cb.o,Db.o,Eb.o,Kc.o,Wa.o,Ac.o⟩
    case round=>
     obtain⟨p,hp,rfl,hM,hZ,Qb,Rb,hO,hC,hK⟩:=hrel;by_cases Cf:p<tn
     case neg=>
      have Ph:¬ (p:Int)<(tn:Int):=(by omega);have Wc:=hK.c 17;go_wp2;go_roundw
      case rel=>exact⟨n+1,by omega,by go_num,hM,hZ,Qb,Rb,hO,hC⟩
      case measure=>simp[intOf];omega
     case pos=>
      have hT:=hO.jtask Gd;rw[Jc.o.1,Jc.o.2.1,Jc.o.2.2,Af.o]at hT;dsimp only at hT;obtain⟨g,rfl⟩:=hT.block (by omega);have Xc:wr.cell? ⟨g,p*3+1,none⟩=some (it (tl.getD p M.t0).l'):=hT.cells Cf (j:=1) (by omega);generalize Df:(tl.getD p M.t0).l'=tw at Xc;have Qh:=Hd Df;have Aj:(tn:Int)≤tc:=(by have:=hT.sees.le;omega);have Ph:(p:Int)<(tn:Int):=(by omega);have Bj:(0:Int)≤(p:Int):=(by omega);have Va:=Hd hM;have Za:=Hd hZ;have Ab:=Hd Qb;have Bb:=Hd Rb;have Sb:=Hd hO;have Na:=Hd hC;have Yc:=Hd hK;by_cases hw:tw=0
      case pos=>
       have gw:(tw==0)=true:=(by simp[hw]);have Wc:=Yc.c 17;go_wp2;go_roundw
       case rel=>exact⟨p+1,by omega,by go_num,Va.o,Za.o,Ab.o,Bb.o,Sb.o,Na.o,Yc.o⟩
       case measure=>simp[intOf];omega
      case neg=>
       have gw:(tw==0)=false:=(by simp[hw]);have Wc:=Yc.c 17;(go_wp2_with fail);refine(dp Ya.o 3 (by decide) (by decide) _ Ab.o).mono ?_;rintro e wo ⟨o,rfl,hr,hg⟩;have Vc:=Hd (Va.o.grown hg (by simp;omega));have Cb:=Hd (Za.o.grown hg (by simp;omega));have Db:=Hd hr;have Eb:=Hd (Bb.o.trans hg);have Kc:=Hd (Sb.o.grown hg (fun g hg e=>by have:=(Sb.o.lt g hg).1;have:=m2 e;omega));have Wa:=Hd (Na.o.grown hg (by simp;omega));have Ac:=Hd (Yc.o.grown hg (by simp;omega))
       cases o with
       | true=>
        go_wp2;go_roundw
        case rel=>exact⟨p+1,by omega,by go_num,Vc.o,Cb.o,Db.o,Eb.o,Kc.o,Wa.o,Ac.o⟩
        case measure=>simp[intOf];omega
       | false=>
        (go_wp2_with(with_reducible refine aF ?_ ?_;rfl));with_reducible refine mO 2 ac 0 (it 3) ?q6 ?q5 ?_
        case q6=>exact Wa.o.there 0 1 (by simp)
        case q5=>exact⟨rfl,rfl,rfl,by kernel_rfl,_,_,rfl,by kernel_rfl,by kernel_rfl⟩
        have Ba:=cm wo ac 0 [it 3];have Xb:=Hd (Cb.o.grown Ba (by simp;omega));have Hc:H9 (Rd w0 R ca Ja Ka (wo.setCells ac 0 [it 3])):=Db.o.cells (by omega) (by omega) _;have Ic:=Hd (aK Eb.o Ba (by omega));have Ef:=Hd (Kc.o.grown Ba (fun g hg e=>by have:=Td.o g hg;have:=m2 e;omega));have Yb:H9 (au (wo.setCells ac 0 [it 3]) ac [it 3,it 0,it 0,it wk,it 0,it 0,it 0,it 0,it 0,it 0,it 0,it 0,it 0,it 0,it 0,it 0,it 0,it 0,it 0,it 0,it 0,it 0,it 0,.slice none 0 0,.slice none 0 0,.slice none 0 0,.slice none 0 0]):=Wa.o.setCells [it 3] 0 (by simp);have Wd:=Hd (Ac.o.grown Ba (by simp;omega));generalize(wo.setCells ac 0 [it 3])=wa at *;have k0:=Wd.c 0;(go_wp2_with(with_reducible refine aF ?_ ?_;rfl));with_reducible refine mO 2 ac 1 (it Aa) ?q6 ?q5 ?_
        case q6=>exact Yb.o.there 1 1 (by simp)
        case q5=>exact⟨rfl,rfl,rfl,by kernel_rfl,_,_,rfl,by kernel_rfl,by kernel_rfl⟩
        have Ba:=cm wa ac 1 [it Aa];have Nb:=Hd (Xb.o.grown Ba (by simp;omega));have Ob:H9 (Rd w0 R ca Ja Ka (wa.setCells ac 1 [it Aa])):=Hc.o.cells (by omega) (by omega) _;have Pb:=Hd (aK Ic.o Ba (by omega));have Rc:=Hd (Ef.o.grown Ba (fun g hg e=>by have:=Td.o g hg;have:=m2 e;omega));have Ua:H9 (au (wa.setCells ac 1 [it Aa]) ac [it 3,it Aa,it 0,it wk,it 0,it 0,it 0,it 0,it 0,it 0,it 0,it 0,it 0,it 0,it 0,it 0,it 0,it 0,it 0,it 0,it 0,it 0,it 0,.slice none 0 0,.slice none 0 0,.slice none 0 0,.slice none 0 0]):=Yb.o.setCells [it Aa] 1 (by simp);have Ff:=Hd (Wd.o.grown Ba (by simp;omega));generalize(wa.setCells ac 1 [it Aa])=wb at *;(go_wp2_with(with_reducible refine aF ?_ ?_;rfl));with_reducible refine mO 2 ac 2 (it (p:Nat)) ?q6 ?q5 ?_
        case q6=>exact Ua.o.there 2 1 (by simp)
        case q5=>exact⟨rfl,rfl,rfl,by kernel_rfl,_,_,rfl,by kernel_rfl,by kernel_rfl⟩
        have Ba:=cm wb ac 2 [it (p:Nat)];have Sc:=Hd (Nb.o.grown Ba (by simp;omega));have Jd:H9 (Rd w0 R ca Ja Ka (wb.setCells ac 2 [it (p:Nat)])):=Ob.o.cells (by omega) (by omega) _;have Kd:=Hd (aK Pb.o Ba (by omega));have Gf:=Hd (Rc.o.grown Ba (fun g hg e=>by have:=Td.o g hg;have:=m2 e;omega));have Tc:H9 (au (wb.setCells ac 2 [it (p:Nat)]) ac [it 3,it Aa,it (p:Nat),it wk,it 0,it 0,it 0,it 0,it 0,it 0,it 0,it 0,it 0,it 0,it 0,it 0,it 0,it 0,it 0,it 0,it 0,it 0,it 0,.slice none 0 0,.slice none 0 0,.slice none 0 0,.slice none 0 0]):=Ua.o.setCells [it (p:Nat)] 2 (by simp);have Xd:=Hd (Ff.o.grown Ba (by simp;omega));generalize(wb.setCells ac 2 [it (p:Nat)])=wc at *;have Wc:=Xd.c 17;have hT:=Gf.o.jtask Gd;rw[Jc.o.1,Jc.o.2.1,Jc.o.2.2,Af.o]at hT;dsimp only at hT;have Xc:wc.cell? ⟨g,p*3+1,none⟩=some (it (tl.getD p M.t0).l'):=hT.cells Cf (j:=1) (by omega);rw[Qh.o]at Xc;(go_wp2_with(with_reducible refine aF ?_ ?_;rfl));with_reducible refine mO 2 ac 3 (it tw) ?q6 ?q5 ?_
        case q6=>exact Tc.o.there 3 1 (by simp)
        case q5=>exact⟨rfl,rfl,rfl,by kernel_rfl,_,_,rfl,by kernel_rfl,by kernel_rfl⟩
        have Ba:=cm wc ac 3 [it tw];have Hf:=Hd (Sc.o.grown Ba (by simp;omega));have If:H9 (Rd w0 R ca Ja Ka (wc.setCells ac 3 [it tw])):=Jd.o.cells (by omega) (by omega) _;have Jf:=Hd (aK Kd.o Ba (by omega));have Kf:H9 (au (wc.setCells ac 3 [it tw]) ac [it 3,it Aa,it (p:Nat),it tw,it 0,it 0,it 0,it 0,it 0,it 0,it 0,it 0,it 0,it 0,it 0,it 0,it 0,it 0,it 0,it 0,it 0,it 0,it 0,.slice none 0 0,.slice none 0 0,.slice none 0 0,.slice none 0 0]):=Tc.o.setCells [it tw] 3 (by simp);have Yd:=Hd (Xd.o.grown Ba (by simp;omega));generalize(wc.setCells ac 3 [it tw])=wd at *;(go_wp2_with fail);have Zd:=Hd Yd.o;have Lc:m1 wd wd.drew:=(m5 _ _).drew;have Lf:=Hf.b Lc;have Nf:=Hd (If.o.grow Lc);have Of:=Hd (Jf.o.trans (aB Lc _));have Ae:=Kf.b Lc;have Pf:=Yd.b Lc;refine wp_region_noPanic ?_;refine wp_region_held_drew (S:=fun W=>wd.grownBy W (some ac)∧W.cell? ⟨ac,2,none⟩=some (it (p:Nat))) (by kernel_rfl) (⟨cU _ _,Ae.o.at 2⟩) (fun hHeld=>?_);generalize wd.drew=Cj at *;refine tk 0 (.pointer (some ⟨jb,1,none⟩)) ?_ ?_
        ·intro wq Nc;go_simp
        have Qf:∀W:World,wd.grownBy W (some ac)∧W.cell? ⟨ac,2,none⟩=some (it (p:Nat))→W.rangeAt jb 1 (co a b c' d f k a' b' Ha d' f' k'):=fun W h=>(Zd.o.grown h.1 (by simp;omega)).mid 1 12;refine wpAnyH_take (i:=1) (v:=.agg (co a b c' d f k a' b' Ha d' f' k').toArray) rfl (by kernel_rfl) (by kernel_rfl) (by kernel_rfl) (fun _ _ _ h=>h) (uM (by kernel_rfl) 31 (.tmp 91) rfl jb 1 rfl (co a b c' d f k a' b' Ha d' f' k') _ (Qf) underlying31 rfl (by kernel_rfl)) (by assumption) ?_;have Rf:∀W:World,wd.grownBy W (some ac)∧W.cell? ⟨ac,2,none⟩=some (it (p:Nat))→W.rangeAt jb 0 (ce Aa a b c' d f k a' b' Ha d' f' k' s1 s2 jr jg (some ⟨g,0,none⟩) tn tc):=fun W h=>(Zd.o.grown h.1 (by simp;omega)).row;refine wpAnyH_take (i:=2) (v:=.agg (ce Aa a b c' d f k a' b' Ha d' f' k' s1 s2 jr jg (some ⟨g,0,none⟩) tn tc).toArray) rfl (by kernel_rfl) (by kernel_rfl) (by kernel_rfl) (fun _ _ _ h=>h) (uM (by kernel_rfl) 45 (.tmp 7) rfl jb 0 rfl (ce Aa a b c' d f k a' b' Ha d' f' k' s1 s2 jr jg (some ⟨g,0,none⟩) tn tc) _ (Rf) underlying45 rfl (by kernel_rfl)) (by assumption) ?_;refine tk 3 (.pointer (some ⟨ac,2,none⟩)) ?_ ?_
        ·intro wq Nc;go_simp
        refine tk 4 (it (p:Nat)) ?_ ?_
        ·intro wp Be;have c0:=Be.2;go_simp
        refine tk 6 (.pointer (some ⟨jb,15,none⟩)) ?_ ?_
        ·intro wq Nc;go_simp
        refine tk 7 (it jr) ?_ ?_
        ·intro wp Be;have c0:=(Zd.o.grown Be.1 (by simp;omega)).c 15;go_simp
        refine aX 5 fun Kk hK=>?_;go_simp;refine(ju Aa a b c' d f k a' b' Ha d' f' k' s1 s2 jr jg (some ⟨g,0,none⟩) tn tc (p:Nat) (by omega) (by omega) Lh Nh _).mono ?_;rintro e Sf ⟨rfl,Bc⟩;go_simp;generalize ei ⟨⟨a,b,c',d,f,k⟩,⟨a',b',Ha,d',f',k'⟩⟩ (s1,s2) ((p:Nat)*(jr-1))=sx;obtain⟨sx,sy⟩:=sx;dsimp only[cM];have Tf:=Lf.b Bc;have Uf:=Hd (Nf.o.grow Bc);have Vf:=Hd (Of.o.trans (aB Bc _));have Cc:=Ae.b Bc;have Wf:=Pf.b Bc;have Xf:wd.grownBy Sf (some ac)∧Sf.cell? ⟨ac,2,none⟩=some (it (p:Nat)):=⟨hHeld.1.trans (aB Bc _),Cc.o.at 2⟩;refine hK.out _ _ Xf (fun _=>?_);refine aX 8 fun Kk hK=>?_;go_simp;refine((gf ⟨⟨a,b,c',d,f,k⟩,⟨a',b',Ha,d',f',k'⟩⟩ (sx,sy) jr _).mono (fun _ _ h=>jx h)).mono ?_;rintro e Xa ⟨p1,p2,p3,p4,L,o,z1,z2,z3,z4,g1,Ca,g2,Da,g3,Ea,g4,Fa,rfl,hL,⟨q1,q2,q3,q4⟩,Rh,Dc⟩;go_simp;have Hb:=Hd (fun q hq=>uL Cc.o.2.2 (q1.lo q hq));have Ib:=Hd (fun q hq=>uL Cc.o.2.2 (q2.lo q hq));have Jb:=Hd (fun q hq=>uL Cc.o.2.2 (q3.lo q hq));have Kb:=Hd (fun q hq=>uL Cc.o.2.2 (q4.lo q hq));have Yf:=Tf.b Dc;have Zf:=Hd (Uf.o.grow Dc);have Ag:=Hd (Vf.o.trans (aB Dc _));have Nd:=Cc.b Dc;have Bg:=Wf.b Dc;have Cg:=Hd q1.sees;have Dg:=Hd q2.sees;have Eg:=Hd q3.sees;have Fg:=Hd q4.sees;have Ce:wd.grownBy Xa (some ac)∧Xa.cell? ⟨ac,2,none⟩=some (it (p:Nat)):=⟨Xf.1.trans (aB Dc _),Nd.o.at 2⟩;refine hK.out _ _ Ce (fun _=>?_);refine tk 9 (.tuple #[.agg (bp p1 p2 p3 p4 g1 L Ca g2 L Da g3 L Ea g4 L Fa).toArray,.bool o]) ?_ ?_
        ·intro wq Nc;go_simp
        refine tk 10 (.agg (bp p1 p2 p3 p4 g1 L Ca g2 L Da g3 L Ea g4 L Fa).toArray) ?_ ?_
        ·intro wq Nc;go_simp
        refine tk 12 (.pointer (some ⟨ac,19,none⟩)) ?_ ?_
        ·intro wq Nc;go_simp
        refine tk 11 (.bool o) ?_ ?_
        ·intro wq Nc;go_simp
        refine aX 13 fun Kk hK=>?_;rw[if_pos (by kernel_rfl)];with_reducible refine wp_store_mid 35 (.tmp 102) (.tmp 100) ?_ ac 19 ((bp p1 p2 p3 p4 g1 L Ca g2 L Da g3 L Ea g4 L Fa):List Value).toArray ?_ ?_ ?_ (by kernel_rfl) (by kernel_rfl) ?_
        ·exact rfl
        ·kernel_rfl
        ·kernel_rfl
        ·exact Nd.o.there 19 8 (by simp)
        have Ba:=cm Xa ac 19 (bp p1 p2 p3 p4 g1 L Ca g2 L Da g3 L Ea g4 L Fa);have Gg:=Hd (Yf.o.grown Ba (by simp;omega));have Hg:H9 (Rd w0 R ca Ja Ka (Xa.setCells ac 19 (bp p1 p2 p3 p4 g1 L Ca g2 L Da g3 L Ea g4 L Fa))):=Zf.o.cells (by omega) (by omega) _;have Ig:=Hd (aK Ag.o Ba (by omega));have De:H9 (au (Xa.setCells ac 19 (bp p1 p2 p3 p4 g1 L Ca g2 L Da g3 L Ea g4 L Fa)) ac (fQ Aa (p:Nat) tw p1 p2 p3 p4 g1 L Ca g2 L Da g3 L Ea g4 L Fa)):=Nd.o.setCells (bp p1 p2 p3 p4 g1 L Ca g2 L Da g3 L Ea g4 L Fa) 19 (by simp);have Jg:=Hd (Bg.o.grown Ba (by simp;omega));have Kg:=Hd (Cg.o.grownR Ba (fun q hq e=>by have:=Hb.o q hq;have:=m2 e;omega));have Lg:=Hd (Dg.o.grownR Ba (fun q hq e=>by have:=Ib.o q hq;have:=m2 e;omega));have Ng:=Hd (Eg.o.grownR Ba (fun q hq e=>by have:=Jb.o q hq;have:=m2 e;omega));have Og:=Hd (Fg.o.grownR Ba (fun q hq e=>by have:=Kb.o q hq;have:=m2 e;omega));refine hK.out _ _ ⟨Ce.1.trans Ba,De.o.at 2⟩ (fun _=>?_);refine bg ?_;go_simp;generalize(Xa.setCells ac 19 (bp p1 p2 p3 p4 g1 L Ca g2 L Da g3 L Ea g4 L Fa))=we at *;(go_wp2_with fail);refine(dp Ya.o 5 (by decide) (by decide) _ Hg.o).mono ?_;rintro e wf ⟨o5,rfl,hr,hg⟩;have Od:=Hd (Gg.o.grown hg (by simp;omega));have Pd:=Hd hr;have Qd:=Hd (Ig.o.trans hg);have Zc:=Hd (De.o.grown hg (by simp;omega));have Ee:=Hd (Jg.o.grown hg (by simp;omega));have Fe:=Hd (Kg.o.grownR hg (fun q hq e=>by have:=Hb.o q hq;injection e with e;omega));have Ge:=Hd (Lg.o.grownR hg (fun q hq e=>by have:=Ib.o q hq;injection e with e;omega));have He:=Hd (Ng.o.grownR hg (fun q hq e=>by have:=Jb.o q hq;injection e with e;omega));have Ie:=Hd (Og.o.grownR hg (fun q hq e=>by have:=Kb.o q hq;injection e with e;omega))
        cases o5 with
        | false=>
         (go_wp2_with fail);refine(dp Ya.o 12 (by decide) (by decide) _ Pd.o).mono ?_;rintro e wi ⟨o6,rfl,hr,hg⟩;have Ec:=Hd (Od.o.grown hg (by simp;omega));have Oc:=Hd hr;have Pc:=Hd (Qd.o.trans hg);have Fc:=Hd (Zc.o.grown hg (by simp;omega));have Je:=Hd (Fe.o.grownR hg (fun q hq e=>by have:=Hb.o q hq;injection e with e;omega));have Ke:=Hd (Ge.o.grownR hg (fun q hq e=>by have:=Ib.o q hq;injection e with e;omega));have Le:=Hd (He.o.grownR hg (fun q hq e=>by have:=Jb.o q hq;injection e with e;omega));have Ne:=Hd (Ie.o.grownR hg (fun q hq e=>by have:=Kb.o q hq;injection e with e;omega))
         cases o6 with
         | true=>
          (go_wp2_with fail);refine(bi Ya.o 3 (by decide) (by decide) _ Oc.o).mono ?_;rintro e Lb ⟨z,Sh,Th,rfl,hr,hg⟩;have Ad:=Hd (Ec.o.grown hg (by simp;omega));have Bd:=Hd hr;have Cd:=Hd (Pc.o.trans hg);have Qc:=Hd (Fc.o.grown hg (by simp;omega));have Pg:=Hd (Je.o.grownR hg (fun q hq e=>by have:=Hb.o q hq;injection e with e;omega));have Qg:=Hd (Ke.o.grownR hg (fun q hq e=>by have:=Ib.o q hq;injection e with e;omega));have Rg:=Hd (Le.o.grownR hg (fun q hq e=>by have:=Jb.o q hq;injection e with e;omega));have Sg:=Hd (Ne.o.grownR hg (fun q hq e=>by have:=Kb.o q hq;injection e with e;omega));have Uh:IntKind.i64.wrap (1+z)=1+z:=(by rw[uQ];omega);(go_wp2_with(with_reducible refine aF ?_ ?_;rfl));with_reducible refine mO 2 ac 3 (it (1+z)) ?q6 ?q5 ?_
          case q6=>exact Qc.o.there 3 1 (by simp)
          case q5=>exact⟨rfl,rfl,rfl,by kernel_rfl,_,_,rfl,by kernel_rfl,by kernel_rfl⟩
          have Ba:=cm Lb ac 3 [it (1+z)];have Gc:=Hd (Ad.o.grown Ba (by simp;omega));have Dd:H9 (Rd w0 R ca Ja Ka (Lb.setCells ac 3 [it (1+z)])):=Bd.o.cells (by omega) (by omega) _;have Ed:=Hd (aK Cd.o Ba (by omega));have Fd:H9 (au (Lb.setCells ac 3 [it (1+z)]) ac (fQ Aa (p:Nat) (1+z) p1 p2 p3 p4 g1 L Ca g2 L Da g3 L Ea g4 L Fa)):=Qc.o.setCells [it (1+z)] 3 (by simp);have Vh:=Hd (Pg.o.grownR Ba (fun q hq e=>by have:=Hb.o q hq;have:=m2 e;omega));have Wh:=Hd (Qg.o.grownR Ba (fun q hq e=>by have:=Ib.o q hq;have:=m2 e;omega));have Xh:=Hd (Rg.o.grownR Ba (fun q hq e=>by have:=Jb.o q hq;have:=m2 e;omega));have Yh:=Hd (Sg.o.grownR Ba (fun q hq e=>by have:=Kb.o q hq;have:=m2 e;omega));generalize(Lb.setCells ac 3 [it (1+z)])=Ia at *;have hR:=Fd.o.row;(go_wp2_with(with_reducible refine aA 116 ?_ ?_;rfl));with_reducible refine fE 37 ac 0 (fQ Aa (p:Nat) (1+z) p1 p2 p3 p4 g1 L Ca g2 L Da g3 L Ea g4 L Fa) hR underlying37 ?q5 ?_
          case q5=>exact⟨rfl,rfl,by kernel_rfl,_,rfl,by kernel_rfl⟩
          (go_wp2_with(with_reducible refine aF ?_ ?_;rfl));with_reducible refine fq 37 (w.heap.size+1) 0 (fQ Aa (p:Nat) (1+z) p1 p2 p3 p4 g1 L Ca g2 L Da g3 L Ea g4 L Fa) ?q6 ?q5 ?_
          case q6=>exact Gc.o.there _ 27 (by simp)
          case q5=>exact⟨rfl,by kernel_rfl,by kernel_rfl,_,_,rfl,by kernel_rfl,by kernel_rfl⟩
          have Ga:=cm Ia (w.heap.size+1) 0 (fQ Aa (p:Nat) (1+z) p1 p2 p3 p4 g1 L Ca g2 L Da g3 L Ea g4 L Fa);have Oa:au (Ia.setCells (w.heap.size+1) 0 (fQ Aa (p:Nat) (1+z) p1 p2 p3 p4 g1 L Ca g2 L Da g3 L Ea g4 L Fa)) (w.heap.size+1) (fQ Aa (p:Nat) (1+z) p1 p2 p3 p4 g1 L Ca g2 L Da g3 L Ea g4 L Fa):=Gc.o.setCells (fQ Aa (p:Nat) (1+z) p1 p2 p3 p4 g1 L Ca g2 L Da g3 L Ea g4 L Fa) 0 (by simp);have Pa:Rd w0 R ca Ja Ka (Ia.setCells (w.heap.size+1) 0 (fQ Aa (p:Nat) (1+z) p1 p2 p3 p4 g1 L Ca g2 L Da g3 L Ea g4 L Fa)):=Dd.o.cells (by omega) (by omega) _;have Qa:=aK Ed.o Ga (by omega);have La:=Vh.o.grownR Ga (fun q hq e=>by have:=Hb.o q hq;have:=m2 e;omega);have Ra:=Wh.o.grownR Ga (fun q hq e=>by have:=Ib.o q hq;have:=m2 e;omega);have Sa:=Xh.o.grownR Ga (fun q hq e=>by have:=Jb.o q hq;have:=m2 e;omega);have Ta:=Yh.o.grownR Ga (fun q hq e=>by have:=Kb.o q hq;have:=m2 e;omega)
          generalize(Ia.setCells (w.heap.size+1) 0 (fQ Aa (p:Nat) (1+z) p1 p2 p3 p4 g1 L Ca g2 L Da g3 L Ea g4 L Fa))=wf at *;(go_wp2_with fail);exact m7 (aS rfl rfl (uN wf (w.heap.size+1) 0 37 _ _ Oa.row underlying37 rfl (by kernel_rfl))) rfl ⟨_,_,_,_,_,_,_,_,_,_,_,_,_,_,_,_,_,_,_,_,_,_,_,_,_,_,_,_,_,_,_,_,_,_,_,_,_,_,_,rfl,⟨La,Ra,Sa,Ta⟩,⟨hL,hL,hL,hL⟩,⟨fun q hq=>by have:=Hb.o q hq;omega,fun q hq=>by have:=Ib.o q hq;omega,fun q hq=>by have:=Jb.o q hq;omega,fun q hq=>by have:=Kb.o q hq;omega⟩,Pa,Qa⟩
         | false=>
          have hR:=Fc.o.row;(go_wp2_with(with_reducible refine aA 116 ?_ ?_;rfl));with_reducible refine fE 37 ac 0 (fQ Aa (p:Nat) tw p1 p2 p3 p4 g1 L Ca g2 L Da g3 L Ea g4 L Fa) hR underlying37 ?q5 ?_
          case q5=>exact⟨rfl,rfl,by kernel_rfl,_,rfl,by kernel_rfl⟩
          (go_wp2_with(with_reducible refine aF ?_ ?_;rfl));with_reducible refine fq 37 (w.heap.size+1) 0 (fQ Aa (p:Nat) tw p1 p2 p3 p4 g1 L Ca g2 L Da g3 L Ea g4 L Fa) ?q6 ?q5 ?_
          case q6=>exact Ec.o.there _ 27 (by simp)
          case q5=>exact⟨rfl,by kernel_rfl,by kernel_rfl,_,_,rfl,by kernel_rfl,by kernel_rfl⟩
          have Ga:=cm wi (w.heap.size+1) 0 (fQ Aa (p:Nat) tw p1 p2 p3 p4 g1 L Ca g2 L Da g3 L Ea g4 L Fa);have Oa:au (wi.setCells (w.heap.size+1) 0 (fQ Aa (p:Nat) tw p1 p2 p3 p4 g1 L Ca g2 L Da g3 L Ea g4 L Fa)) (w.heap.size+1) (fQ Aa (p:Nat) tw p1 p2 p3 p4 g1 L Ca g2 L Da g3 L Ea g4 L Fa):=Ec.o.setCells (fQ Aa (p:Nat) tw p1 p2 p3 p4 g1 L Ca g2 L Da g3 L Ea g4 L Fa) 0 (by simp);have Pa:Rd w0 R ca Ja Ka (wi.setCells (w.heap.size+1) 0 (fQ Aa (p:Nat) tw p1 p2 p3 p4 g1 L Ca g2 L Da g3 L Ea g4 L Fa)):=Oc.o.cells (by omega) (by omega) _;have Qa:=aK Pc.o Ga (by omega);have La:=Je.o.grownR Ga (fun q hq e=>by have:=Hb.o q hq;have:=m2 e;omega);have Ra:=Ke.o.grownR Ga (fun q hq e=>by have:=Ib.o q hq;have:=m2 e;omega);have Sa:=Le.o.grownR Ga (fun q hq e=>by have:=Jb.o q hq;have:=m2 e;omega);have Ta:=Ne.o.grownR Ga (fun q hq e=>by have:=Kb.o q hq;have:=m2 e;omega)
          generalize(wi.setCells (w.heap.size+1) 0 (fQ Aa (p:Nat) tw p1 p2 p3 p4 g1 L Ca g2 L Da g3 L Ea g4 L Fa))=wf at *;(go_wp2_with fail);exact m7 (aS rfl rfl (uN wf (w.heap.size+1) 0 37 _ _ Oa.row underlying37 rfl (by kernel_rfl))) rfl ⟨_,_,_,_,_,_,_,_,_,_,_,_,_,_,_,_,_,_,_,_,_,_,_,_,_,_,_,_,_,_,_,_,_,_,_,_,_,_,_,rfl,⟨La,Ra,Sa,Ta⟩,⟨hL,hL,hL,hL⟩,⟨fun q hq=>by have:=Hb.o q hq;omega,fun q hq=>by have:=Ib.o q hq;omega,fun q hq=>by have:=Jb.o q hq;omega,fun q hq=>by have:=Kb.o q hq;omega⟩,Pa,Qa⟩
        | true=>
         have hR:wf.rangeAt jb 1 (co a b c' d f k a' b' Ha d' f' k'):=Ee.o.mid 1 12;(go_wp2_with(with_reducible refine aA 107 ?_ ?_;rfl));with_reducible refine fE 31 jb 1 (co a b c' d f k a' b' Ha d' f' k') hR underlying31 ?q5 ?_
         case q5=>exact⟨rfl,rfl,by kernel_rfl,_,rfl,by kernel_rfl⟩
         (go_wp2_with fail);have Sd:=Zc.o.2.2;refine(qT Ya.o ⟨⟨a,b,c',d,f,k⟩,⟨a',b',Ha,d',f',k'⟩⟩ _ Pd.o).mono ?_;rintro e wg ⟨e1,e2,e3,e4,b1,l1,d1,y1,b2,l2,d2,y2,b3,l3,d3,y3,b4,l4,d4,y4,⟨rfl,x1,x2,x3,x4,Tg,⟨o1,o2,o3,o4⟩,hr,hg⟩⟩;have Ec:=Hd (Od.o.grown hg (by simp;omega));have Oc:=Hd hr;have Pc:=Hd (Qd.o.trans hg);have Fc:=Hd (Zc.o.grown hg (by simp;omega));have Ug:=Hd x1;have Tb:=Hd (fun q hq=>uL Sd (o1 q hq));have Vg:=Hd x2;have Ub:=Hd (fun q hq=>uL Sd (o2 q hq));have Wg:=Hd x3;have Vb:=Hd (fun q hq=>uL Sd (o3 q hq));have Xg:=Hd x4;have Wb:=Hd (fun q hq=>uL Sd (o4 q hq));(go_wp2_with(with_reducible refine aF ?_ ?_;rfl));with_reducible refine fq 35 ac 19 (bp e1 e2 e3 e4 b1 l1 d1 b2 l2 d2 b3 l3 d3 b4 l4 d4) ?q6 ?q5 ?_
         case q6=>exact Fc.o.there 19 8 (by simp)
         case q5=>exact⟨rfl,by kernel_rfl,by kernel_rfl,_,_,rfl,by kernel_rfl,by kernel_rfl⟩
         have Ba:=cm wg ac 19 (bp e1 e2 e3 e4 b1 l1 d1 b2 l2 d2 b3 l3 d3 b4 l4 d4);have Ad:=Hd (Ec.o.grown Ba (by simp;omega));have Bd:H9 (Rd w0 R ca Ja Ka (wg.setCells ac 19 (bp e1 e2 e3 e4 b1 l1 d1 b2 l2 d2 b3 l3 d3 b4 l4 d4))):=Oc.o.cells (by omega) (by omega) _;have Cd:=Hd (aK Pc.o Ba (by omega));have Qc:H9 (au (wg.setCells ac 19 (bp e1 e2 e3 e4 b1 l1 d1 b2 l2 d2 b3 l3 d3 b4 l4 d4)) ac (fQ Aa (p:Nat) tw e1 e2 e3 e4 b1 l1 d1 b2 l2 d2 b3 l3 d3 b4 l4 d4)):=Fc.o.setCells (bp e1 e2 e3 e4 b1 l1 d1 b2 l2 d2 b3 l3 d3 b4 l4 d4) 19 (by simp);have Yg:=Hd (Ug.o.grownR Ba (fun q hq e=>by have:=Tb.o q hq;have:=m2 e;omega));have Zg:=Hd (Vg.o.grownR Ba (fun q hq e=>by have:=Ub.o q hq;have:=m2 e;omega));have Ah:=Hd (Wg.o.grownR Ba (fun q hq e=>by have:=Vb.o q hq;have:=m2 e;omega));have Bh:=Hd (Xg.o.grownR Ba (fun q hq e=>by have:=Wb.o q hq;have:=m2 e;omega));generalize(wg.setCells ac 19 (bp e1 e2 e3 e4 b1 l1 d1 b2 l2 d2 b3 l3 d3 b4 l4 d4))=wh at *;(go_wp2_with fail);refine(dp Ya.o 12 (by decide) (by decide) _ Bd.o).mono ?_;rintro e wi ⟨o6,rfl,hr,hg⟩;have Gc:=Hd (Ad.o.grown hg (by simp;omega));have Dd:=Hd hr;have Ed:=Hd (Cd.o.trans hg);have Fd:=Hd (Qc.o.grown hg (by simp;omega));have Oe:=Hd (Yg.o.grownR hg (fun q hq e=>by have:=Tb.o q hq;injection e with e;omega));have Pe:=Hd (Zg.o.grownR hg (fun q hq e=>by have:=Ub.o q hq;injection e with e;omega));have Qe:=Hd (Ah.o.grownR hg (fun q hq e=>by have:=Vb.o q hq;injection e with e;omega));have Re:=Hd (Bh.o.grownR hg (fun q hq e=>by have:=Wb.o q hq;injection e with e;omega))
         cases o6 with
         | true=>
          (go_wp2_with fail);refine(bi Ya.o 3 (by decide) (by decide) _ Dd.o).mono ?_;rintro e Lb ⟨z,Sh,Th,rfl,hr,hg⟩;have Ch:=Hd (Gc.o.grown hg (by simp;omega));have Dh:=Hd hr;have Eh:=Hd (Ed.o.trans hg);have Se:=Hd (Fd.o.grown hg (by simp;omega));have Fh:=Hd (Oe.o.grownR hg (fun q hq e=>by have:=Tb.o q hq;injection e with e;omega));have Gh:=Hd (Pe.o.grownR hg (fun q hq e=>by have:=Ub.o q hq;injection e with e;omega));have Hh:=Hd (Qe.o.grownR hg (fun q hq e=>by have:=Vb.o q hq;injection e with e;omega));have Ih:=Hd (Re.o.grownR hg (fun q hq e=>by have:=Wb.o q hq;injection e with e;omega));have Uh:IntKind.i64.wrap (1+z)=1+z:=(by rw[uQ];omega);(go_wp2_with(with_reducible refine aF ?_ ?_;rfl));with_reducible refine mO 2 ac 3 (it (1+z)) ?q6 ?q5 ?_
          case q6=>exact Se.o.there 3 1 (by simp)
          case q5=>exact⟨rfl,rfl,rfl,by kernel_rfl,_,_,rfl,by kernel_rfl,by kernel_rfl⟩
          have Ba:=cm Lb ac 3 [it (1+z)];have Jh:=Hd (Ch.o.grown Ba (by simp;omega));have Zh:H9 (Rd w0 R ca Ja Ka (Lb.setCells ac 3 [it (1+z)])):=Dh.o.cells (by omega) (by omega) _;have Ai:=Hd (aK Eh.o Ba (by omega));have Bi:H9 (au (Lb.setCells ac 3 [it (1+z)]) ac (fQ Aa (p:Nat) (1+z) e1 e2 e3 e4 b1 l1 d1 b2 l2 d2 b3 l3 d3 b4 l4 d4)):=Se.o.setCells [it (1+z)] 3 (by simp);have Ci:=Hd (Fh.o.grownR Ba (fun q hq e=>by have:=Tb.o q hq;have:=m2 e;omega));have Di:=Hd (Gh.o.grownR Ba (fun q hq e=>by have:=Ub.o q hq;have:=m2 e;omega));have Ei:=Hd (Hh.o.grownR Ba (fun q hq e=>by have:=Vb.o q hq;have:=m2 e;omega));have Fi:=Hd (Ih.o.grownR Ba (fun q hq e=>by have:=Wb.o q hq;have:=m2 e;omega));generalize(Lb.setCells ac 3 [it (1+z)])=Ia at *;have hR:=Bi.o.row;(go_wp2_with(with_reducible refine aA 116 ?_ ?_;rfl));with_reducible refine fE 37 ac 0 (fQ Aa (p:Nat) (1+z) e1 e2 e3 e4 b1 l1 d1 b2 l2 d2 b3 l3 d3 b4 l4 d4) hR underlying37 ?q5 ?_
          case q5=>exact⟨rfl,rfl,by kernel_rfl,_,rfl,by kernel_rfl⟩
          (go_wp2_with(with_reducible refine aF ?_ ?_;rfl));with_reducible refine fq 37 (w.heap.size+1) 0 (fQ Aa (p:Nat) (1+z) e1 e2 e3 e4 b1 l1 d1 b2 l2 d2 b3 l3 d3 b4 l4 d4) ?q6 ?q5 ?_
          case q6=>exact Jh.o.there _ 27 (by simp)
          case q5=>exact⟨rfl,by kernel_rfl,by kernel_rfl,_,_,rfl,by kernel_rfl,by kernel_rfl⟩
          have Ga:=cm Ia (w.heap.size+1) 0 (fQ Aa (p:Nat) (1+z) e1 e2 e3 e4 b1 l1 d1 b2 l2 d2 b3 l3 d3 b4 l4 d4);have Oa:au (Ia.setCells (w.heap.size+1) 0 (fQ Aa (p:Nat) (1+z) e1 e2 e3 e4 b1 l1 d1 b2 l2 d2 b3 l3 d3 b4 l4 d4)) (w.heap.size+1) (fQ Aa (p:Nat) (1+z) e1 e2 e3 e4 b1 l1 d1 b2 l2 d2 b3 l3 d3 b4 l4 d4):=Jh.o.setCells (fQ Aa (p:Nat) (1+z) e1 e2 e3 e4 b1 l1 d1 b2 l2 d2 b3 l3 d3 b4 l4 d4) 0 (by simp);have Pa:Rd w0 R ca Ja Ka (Ia.setCells (w.heap.size+1) 0 (fQ Aa (p:Nat) (1+z) e1 e2 e3 e4 b1 l1 d1 b2 l2 d2 b3 l3 d3 b4 l4 d4)):=Zh.o.cells (by omega) (by omega) _;have Qa:=aK Ai.o Ga (by omega);have La:=Ci.o.grownR Ga (fun q hq e=>by have:=Tb.o q hq;have:=m2 e;omega);have Ra:=Di.o.grownR Ga (fun q hq e=>by have:=Ub.o q hq;have:=m2 e;omega);have Sa:=Ei.o.grownR Ga (fun q hq e=>by have:=Vb.o q hq;have:=m2 e;omega);have Ta:=Fi.o.grownR Ga (fun q hq e=>by have:=Wb.o q hq;have:=m2 e;omega)
          generalize(Ia.setCells (w.heap.size+1) 0 (fQ Aa (p:Nat) (1+z) e1 e2 e3 e4 b1 l1 d1 b2 l2 d2 b3 l3 d3 b4 l4 d4))=wf at *;(go_wp2_with fail);exact m7 (aS rfl rfl (uN wf (w.heap.size+1) 0 37 _ _ Oa.row underlying37 rfl (by kernel_rfl))) rfl ⟨_,_,_,_,_,_,_,_,_,_,_,_,_,_,_,_,_,_,_,_,_,_,_,_,_,_,_,_,_,_,_,_,_,_,_,_,_,_,_,rfl,⟨La,Ra,Sa,Ta⟩,Tg,⟨fun q hq=>by have:=Tb.o q hq;omega,fun q hq=>by have:=Ub.o q hq;omega,fun q hq=>by have:=Vb.o q hq;omega,fun q hq=>by have:=Wb.o q hq;omega⟩,Pa,Qa⟩
         | false=>
          have hR:=Fd.o.row;(go_wp2_with(with_reducible refine aA 116 ?_ ?_;rfl));with_reducible refine fE 37 ac 0 (fQ Aa (p:Nat) tw e1 e2 e3 e4 b1 l1 d1 b2 l2 d2 b3 l3 d3 b4 l4 d4) hR underlying37 ?q5 ?_
          case q5=>exact⟨rfl,rfl,by kernel_rfl,_,rfl,by kernel_rfl⟩
          (go_wp2_with(with_reducible refine aF ?_ ?_;rfl));with_reducible refine fq 37 (w.heap.size+1) 0 (fQ Aa (p:Nat) tw e1 e2 e3 e4 b1 l1 d1 b2 l2 d2 b3 l3 d3 b4 l4 d4) ?q6 ?q5 ?_
          case q6=>exact Gc.o.there _ 27 (by simp)
          case q5=>exact⟨rfl,by kernel_rfl,by kernel_rfl,_,_,rfl,by kernel_rfl,by kernel_rfl⟩
          have Ga:=cm wi (w.heap.size+1) 0 (fQ Aa (p:Nat) tw e1 e2 e3 e4 b1 l1 d1 b2 l2 d2 b3 l3 d3 b4 l4 d4);have Oa:au (wi.setCells (w.heap.size+1) 0 (fQ Aa (p:Nat) tw e1 e2 e3 e4 b1 l1 d1 b2 l2 d2 b3 l3 d3 b4 l4 d4)) (w.heap.size+1) (fQ Aa (p:Nat) tw e1 e2 e3 e4 b1 l1 d1 b2 l2 d2 b3 l3 d3 b4 l4 d4):=Gc.o.setCells (fQ Aa (p:Nat) tw e1 e2 e3 e4 b1 l1 d1 b2 l2 d2 b3 l3 d3 b4 l4 d4) 0 (by simp);have Pa:Rd w0 R ca Ja Ka (wi.setCells (w.heap.size+1) 0 (fQ Aa (p:Nat) tw e1 e2 e3 e4 b1 l1 d1 b2 l2 d2 b3 l3 d3 b4 l4 d4)):=Dd.o.cells (by omega) (by omega) _;have Qa:=aK Ed.o Ga (by omega);have La:=Oe.o.grownR Ga (fun q hq e=>by have:=Tb.o q hq;have:=m2 e;omega);have Ra:=Pe.o.grownR Ga (fun q hq e=>by have:=Ub.o q hq;have:=m2 e;omega);have Sa:=Qe.o.grownR Ga (fun q hq e=>by have:=Vb.o q hq;have:=m2 e;omega);have Ta:=Re.o.grownR Ga (fun q hq e=>by have:=Wb.o q hq;have:=m2 e;omega)
          generalize(wi.setCells (w.heap.size+1) 0 (fQ Aa (p:Nat) tw e1 e2 e3 e4 b1 l1 d1 b2 l2 d2 b3 l3 d3 b4 l4 d4))=wf at *;(go_wp2_with fail);exact m7 (aS rfl rfl (uN wf (w.heap.size+1) 0 37 _ _ Oa.row underlying37 rfl (by kernel_rfl))) rfl ⟨_,_,_,_,_,_,_,_,_,_,_,_,_,_,_,_,_,_,_,_,_,_,_,_,_,_,_,_,_,_,_,_,_,_,_,_,_,_,_,rfl,⟨La,Ra,Sa,Ta⟩,Tg,⟨fun q hq=>by have:=Tb.o q hq;omega,fun q hq=>by have:=Ub.o q hq;omega,fun q hq=>by have:=Vb.o q hq;omega,fun q hq=>by have:=Wb.o q hq;omega⟩,Pa,Qa⟩
theorem qI:cz.p4:=fZ.1
theorem qJ:cz.p5:=fZ.2.1
theorem qK:cz.p6:=fZ.2.2
theorem iJ:nY:=cz.h ⟨t8⟩ ⟨ub⟩ ⟨ud⟩ ⟨ue⟩ ⟨qI⟩ ⟨qJ⟩ ⟨qK⟩ ⟨uf⟩ ⟨ug⟩
set_option maxRecDepth 10000 in
theorem kd{a1 a2 a3 a4:Option Addr}{n1 n2 n3 n4 c1 c2 c3 c4:Nat}{z1 z2 z3 z4:List Int}{aL aN aG aE aR:Addr}(e1 e2 e3 e4 e5 e6 e7 e8 e9 e10 e11 e12 y1 y2 jr p1 p2 p3 p4:Int)(w:World)(he:EnvX w aL aN aG aE aR)(h1:aw w a1 n1 c1 z1)(h2:aw w a2 n2 c2 z2)(h3:aw w a3 n3 c3 z3)(h4:aw w a4 n4 c4 z4):
  Rt 160 #[.agg #[.int .i64 e1,.int .i64 e2,.int .i64 e3,.int .i64 e4,.int .i64 e5,.int .i64 e6,.int .i64 e7,.int .i64 e8,.int .i64 e9,.int .i64 e10,.int .i64 e11,.int .i64 e12,.int .i64 y1,.int .i64 y2,.int .i64 jr],.agg #[.int .i64 p1,.int .i64 p2,.int .i64 p3,.int .i64 p4,.slice a1 n1 c1,.slice a2 n2 c2,.slice a3 n3 c3,.slice a4 n4 c4]] w (.bool (decide ((M.Pf.rows (⟨(p1,p2),(p3,p4),z1,z2,z3,z4⟩:M.Pf):Int)=jr)&&(decide ((p1,p2)=(y1,y2))&&M.acc ⟨⟨e1,e2,e3,e4,e5,e6⟩,⟨e7,e8,e9,e10,e11,e12⟩⟩ (⟨(p1,p2),(p3,p4),z1,z2,z3,z4⟩:M.Pf)))):=by
 have HB:H9 (m1 w ((w.alloc (.cells (eF e1 e2 e3 e4 e5 e6 e7 e8 e9 e10 e11 e12 y1 y2 jr).toArray 209)).alloc (.cells (bp p1 p2 p3 p4 a1 n1 c1 a2 n2 c2 a3 n3 c3 a4 n4 c4).toArray 35))):=((m5 _ _).alloc (m3 _) _).alloc (by simp) _;have HP:H9 (au ((w.alloc (.cells (eF e1 e2 e3 e4 e5 e6 e7 e8 e9 e10 e11 e12 y1 y2 jr).toArray 209)).alloc (.cells (bp p1 p2 p3 p4 a1 n1 c1 a2 n2 c2 a3 n3 c3 a4 n4 c4).toArray 35)) w.heap.size (eF e1 e2 e3 e4 e5 e6 e7 e8 e9 e10 e11 e12 y1 y2 jr)):=(aO _ _ _).alloc _;have HF:H9 (au ((w.alloc (.cells (eF e1 e2 e3 e4 e5 e6 e7 e8 e9 e10 e11 e12 y1 y2 jr).toArray 209)).alloc (.cells (bp p1 p2 p3 p4 a1 n1 c1 a2 n2 c2 a3 n3 c3 a4 n4 c4).toArray 35)) (w.heap.size+1) (bp p1 p2 p3 p4 a1 n1 c1 a2 n2 c2 a3 n3 c3 a4 n4 c4)):=ba _ _ _ _;have C1:=fun W (hW:Below ((w.alloc (.cells (eF e1 e2 e3 e4 e5 e6 e7 e8 e9 e10 e11 e12 y1 y2 jr).toArray 209)).alloc (.cells (bp p1 p2 p3 p4 a1 n1 c1 a2 n2 c2 a3 n3 c3 a4 n4 c4).toArray 35)).heap.size ((w.alloc (.cells (eF e1 e2 e3 e4 e5 e6 e7 e8 e9 e10 e11 e12 y1 y2 jr).toArray 209)).alloc (.cells (bp p1 p2 p3 p4 a1 n1 c1 a2 n2 c2 a3 n3 c3 a4 n4 c4).toArray 35)) W)=>j9 p1 p2 p3 p4 W ((he.env.below HB.o).below hW) ((h1.below HB.o).below hW) ((h2.below HB.o).below hW) ((h3.below HB.o).below hW) ((h4.below HB.o).below hW);have C2:=fun W (hW:Below ((w.alloc (.cells (eF e1 e2 e3 e4 e5 e6 e7 e8 e9 e10 e11 e12 y1 y2 jr).toArray 209)).alloc (.cells (bp p1 p2 p3 p4 a1 n1 c1 a2 n2 c2 a3 n3 c3 a4 n4 c4).toArray 35)).heap.size ((w.alloc (.cells (eF e1 e2 e3 e4 e5 e6 e7 e8 e9 e10 e11 e12 y1 y2 jr).toArray 209)).alloc (.cells (bp p1 p2 p3 p4 a1 n1 c1 a2 n2 c2 a3 n3 c3 a4 n4 c4).toArray 35)) W)=>iZ ⟨⟨e1,e2,e3,e4,e5,e6⟩,⟨e7,e8,e9,e10,e11,e12⟩⟩ p1 p2 p3 p4 W ((he.below HB.o).below hW) ((h1.below HB.o).below hW) ((h2.below HB.o).below hW) ((h3.below HB.o).below hW) ((h4.below HB.o).below hW);generalize M.Pf.rows (⟨(p1,p2),(p3,p4),z1,z2,z3,z4⟩:M.Pf)=Ca at *;generalize M.acc ⟨⟨e1,e2,e3,e4,e5,e6⟩,⟨e7,e8,e9,e10,e11,e12⟩⟩ (⟨(p1,p2),(p3,p4),z1,z2,z3,z4⟩:M.Pf)=oa at *;dsimp only[da]at C2;clear he h1 h2 h3 h4;by_cases hr:(Ca:Int)=jr
 ·
  by_cases hs:p1=y1∧p2=y2
  ·
   obtain⟨rfl,rfl⟩:=hs;subst hr;have e9:(decide (((Ca:Nat):Int)=(Ca:Int))&&(decide ((p1,p2)=(p1,p2))&&oa))=oa:=(by simp);rw[e9];clear e9;go_enter func160,ntmps160;(go_wp2_with fail);generalize((w.alloc (.cells (eF e1 e2 e3 e4 e5 e6 e7 e8 e9 e10 e11 e12 p1 p2 (Ca:Nat)).toArray 209)).alloc (.cells (bp p1 p2 p3 p4 a1 n1 c1 a2 n2 c2 a3 n3 c3 a4 n4 c4).toArray 35))=wa at *;generalize w.heap.size+1=fb at *;generalize w.heap.size=pb at HP ⊢;refine cB wa none (by kernel_rfl) fun hHeld=>?_;have Ba:H9 (m1 wa wa.drew):=(m5 _ _).drew;generalize wa.drew=Ga at *;refine wpAnyH_take (i:=0) (v:=.agg ((bp p1 p2 p3 p4 a1 n1 c1 a2 n2 c2 a3 n3 c3 a4 n4 c4):List Value).toArray) rfl (by kernel_rfl) (by kernel_rfl) (by kernel_rfl) (fun _ _ _ h=>h) (uM (by kernel_rfl) 35 (.tmp 3) (by kernel_rfl) fb 0 (by kernel_rfl) ((bp p1 p2 p3 p4 a1 n1 c1 a2 n2 c2 a3 n3 c3 a4 n4 c4):List Value) _ (fun W hW=>(HF.o.grown hW (by simp)).row) underlying35 rfl (by kernel_rfl)) (by assumption) ?_;refine tk 2 (.pointer (some ⟨pb,14,none⟩)) ?_ ?_
   ·intro wq Aa;go_simp
   refine tk 3 (it (Ca:Nat)) ?_ ?_
   ·intro wq Aa;have c0:=(HP.o.grown Aa (by simp)).c 14;go_simp
   refine aX 1 fun Kk hK=>?_;go_simp;refine(C1 Ga Ba.o).mono ?_;rintro e Ea ⟨rfl,hb⟩;go_simp;have Fa:=aH hHeld hb;have Da:=Ba.t hb;refine hK.out _ _ Fa (fun hzz=>?_);clear hzz hK Kk hb;refine tk 4 (.bool true) ?_ ?_
   ·intro wq Aa;go_simp
   refine tk 5 (.bool true) ?_ ?_
   ·intro wq Aa;go_simp
   refine tk 6 (.pointer (some ⟨fb,0,none⟩)) ?_ ?_
   ·intro wq Aa;go_simp
   refine tk 7 (.agg #[it p1,it p2]) ?_ ?_
   ·intro wq Aa;have c0:=(HF.o.grown Aa (by simp)).c 0;have c1:=(HF.o.grown Aa (by simp)).c 1;go_simp
   refine tk 8 (.pointer (some ⟨pb,12,none⟩)) ?_ ?_
   ·intro wq Aa;go_simp
   refine tk 9 (.agg #[it p1,it p2]) ?_ ?_
   ·intro wq Aa;have c0:=(HP.o.grown Aa (by simp)).c 12;have c1:=(HP.o.grown Aa (by simp)).c 13;go_simp
   refine tk 10 (.bool true) ?_ ?_
   ·intro wq Aa;go_simp
   refine tk 11 (.bool true) ?_ ?_
   ·intro wq Aa;go_simp
   refine tk 12 (.bool true) ?_ ?_
   ·intro wq Aa;go_simp
   refine tk 13 (.pointer (some ⟨pb,0,none⟩)) ?_ ?_
   ·intro wq Aa;go_simp
   refine wpAnyH_take (i:=14) (v:=.agg ((co e1 e2 e3 e4 e5 e6 e7 e8 e9 e10 e11 e12):List Value).toArray) rfl (by kernel_rfl) (by kernel_rfl) (by kernel_rfl) (fun _ _ _ h=>h) (uM (by kernel_rfl) 31 (.tmp 18) (by kernel_rfl) pb 0 (by kernel_rfl) ((co e1 e2 e3 e4 e5 e6 e7 e8 e9 e10 e11 e12):List Value) _ (fun W hW=>au.mid (HP.o.grown hW (by simp)) 0 12) underlying31 rfl (by kernel_rfl)) (by assumption) ?_;refine wpAnyH_take (i:=15) (v:=.agg ((bp p1 p2 p3 p4 a1 n1 c1 a2 n2 c2 a3 n3 c3 a4 n4 c4):List Value).toArray) rfl (by kernel_rfl) (by kernel_rfl) (by kernel_rfl) (fun _ _ _ h=>h) (uM (by kernel_rfl) 35 (.tmp 3) (by kernel_rfl) fb 0 (by kernel_rfl) ((bp p1 p2 p3 p4 a1 n1 c1 a2 n2 c2 a3 n3 c3 a4 n4 c4):List Value) _ (fun W hW=>(HF.o.grown hW (by simp)).row) underlying35 rfl (by kernel_rfl)) (by assumption) ?_;refine aX 16 fun Kk hK=>?_;go_simp;refine(C2 Ea Da.o).mono ?_;rintro e Ia ⟨rfl,hb⟩;go_simp;have Ja:=aH Fa hb;have Ka:=Da.t hb;refine hK.out _ _ Ja (fun hzz=>?_);clear hzz hK Kk hb;refine tk 17 (.bool oa) ?_ ?_
   ·intro wq Aa;go_simp
   refine tk 18 (.bool oa) ?_ ?_
   ·intro wq Aa;go_simp
   refine bg ?_;go_simp;have Ha:=Hd (HB.o.trans (Ka.o.mono HB.o.size));go_wp2;go_ret;exact⟨rfl,Ha.o⟩
  ·
   have e9:(decide (((Ca:Nat):Int)=jr)&&(decide ((p1,p2)=(y1,y2))&&oa))=false:=(by simp[Prod.mk.injEq,hs]);rw[e9];clear e9;subst hr;have La:=hs;clear hs;go_enter func160,ntmps160;(go_wp2_with fail);generalize((w.alloc (.cells (eF e1 e2 e3 e4 e5 e6 e7 e8 e9 e10 e11 e12 y1 y2 (Ca:Nat)).toArray 209)).alloc (.cells (bp p1 p2 p3 p4 a1 n1 c1 a2 n2 c2 a3 n3 c3 a4 n4 c4).toArray 35))=wa at *;generalize w.heap.size+1=fb at *;generalize w.heap.size=pb at HP ⊢;refine cB wa none (by kernel_rfl) fun hHeld=>?_;have Ba:H9 (m1 wa wa.drew):=(m5 _ _).drew;generalize wa.drew=Ga at *;refine wpAnyH_take (i:=0) (v:=.agg ((bp p1 p2 p3 p4 a1 n1 c1 a2 n2 c2 a3 n3 c3 a4 n4 c4):List Value).toArray) rfl (by kernel_rfl) (by kernel_rfl) (by kernel_rfl) (fun _ _ _ h=>h) (uM (by kernel_rfl) 35 (.tmp 3) (by kernel_rfl) fb 0 (by kernel_rfl) ((bp p1 p2 p3 p4 a1 n1 c1 a2 n2 c2 a3 n3 c3 a4 n4 c4):List Value) _ (fun W hW=>(HF.o.grown hW (by simp)).row) underlying35 rfl (by kernel_rfl)) (by assumption) ?_;refine tk 2 (.pointer (some ⟨pb,14,none⟩)) ?_ ?_
   ·intro wq Aa;go_simp
   refine tk 3 (it (Ca:Nat)) ?_ ?_
   ·intro wq Aa;have c0:=(HP.o.grown Aa (by simp)).c 14;go_simp
   refine aX 1 fun Kk hK=>?_;go_simp;refine(C1 Ga Ba.o).mono ?_;rintro e Ea ⟨rfl,hb⟩;go_simp;have Fa:=aH hHeld hb;have Da:=Ba.t hb;refine hK.out _ _ Fa (fun hzz=>?_);clear hzz hK Kk hb;refine tk 4 (.bool true) ?_ ?_
   ·intro wq Aa;go_simp
   refine tk 5 (.bool true) ?_ ?_
   ·intro wq Aa;go_simp
   refine tk 6 (.pointer (some ⟨fb,0,none⟩)) ?_ ?_
   ·intro wq Aa;go_simp
   refine tk 7 (.agg #[it p1,it p2]) ?_ ?_
   ·intro wq Aa;have c0:=(HF.o.grown Aa (by simp)).c 0;have c1:=(HF.o.grown Aa (by simp)).c 1;go_simp
   refine tk 8 (.pointer (some ⟨pb,12,none⟩)) ?_ ?_
   ·intro wq Aa;go_simp
   refine tk 9 (.agg #[it y1,it y2]) ?_ ?_
   ·intro wq Aa;have c0:=(HP.o.grown Aa (by simp)).c 12;have c1:=(HP.o.grown Aa (by simp)).c 13;go_simp
   refine tk 10 (.bool false) ?_ ?_
   ·intro wq Aa;go_simp;exact fun q1 q2=>La ⟨q1,q2⟩
   refine tk 11 (.bool false) ?_ ?_
   ·intro wq Aa;go_simp
   refine tk 12 (.bool false) ?_ ?_
   ·intro wq Aa;go_simp
   refine sk 13 ?_;refine sk 14 ?_;refine sk 15 ?_;refine sk 16 ?_;refine tk 17 (.bool false) ?_ ?_
   ·intro wq Aa;go_simp
   refine tk 18 (.bool false) ?_ ?_
   ·intro wq Aa;go_simp
   refine bg ?_;go_simp;have Ha:=Hd (HB.o.trans (Da.o.mono HB.o.size));go_wp2;go_ret;exact⟨rfl,Ha.o⟩
 ·
  have e9:(decide (((Ca:Nat):Int)=jr)&&(decide ((p1,p2)=(y1,y2))&&oa))=false:=(by simp[hr]);rw[e9];have gr:((Ca:Int)==jr)=false:=(by simp[hr]);clear e9 hr;go_enter func160,ntmps160;(go_wp2_with fail);generalize((w.alloc (.cells (eF e1 e2 e3 e4 e5 e6 e7 e8 e9 e10 e11 e12 y1 y2 jr).toArray 209)).alloc (.cells (bp p1 p2 p3 p4 a1 n1 c1 a2 n2 c2 a3 n3 c3 a4 n4 c4).toArray 35))=wa at *;generalize w.heap.size+1=fb at *;generalize w.heap.size=pb at HP ⊢;refine cB wa none (by kernel_rfl) fun hHeld=>?_;have Ba:H9 (m1 wa wa.drew):=(m5 _ _).drew;generalize wa.drew=Ga at *;refine wpAnyH_take (i:=0) (v:=.agg ((bp p1 p2 p3 p4 a1 n1 c1 a2 n2 c2 a3 n3 c3 a4 n4 c4):List Value).toArray) rfl (by kernel_rfl) (by kernel_rfl) (by kernel_rfl) (fun _ _ _ h=>h) (uM (by kernel_rfl) 35 (.tmp 3) (by kernel_rfl) fb 0 (by kernel_rfl) ((bp p1 p2 p3 p4 a1 n1 c1 a2 n2 c2 a3 n3 c3 a4 n4 c4):List Value) _ (fun W hW=>(HF.o.grown hW (by simp)).row) underlying35 rfl (by kernel_rfl)) (by assumption) ?_;refine tk 2 (.pointer (some ⟨pb,14,none⟩)) ?_ ?_
  ·intro wq Aa;go_simp
  refine tk 3 (it jr) ?_ ?_
  ·intro wq Aa;have c0:=(HP.o.grown Aa (by simp)).c 14;go_simp
  refine aX 1 fun Kk hK=>?_;go_simp;refine(C1 Ga Ba.o).mono ?_;rintro e Ea ⟨rfl,hb⟩;go_simp;have Fa:=aH hHeld hb;have Da:=Ba.t hb;refine hK.out _ _ Fa (fun hzz=>?_);clear hzz hK Kk hb;refine tk 4 (.bool false) ?_ ?_
  ·intro wq Aa;go_simp
  refine tk 5 (.bool false) ?_ ?_
  ·intro wq Aa;go_simp
  refine sk 6 ?_;refine sk 7 ?_;refine sk 8 ?_;refine sk 9 ?_;refine sk 10 ?_;refine tk 11 (.bool false) ?_ ?_
  ·intro wq Aa;go_simp
  refine tk 12 (.bool false) ?_ ?_
  ·intro wq Aa;go_simp
  refine sk 13 ?_;refine sk 14 ?_;refine sk 15 ?_;refine sk 16 ?_;refine tk 17 (.bool false) ?_ ?_
  ·intro wq Aa;go_simp
  refine tk 18 (.bool false) ?_ ?_
  ·intro wq Aa;go_simp
  refine bg ?_;go_simp;have Ha:=Hd (HB.o.trans (Da.o.mono HB.o.size));go_wp2;go_ret;exact⟨rfl,Ha.o⟩
end Go.Proofs.YtjcjonncaknhnaaGreatDoor
