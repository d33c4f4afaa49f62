import Derived.Test.YthjhakdpikdoeaaGreatDoorNJ
set_option linter.unusedVariables false
set_option maxHeartbeats 8000000
set_option maxRecDepth 100000
namespace Go.Proofs.YthjhakdpikdoeaaGreatDoor
open Proofs.Tryz
open Go.RowKit
structure S7 (K q P:Nat) (w:World) (X:Nat) (x:M.G16) (b:Option Addr) (n:Nat) (u:World):Prop where
 rd:RdTo u q P
 bu:But q w u
 qw:q<w.heap.size
 cR:Cl u (w.heap.size+1) 31 (mc M.g16z none 0)
 cX:Cl u X 31 (mc x b n)
 wX:w.heap.size+1<X
 ms:MsI K u x b n
section
variable {K K' q P P':Nat} {w u u':World} {X:Nat} {x x':M.G16} {b:Option Addr} {n:Nat}
theorem S7.call (h:S7 K q P w X x b n u) (hr:RdTo u' q P') (hb:But q u u'):S7 K q P' w X x b n u':=by
 have:=h.qw;have:=h.wX;exact ⟨hr,h.bu.trans hb,h.qw,(hb.block _ h.cR.lt om_).trans h.cR,(hb.block _ h.cX.lt om_).trans h.cX,h.wX,h.ms.but h.rd hb⟩
theorem S7.later (h:S7 K q P w X x b n u) (hb:Below u.heap.size u u'):S7 K q P w X x b n u':=h.call (h.rd.later hb) (But.of_below hb)
theorem S7.rdm (h:S7 K q P w X x b n u) (hp:P<=P'):S7 K q P' w X x b n u:=h.call (h.rd.mono hp) (But.refl _ _)
theorem S7.on (h:S7 K q P w X x b n u) (ho:OnB X u u') {b':Option Addr} {n':Nat} (hX:Cl u' X 31 (mc x' b' n')) (hm:MsI K' u' x' b' n'):S7 K' q P w X x' b' n' u':=by
 have:=h.qw;have h1:=h.wX;exact ⟨h.rd.laterB (ho.below lr_) om_,h.bu.laterB (ho.below lr_) om_,h.qw,h.cR.on ho om_,hX,h.wX,hm⟩
theorem S7.set (h:S7 K q P w X x b n u) (j:Nat) (y:Value) (e:(mc x b n).set j y=mc x' b n) (hle:x'.le K') (hls:x'.ls=x.ls):S7 K' q P w X x' b n (u.setCell ⟨X,j,none⟩ y):=
 h.on (on_set _ _ _ _) (e▸h.cX.set j y) ⟨hle,by rw [hls];exact lks_on h.ms.at' h.ms.ns h.cX (fun b e=>by cases e) (on_set _ _ _ _),by rw [hls];exact h.ms.ns⟩
theorem S7.put (h:S7 K q P w X x b n u) {b':Option Addr} {n':Nat} {ls':List M.L4} (hat:M.LksAt u b' ls') (hns:M.NS b' n' ls') (hle:({ x with ls:=ls' }:M.G16).le K'):S7 K' q P w X { x with ls:=ls' } b' n' (u.setCell ⟨X,8,none⟩ (.slice b' ls'.length n')):=
 h.on (on_set _ _ _ _) (h.cX.set 8 _) ⟨hle,lks_on hat hns h.cX (fun b e=>by cases e) (on_set _ _ _ _),hns⟩
theorem fin19 (h:S7 K q P w X x b n u) (ho:OnB (w.heap.size+1) u u') (hC:Cl u' (w.heap.size+1) 31 (mc x b n)) (hp:P<=P') (tm:Array Value) (h4:tm[4]?=some (.pointer (some ⟨w.heap.size+1,0,none⟩))):bodyPost prog f19 (Is16 K q P' w) .ret ⟨tm,[]⟩ u':=by
 have:=h.qw;exact bodyPost_ret (v:=.agg (mc x b n).toArray) (M.results_blk (P:=prog) (ty:=31) rfl _ u' (w.heap.size+1) (mc x b n) _ (by simp [h4]) hC.blk underlying31 rfl kr_) rfl ⟨⟨x,b,n,rfl,h.ms.on h.cR (fun b e=>by cases e) ho⟩,(h.rd.laterB (ho.below lr_) om_).mono hp,h.bu.laterB (ho.below lr_) om_⟩
end
def intZ (v:Value):Bool:=match v with | .int .i64 _=>true | _=>false
theorem lit_z (l:List Value) (h:l.all intZ=true) {r:Int} (h0:0<=r) (h1:r<(l.length:Int)):∃ z:Int,l[r.toNat]?=some (.int .i64 z):=by
 have hl:r.toNat<l.length:=om_;have hm:=List.all_eq_true.1 h _ (List.getElem_mem hl);unfold intZ at hm;split at hm
 · rename_i z hz
   exact ⟨z,by rw [List.getElem?_eq_getElem hl,hz]⟩
 cases hm
theorem c19 (q P:Nat) (x:M.G16) (b:Option Addr) (n:Nat) (w:World) (hp:P<=70000) (hr:RdTo w q P) (hm:MsI 999999 w x b n):
 Calls prog 19 #[.pointer (some ⟨q,0,none⟩),.agg (mc x b n).toArray] w (Is16 1000000 q (P+20) w):=by
 have HR:=hdI hr;have hq:=hr.lt;have HM:=hdI hm;clear hr hm;show Calls prog 19 #[.pointer (some ⟨q,0,none⟩),.agg #[.int .i64 x.kd,.int .i64 x.to,.int .i64 x.fr,.int .i64 x.ep,.int .i64 x.ed,.string x.km.nm,.string x.km.tl,.string x.km.ar,.slice b x.ls.length n,.int .i64 x.ct,.bool x.tn.over,.int .i64 x.tn.cd,.string x.tn.tx,.bool x.tn.has,.string x.tn.nm,.int .i64 x.tn.st]] w _;go_enter func19,ntmps19
 go_wp2_with fail
 obtain ⟨y0,hy⟩:∃ y:World,y=((w.alloc (.cells (mc x b n).toArray 31)).alloc (.cells (mc M.g16z none 0).toArray 31)).alloc (.cells (mc x b n).toArray 31):=⟨_,rfl⟩;have hy':=hy;simp only [mc,M.g16z,M.t6z,m3z,List.length_nil] at hy';rw [<- hy'];have b0:Below w.heap.size w y0:=by rw [hy];exact (by2 _ _ _).alloc so_ _
 have H0:Hid (S7 999999 q P w (w.heap.size+1+1) x b n y0):=⟨HR.out.later b0,But.of_below b0,hq,by rw [hy];exact cl_old (cl_at sm_) _,by rw [hy];exact cl_at sm_,om_,HM.out.below b0⟩;have hsl:=HM.out.le;clear hy hy' HR HM b0;generalize Value.agg #[.int .i64 x.kd,.int .i64 x.to,.int .i64 x.fr,.int .i64 x.ep,.int .i64 x.ed,.string x.km.nm,.string x.km.tl,.string x.km.ar,.slice b x.ls.length n,.int .i64 x.ct,.bool x.tn.over,.int .i64 x.tn.cd,.string x.tn.tx,.bool x.tn.has,.string x.tn.nm,.int .i64 x.tn.st]=T1;refine (pickT y0 q P 11 om_ om_ om_ H0.out.rd).mono ?_;rintro e y1 ⟨⟨r,rfl,r0,r1⟩,hr,ho⟩;have H1:=hdI (H0.out.call hr ho.but);clear H0 hr ho;have hle:=le_mono hsl (show 999999<=1000000 by omega);have mark:True:=trivial;rcases (by omega:r=0\/r=1\/r=2\/r=3\/r=4\/r=5\/r=6\/r=7\/r=8\/r=9\/r=10) with h | h | h | h | h | h | h | h | h | h | h
 all_goals subst h
 case' inl=>
  go_wp2_with fail
  refine (pickT y1 q (P+1) 6 om_ om_ om_ H1.out.rd).mono ?_;rintro e y3 ⟨⟨r3,rfl,r30,r31⟩,hr,ho⟩;have H3:=hdI (H1.out.call hr ho.but);clear H1 hr ho;have c0:y3.cell? ⟨w.heap.size+1+1,0,none⟩=some (.int .i64 x.kd):=H3.out.cX.cell 0;have f0:=H3.out.cX.opn 0;have H8:=hdI (H3.out.set (x':={ x with kd:=r3 - 1 }) (K':=1000000) 0 (.int .i64 (r3 - 1)) rfl hle rfl);revert mark
 case' inr.inl=>
  go_wp2_with fail
  obtain ⟨y2,hy⟩:∃ y:World,y=y1.alloc (.cells #[.int .i64 0,.int .i64 1,.int .i64 5] 3):=⟨_,rfl⟩;rw [<- hy];have H2:Hid (S7 999999 q (P+1) w (w.heap.size+1+1) x b n y2):=(by rw [hy];exact H1.out.later bA);have C2:Hid (Cl y2 y1.heap.size 3 [.int .i64 0,.int .i64 1,.int .i64 5]):=by show Cl _ _ _ _;rw [hy];exact cl_new y1 _ 3
  have hq1:=H1.out.rd.lt;clear hy H1;refine (pickT y2 q (P+1) 3 om_ om_ om_ H2.out.rd).mono ?_;rintro e y3 ⟨⟨r3,rfl,r30,r31⟩,hr,ho⟩;have H3:=hdI (H2.out.call hr ho.but);have C3:Hid (Cl y3 y1.heap.size 3 [.int .i64 0,.int .i64 1,.int .i64 5]):=(ho.block _ om_).trans C2.out;clear H2 C2 hr ho;obtain ⟨zz,hz⟩:=lit_z [.int .i64 0,.int .i64 1,.int .i64 5] dc_ r30 (by simpa using r31);have cz:=(C3.out.cell r3.toNat).trans hz;clear C3;have c1:y3.cell? ⟨w.heap.size+1+1,1,none⟩=some (.int .i64 x.to):=H3.out.cX.cell 1;have f1:=H3.out.cX.opn 1;have H8:=hdI (H3.out.set (x':={ x with to:=zz }) (K':=1000000) 1 (.int .i64 zz) rfl hle rfl);revert mark
 case' inr.inr.inl=>
  go_wp2_with fail
  obtain ⟨y2,hy⟩:∃ y:World,y=y1.alloc (.cells #[.int .i64 0,.int .i64 1,.int .i64 5] 3):=⟨_,rfl⟩;rw [<- hy];have H2:Hid (S7 999999 q (P+1) w (w.heap.size+1+1) x b n y2):=(by rw [hy];exact H1.out.later bA);have C2:Hid (Cl y2 y1.heap.size 3 [.int .i64 0,.int .i64 1,.int .i64 5]):=by show Cl _ _ _ _;rw [hy];exact cl_new y1 _ 3
  have hq1:=H1.out.rd.lt;clear hy H1;refine (pickT y2 q (P+1) 3 om_ om_ om_ H2.out.rd).mono ?_;rintro e y3 ⟨⟨r3,rfl,r30,r31⟩,hr,ho⟩;have H3:=hdI (H2.out.call hr ho.but);have C3:Hid (Cl y3 y1.heap.size 3 [.int .i64 0,.int .i64 1,.int .i64 5]):=(ho.block _ om_).trans C2.out;clear H2 C2 hr ho;obtain ⟨zz,hz⟩:=lit_z [.int .i64 0,.int .i64 1,.int .i64 5] dc_ r30 (by simpa using r31);have cz:=(C3.out.cell r3.toNat).trans hz;clear C3;have c2:y3.cell? ⟨w.heap.size+1+1,2,none⟩=some (.int .i64 x.fr):=H3.out.cX.cell 2;have f2:=H3.out.cX.opn 2;have H8:=hdI (H3.out.set (x':={ x with fr:=zz }) (K':=1000000) 2 (.int .i64 zz) rfl hle rfl);revert mark
 case' inr.inr.inr.inl=>
  go_wp2_with fail
  obtain ⟨y2,hy⟩:∃ y:World,y=y1.alloc (.cells #[.int .i64 0,.int .i64 1,.int .i64 201] 3):=⟨_,rfl⟩;rw [<- hy];have H2:Hid (S7 999999 q (P+1) w (w.heap.size+1+1) x b n y2):=(by rw [hy];exact H1.out.later bA);have C2:Hid (Cl y2 y1.heap.size 3 [.int .i64 0,.int .i64 1,.int .i64 201]):=by show Cl _ _ _ _;rw [hy];exact cl_new y1 _ 3
  have hq1:=H1.out.rd.lt;clear hy H1;refine (pickT y2 q (P+1) 3 om_ om_ om_ H2.out.rd).mono ?_;rintro e y3 ⟨⟨r3,rfl,r30,r31⟩,hr,ho⟩;have H3:=hdI (H2.out.call hr ho.but);have C3:Hid (Cl y3 y1.heap.size 3 [.int .i64 0,.int .i64 1,.int .i64 201]):=(ho.block _ om_).trans C2.out;clear H2 C2 hr ho;obtain ⟨zz,hz⟩:=lit_z [.int .i64 0,.int .i64 1,.int .i64 201] dc_ r30 (by simpa using r31);have cz:=(C3.out.cell r3.toNat).trans hz;clear C3;have c3:y3.cell? ⟨w.heap.size+1+1,3,none⟩=some (.int .i64 x.ep):=H3.out.cX.cell 3;have f3:=H3.out.cX.opn 3;have H8:=hdI (H3.out.set (x':={ x with ep:=zz }) (K':=1000000) 3 (.int .i64 zz) rfl hle rfl);revert mark
 case' inr.inr.inr.inr.inl=>
  go_wp2_with fail
  obtain ⟨y2,hy⟩:∃ y:World,y=y1.alloc (.cells #[.int .i64 (-1),.int .i64 0,.int .i64 1001] 3):=⟨_,rfl⟩;rw [<- hy];have H2:Hid (S7 999999 q (P+1) w (w.heap.size+1+1) x b n y2):=(by rw [hy];exact H1.out.later bA);have C2:Hid (Cl y2 y1.heap.size 3 [.int .i64 (-1),.int .i64 0,.int .i64 1001]):=by show Cl _ _ _ _;rw [hy];exact cl_new y1 _ 3
  have hq1:=H1.out.rd.lt;clear hy H1;refine (pickT y2 q (P+1) 3 om_ om_ om_ H2.out.rd).mono ?_;rintro e y3 ⟨⟨r3,rfl,r30,r31⟩,hr,ho⟩;have H3:=hdI (H2.out.call hr ho.but);have C3:Hid (Cl y3 y1.heap.size 3 [.int .i64 (-1),.int .i64 0,.int .i64 1001]):=(ho.block _ om_).trans C2.out;clear H2 C2 hr ho;obtain ⟨zz,hz⟩:=lit_z [.int .i64 (-1),.int .i64 0,.int .i64 1001] dc_ r30 (by simpa using r31);have cz:=(C3.out.cell r3.toNat).trans hz;clear C3;have c4:y3.cell? ⟨w.heap.size+1+1,4,none⟩=some (.int .i64 x.ed):=H3.out.cX.cell 4;have f4:=H3.out.cX.opn 4;have H8:=hdI (H3.out.set (x':={ x with ed:=zz }) (K':=1000000) 4 (.int .i64 zz) rfl hle rfl);revert mark
 case' inr.inr.inr.inr.inr.inl=>
  go_wp2_with fail
  obtain ⟨y2,hy⟩:∃ y:World,y=y1.alloc (.cells #[.string ⟨#[]⟩,.string ⟨#[116,48]⟩,.string ⟨#[120,32,121]⟩] 9):=⟨_,rfl⟩;rw [<- hy];have H2:Hid (S7 999999 q (P+1) w (w.heap.size+1+1) x b n y2):=(by rw [hy];exact H1.out.later bA);have C2:Hid (Cl y2 y1.heap.size 9 [.string ⟨#[]⟩,.string ⟨#[116,48]⟩,.string ⟨#[120,32,121]⟩]):=by show Cl _ _ _ _;rw [hy];exact cl_new y1 _ 9
  have hq1:=H1.out.rd.lt;clear hy H1;refine (pickT y2 q (P+1) 3 om_ om_ om_ H2.out.rd).mono ?_;rintro e y3 ⟨⟨r3,rfl,r30,r31⟩,hr,ho⟩;have H3:=hdI (H2.out.call hr ho.but);have C3:Hid (Cl y3 y1.heap.size 9 [.string ⟨#[]⟩,.string ⟨#[116,48]⟩,.string ⟨#[120,32,121]⟩]):=(ho.block _ om_).trans C2.out;clear H2 C2 hr ho;obtain ⟨zz,hz,hzs⟩:=lit_str [.string ⟨#[]⟩,.string ⟨#[116,48]⟩,.string ⟨#[120,32,121]⟩] 10 dc_ r30 (by simpa using r31);have cz:=(C3.out.cell r3.toNat).trans hz;clear C3;have c6:y3.cell? ⟨w.heap.size+1+1,6,none⟩=some (.string x.km.tl):=H3.out.cX.cell 6;have f6:=H3.out.cX.opn 6;have H8:=hdI (H3.out.set (x':={ x with km:={ x.km with tl:=zz } }) (K':=1000000) 6 (.string zz) rfl ⟨⟨hle.1.1,by show zz.size<=_;omega,hle.1.2.2⟩,hle.2⟩ rfl);revert mark
 case' inr.inr.inr.inr.inr.inr.inl=>
  have c8:y1.cell? ⟨w.heap.size+1+1,8,none⟩=some (.slice b x.ls.length n):=H1.out.cX.cell 8;have f8:=H1.out.cX.opn 8
  go_wp2_with fail
  refine (c51 q (P+1) b n x.ls y1 om_ H1.out.rd hsl.2.1.1 hsl.2.1.2 H1.out.ms.at').mono ?_;rintro e y3 ⟨⟨b3,n3,ls3,rfl,hl3,hs3,hat3,hns3⟩,hr,ho⟩;have H3:=hdI (H1.out.call hr ho);have HA3:=hdI hat3;clear H1 hr ho c8 f8 hat3;have c8:y3.cell? ⟨w.heap.size+1+1,8,none⟩=some (.slice b x.ls.length n):=H3.out.cX.cell 8;have f8:=H3.out.cX.opn 8;have H8:=hdI (H3.out.put (K':=1000000) HA3.out hns3 ⟨hle.1,⟨hl3,hs3⟩,hle.2.2⟩);revert mark
 case' inr.inr.inr.inr.inr.inr.inr.inl=>
  go_wp2_with fail
  obtain ⟨y2,hy⟩:∃ y:World,y=y1.alloc (.cells #[.int .i64 (-1),.int .i64 0,.int .i64 15,.int .i64 16] 3):=⟨_,rfl⟩;rw [<- hy];have H2:Hid (S7 999999 q (P+1) w (w.heap.size+1+1) x b n y2):=(by rw [hy];exact H1.out.later bA);have C2:Hid (Cl y2 y1.heap.size 3 [.int .i64 (-1),.int .i64 0,.int .i64 15,.int .i64 16]):=by show Cl _ _ _ _;rw [hy];exact cl_new y1 _ 3
  have hq1:=H1.out.rd.lt;clear hy H1;refine (pickT y2 q (P+1) 4 om_ om_ om_ H2.out.rd).mono ?_;rintro e y3 ⟨⟨r3,rfl,r30,r31⟩,hr,ho⟩;have H3:=hdI (H2.out.call hr ho.but);have C3:Hid (Cl y3 y1.heap.size 3 [.int .i64 (-1),.int .i64 0,.int .i64 15,.int .i64 16]):=(ho.block _ om_).trans C2.out;clear H2 C2 hr ho;obtain ⟨zz,hz⟩:=lit_z [.int .i64 (-1),.int .i64 0,.int .i64 15,.int .i64 16] dc_ r30 (by simpa using r31);have cz:=(C3.out.cell r3.toNat).trans hz;clear C3;have c9:y3.cell? ⟨w.heap.size+1+1,9,none⟩=some (.int .i64 x.ct):=H3.out.cX.cell 9;have f9:=H3.out.cX.opn 9;have H8:=hdI (H3.out.set (x':={ x with ct:=zz }) (K':=1000000) 9 (.int .i64 zz) rfl hle rfl);revert mark
 case' inr.inr.inr.inr.inr.inr.inr.inr.inl=>
  have H3:=H1;clear H1;have c10:y1.cell? ⟨w.heap.size+1+1,10,none⟩=some (.bool x.tn.over):=H3.out.cX.cell 10;have f10:=H3.out.cX.opn 10;have H8:=hdI (H3.out.set (x':={ x with tn:={ x.tn with over:=!x.tn.over } }) (K':=1000000) 10 (.bool (!x.tn.over)) rfl hle rfl);revert mark
 case' inr.inr.inr.inr.inr.inr.inr.inr.inr.inl=>
  go_wp2_with fail
  obtain ⟨y2,hy⟩:∃ y:World,y=y1.alloc (.cells #[.int .i64 (-1),.int .i64 200,.int .i64 201] 3):=⟨_,rfl⟩;rw [<- hy];have H2:Hid (S7 999999 q (P+1) w (w.heap.size+1+1) x b n y2):=(by rw [hy];exact H1.out.later bA);have C2:Hid (Cl y2 y1.heap.size 3 [.int .i64 (-1),.int .i64 200,.int .i64 201]):=by show Cl _ _ _ _;rw [hy];exact cl_new y1 _ 3
  have hq1:=H1.out.rd.lt;clear hy H1;refine (pickT y2 q (P+1) 3 om_ om_ om_ H2.out.rd).mono ?_;rintro e y3 ⟨⟨r3,rfl,r30,r31⟩,hr,ho⟩;have H3:=hdI (H2.out.call hr ho.but);have C3:Hid (Cl y3 y1.heap.size 3 [.int .i64 (-1),.int .i64 200,.int .i64 201]):=(ho.block _ om_).trans C2.out;clear H2 C2 hr ho;obtain ⟨zz,hz⟩:=lit_z [.int .i64 (-1),.int .i64 200,.int .i64 201] dc_ r30 (by simpa using r31);have cz:=(C3.out.cell r3.toNat).trans hz;clear C3;have c15:y3.cell? ⟨w.heap.size+1+1,15,none⟩=some (.int .i64 x.tn.st):=H3.out.cX.cell 15;have f15:=H3.out.cX.opn 15;have H8:=hdI (H3.out.set (x':={ x with tn:={ x.tn with st:=zz } }) (K':=1000000) 15 (.int .i64 zz) rfl hle rfl);revert mark
 case' inr.inr.inr.inr.inr.inr.inr.inr.inr.inr=>
  go_wp2_with fail
  obtain ⟨y2,hy⟩:∃ y:World,y=y1.alloc (.cells #[.string ⟨#[]⟩,.string ⟨#[97]⟩,.string ⟨#[120,32,121]⟩] 9):=⟨_,rfl⟩;rw [<- hy];have H2:Hid (S7 999999 q (P+1) w (w.heap.size+1+1) x b n y2):=(by rw [hy];exact H1.out.later bA);have C2:Hid (Cl y2 y1.heap.size 9 [.string ⟨#[]⟩,.string ⟨#[97]⟩,.string ⟨#[120,32,121]⟩]):=by show Cl _ _ _ _;rw [hy];exact cl_new y1 _ 9
  have hq1:=H1.out.rd.lt;clear hy H1;refine (pickT y2 q (P+1) 3 om_ om_ om_ H2.out.rd).mono ?_;rintro e y3 ⟨⟨r3,rfl,r30,r31⟩,hr,ho⟩;have H3:=hdI (H2.out.call hr ho.but);have C3:Hid (Cl y3 y1.heap.size 9 [.string ⟨#[]⟩,.string ⟨#[97]⟩,.string ⟨#[120,32,121]⟩]):=(ho.block _ om_).trans C2.out;clear H2 C2 hr ho;obtain ⟨zz,hz,hzs⟩:=lit_str [.string ⟨#[]⟩,.string ⟨#[97]⟩,.string ⟨#[120,32,121]⟩] 10 dc_ r30 (by simpa using r31);have cz:=(C3.out.cell r3.toNat).trans hz;clear C3;have c14:y3.cell? ⟨w.heap.size+1+1,14,none⟩=some (.string x.tn.nm):=H3.out.cX.cell 14;have f14:=H3.out.cX.opn 14;have H8:=hdI (H3.out.set (x':={ x with tn:={ x.tn with nm:=zz } }) (K':=1000000) 14 (.string zz) rfl ⟨hle.1,hle.2.1,hle.2.2.1,by show zz.size<=_;omega⟩ rfl);revert mark
 all_goals
  intro _;have CX:=H8.out.cX;generalize hV:mc _ _ _=V at CX;have CX:Hid (Cl _ (w.heap.size+1+1) 31 ([]++V)):=CX;have CR:Hid (Cl _ (w.heap.size+1) 31 ([]++mc M.g16z none 0)):=H8.out.cR;have VL:Hid (V.length=16):=by show _=_;rw [<- hV];rfl
  have V1:Hid (∀ v∈V,v.oneCell'=true):=by show ∀ v∈V,_;rw [<- hV];exact mc_one _ _ _
  have HV:=hdI hV;clear hV
  go_wp2_with (first | refine wp_ldm rfl (.tmp 5) rfl (B:=w.heap.size+1+1) (j:=0) rfl (pre:=[]) (t:=31) (vs:=V) (by with_reducible exact CX.out) VL.out rfl ?_ | (refine wp_stm rfl (.tmp 4) (.tmp 95) rfl (B:=w.heap.size+1) (j:=0) rfl (t:=31) (pre:=[]) (vs:=V) (xs:=mc M.g16z none 0) rfl (by with_reducible exact CR.out) VL.out rfl rfl V1.out rfl ?_;intro u8 C8 o8))
  exact fin19 H8.out o8 (by rw [<- HV.out] at C8;exact C8) om_ _ rfl
end Go.Proofs.YthjhakdpikdoeaaGreatDoor
