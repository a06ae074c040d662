/- What the functions are as code run by hand. -/
import Derived.Test.YtnpcmealdfapjaaDoorEq9
set_option maxRecDepth 100000
set_option linter.unusedVariables false
namespace Go.Ex
open Go.Proofs
abbrev p0 : Pt := .z
abbrev p1 : Pt := .l p0
abbrev p2 : Pt := .r p0
abbrev p3 : Pt := .l p1
abbrev p4 : Pt := .r p1
abbrev p5 : Pt := .l p2
abbrev p6 : Pt := .r p2
abbrev p7 : Pt := .l p3
abbrev p8 : Pt := .r p3
abbrev p9 : Pt := .l p4
abbrev p10 : Pt := .r p4
abbrev p11 : Pt := .l p5
abbrev p12 : Pt := .r p5
abbrev p13 : Pt := .l p6
abbrev p14 : Pt := .r p6
abbrev p15 : Pt := .l p7
abbrev p16 : Pt := .r p7
abbrev p17 : Pt := .l p8
abbrev p18 : Pt := .r p8
abbrev p19 : Pt := .l p9
abbrev p20 : Pt := .r p9
abbrev p21 : Pt := .l p10
abbrev p22 : Pt := .r p10
abbrev p23 : Pt := .l p11
abbrev p24 : Pt := .r p11
abbrev p25 : Pt := .l p12
abbrev p26 : Pt := .r p12
abbrev p27 : Pt := .l p13
abbrev p28 : Pt := .r p13
abbrev p29 : Pt := .l p14
abbrev p30 : Pt := .r p14
abbrev p31 : Pt := .l p15
abbrev p32 : Pt := .r p15
abbrev p33 : Pt := .l p16
abbrev p34 : Pt := .r p16
abbrev p35 : Pt := .l p17
abbrev p36 : Pt := .r p17
abbrev p37 : Pt := .l p18
abbrev p38 : Pt := .r p18
abbrev p39 : Pt := .l p19
abbrev p40 : Pt := .r p19
abbrev p41 : Pt := .l p20
abbrev p42 : Pt := .r p20
abbrev p43 : Pt := .l p21
abbrev p44 : Pt := .r p21
abbrev p45 : Pt := .l p22
abbrev p46 : Pt := .r p22
abbrev p47 : Pt := .l p23
abbrev p48 : Pt := .r p23
abbrev p49 : Pt := .l p24
abbrev p50 : Pt := .r p24
abbrev p51 : Pt := .l p25
abbrev p52 : Pt := .r p25
abbrev p53 : Pt := .l p26
abbrev p54 : Pt := .r p26
abbrev p55 : Pt := .l p27
abbrev p56 : Pt := .r p27
abbrev p57 : Pt := .l p28
abbrev p58 : Pt := .r p28
abbrev p59 : Pt := .l p29
abbrev p60 : Pt := .r p29
abbrev p61 : Pt := .l p30
abbrev p62 : Pt := .r p30
abbrev p63 : Pt := .l p31
abbrev p64 : Pt := .r p31
abbrev p65 : Pt := .l p32
abbrev p66 : Pt := .r p32
abbrev p67 : Pt := .l p33
abbrev p68 : Pt := .r p33
abbrev p69 : Pt := .l p34
abbrev p70 : Pt := .r p34
abbrev p71 : Pt := .l p35
abbrev p72 : Pt := .r p35
abbrev p73 : Pt := .l p36
abbrev p74 : Pt := .r p36
abbrev p75 : Pt := .l p37
abbrev p76 : Pt := .r p37
abbrev p77 : Pt := .l p38
abbrev p78 : Pt := .r p38
abbrev p79 : Pt := .l p39
abbrev p80 : Pt := .r p39
abbrev p81 : Pt := .l p40
abbrev p82 : Pt := .r p40
abbrev p83 : Pt := .l p41
abbrev p84 : Pt := .r p41
abbrev p85 : Pt := .l p42
abbrev p86 : Pt := .r p42
abbrev p87 : Pt := .l p43
abbrev p88 : Pt := .r p43
abbrev p89 : Pt := .l p44
abbrev p90 : Pt := .r p44
abbrev p91 : Pt := .l p45
abbrev p92 : Pt := .r p45
abbrev p93 : Pt := .l p46
abbrev p94 : Pt := .r p46
abbrev p95 : Pt := .l p47
abbrev p96 : Pt := .r p47
abbrev p97 : Pt := .l p48
abbrev p98 : Pt := .r p48
abbrev p99 : Pt := .l p49
abbrev p100 : Pt := .r p49
abbrev p101 : Pt := .l p50
abbrev p102 : Pt := .r p50
abbrev p103 : Pt := .l p51
abbrev p104 : Pt := .r p51
abbrev p105 : Pt := .l p52
abbrev p106 : Pt := .r p52
abbrev p107 : Pt := .l p53
abbrev p108 : Pt := .r p53
abbrev p109 : Pt := .l p54
abbrev p110 : Pt := .r p54
abbrev p111 : Pt := .l p55
abbrev p112 : Pt := .r p55
abbrev p113 : Pt := .l p56
abbrev p114 : Pt := .r p56
abbrev p115 : Pt := .l p57
abbrev p116 : Pt := .r p57
abbrev p117 : Pt := .l p58
abbrev p118 : Pt := .r p58
abbrev p119 : Pt := .l p59
abbrev p120 : Pt := .r p59
abbrev p121 : Pt := .l p60
abbrev p122 : Pt := .r p60
abbrev p123 : Pt := .l p61
abbrev p124 : Pt := .r p61
abbrev p125 : Pt := .l p62
abbrev p126 : Pt := .r p62
abbrev p127 : Pt := .l p63
abbrev p128 : Pt := .r p63
abbrev p129 : Pt := .l p64
abbrev p130 : Pt := .r p64
abbrev p131 : Pt := .l p65
abbrev p132 : Pt := .r p65
abbrev p133 : Pt := .l p66
abbrev p134 : Pt := .r p66
abbrev p135 : Pt := .l p67
abbrev p136 : Pt := .r p67
abbrev p137 : Pt := .l p68
abbrev p138 : Pt := .r p68
abbrev p139 : Pt := .l p69
abbrev p140 : Pt := .r p69
abbrev p141 : Pt := .l p70
abbrev p142 : Pt := .r p70
abbrev p143 : Pt := .l p71
abbrev p144 : Pt := .r p71
abbrev p145 : Pt := .l p72
abbrev p146 : Pt := .r p72
abbrev p147 : Pt := .l p73
abbrev p148 : Pt := .r p73
abbrev p149 : Pt := .l p74
abbrev p150 : Pt := .r p74
abbrev p151 : Pt := .l p75
abbrev p152 : Pt := .r p75
abbrev p153 : Pt := .l p76
abbrev p154 : Pt := .r p76
abbrev p155 : Pt := .l p77
abbrev p156 : Pt := .r p77
abbrev p157 : Pt := .l p78
abbrev p158 : Pt := .r p78
def k10 : FI := .mk (.seq (.reg [.p p0 (.mov (.c (.bool false)))]) (.seq (.reg [.w (some p23) (.call 11 [.c (.int .i64 (.ofNat 2)), .c (.int .i64 (.ofNat 128))]), .p p22 (.mov (.t p23)), .p p24 (.ext (.t p22) 0), .p p25 (.ext (.t p22) 1), .p p1 (.mov (.t p24)), .p p2 (.mov (.t p25))]) (.seq (.reg [.w (some p27) (.call 13 [.c (.int .i64 (.ofNat 2))]), .p p26 (.mov (.t p27)), .p p28 (.ext (.t p26) 0), .p p29 (.ext (.t p26) 1), .p p3 (.mov (.t p28)), .p p4 (.mov (.t p29))]) (.seq (.reg [.w (some p31) (.call 15 [.c (.str [1])]), .p p30 (.mov (.t p31)), .p p32 (.ext (.t p30) 0), .p p33 (.ext (.t p30) 1), .p p5 (.mov (.t p32)), .p p6 (.mov (.t p33))]) (.seq (.reg [.w (some p35) (.call 57 []), .w (some p36) (.call 19 [.t p35]), .p p34 (.mov (.t p36)), .p p37 (.ext (.t p34) 0), .p p38 (.ext (.t p34) 1), .p p7 (.mov (.t p37)), .p p8 (.mov (.t p38))]) (.seq (.seq (.reg [.p p39 (.mov (.t p2)), .p p40 (.bin .neq (.t p39) (.c (.int .i64 (.ofNat 0)))), .p p41 (.mov (.t p40)), .g p41 false (some p42) (.p p42 (.mov (.t p4))), .g p41 false (some p43) (.p p43 (.bin .neq (.t p42) (.c (.int .i64 (.ofNat 0))))), .p p44 (.pick (.t p41) (.c (.bool true)) (.t p43)), .p p45 (.mov (.t p44)), .g p45 false (some p46) (.p p46 (.mov (.t p6))), .g p45 false (some p47) (.p p47 (.bin .neq (.t p46) (.c (.int .i64 (.ofNat 0))))), .p p48 (.pick (.t p45) (.c (.bool true)) (.t p47)), .p p49 (.mov (.t p48)), .g p49 false (some p50) (.p p50 (.mov (.t p8))), .g p49 false (some p51) (.p p51 (.bin .neq (.t p50) (.c (.int .i64 (.ofNat 0))))), .p p52 (.pick (.t p49) (.c (.bool true)) (.t p51)), .p p53 (.mov (.t p52)), .g p53 false (some p54) (.p p54 (.mov (.t p1))), .g p53 false (some p55) (.p p55 (.bin .neq (.t p54) (.c (.int .i64 (.ofNat 29))))), .p p56 (.pick (.t p53) (.c (.bool true)) (.t p55)), .p p57 (.mov (.t p56)), .g p57 false (some p58) (.p p58 (.mov (.t p3))), .g p57 false (some p59) (.p p59 (.bin .neq (.t p58) (.c (.int .i64 (.ofNat 142))))), .p p60 (.pick (.t p57) (.c (.bool true)) (.t p59)), .p p61 (.mov (.t p60)), .g p61 false (some p62) (.p p62 (.mov (.t p5))), .g p61 false (some p63) (.p p63 (.sbin .neq (.t p62) (.c (.str [63, 1, 218, 32, 227, 38])))), .p p64 (.pick (.t p61) (.c (.bool true)) (.t p63)), .p p65 (.mov (.t p64)), .g p65 false (some p66) (.p p66 (.mov (.t p7))), .g p65 false (some p67) (.p p67 (.slen (.t p66))), .g p65 false (some p68) (.p p68 (.bin .neq (.t p67) (.c (.int .i64 (.ofNat 14))))), .p p69 (.pick (.t p65) (.c (.bool true)) (.t p68))]) (.cond (.t p69) (.seq (.reg [.p p0 (.mov (.c (.bool false)))]) .ret) .skip)) (.seq (.reg [.p p71 (.mov (.t p7)), .p p72 (.sslc (.t p71) (some (.c (.int .i64 (.ofNat 2)))) none), .p p73 (.sbin .add (.c (.str [63, 63])) (.t p72)), .w (some p74) (.call 21 [.t p73]), .p p70 (.mov (.t p74)), .p p75 (.ext (.t p70) 0), .p p76 (.ext (.t p70) 1), .p p77 (.ext (.t p70) 2), .a p9 (.new [.int .i64 (.ofNat 0), .int .i64 (.ofNat 0), .int .i64 (.ofNat 0), .int .i64 (.ofNat 0), .str []]), .w none (.store 5 (.t p9) (.t p75)), .p p10 (.mov (.t p76)), .p p11 (.mov (.t p77))]) (.seq (.reg [.p p79 (.build [.int .i64 (.ofNat 0), .int .i64 (.ofNat 0), .str []] [(2, (1, .c (.str [115, 110, 111, 119])))]), .w (some p80) (.call 58 [.t p79]), .p p78 (.mov (.t p80)), .p p81 (.ext (.t p78) 0), .p p82 (.ext (.t p78) 1), .p p12 (.mov (.t p81)), .p p13 (.mov (.t p82))]) (.seq (.seq (.draw 20 [(.p p83 (.mov (.t p11)), [0]), (.p p84 (.bin .neq (.t p83) (.c (.int .i64 (.ofNat 0)))), [0]), (.p p85 (.mov (.t p84)), [0]), (.g p85 false (some p86) (.p p86 (.mov (.t p10))), [0]), (.g p85 false (some p87) (.p p87 (.bin .neq (.t p86) (.c (.int .i64 (.ofNat 2))))), [0]), (.p p88 (.pick (.t p85) (.c (.bool true)) (.t p87)), [0]), (.p p89 (.mov (.t p88)), [0]), (.g p89 false (some p90) (.r p90 (.loadA 5 (.t p9))), [0, 9]), (.g p89 false (some p91) (.w (some p91) (.call 57 [])), [0, 9]), (.g p89 false (some p92) (.p p92 (.eqp true [.i .i64, .i .i64, .i .i64, .i .i64, .s] (.t p90) (.t p91))), [9]), (.p p93 (.pick (.t p89) (.c (.bool true)) (.t p92)), [9]), (.p p94 (.mov (.t p93)), [9]), (.g p94 false (some p95) (.p p95 (.mov (.t p13))), [9]), (.g p94 false (some p96) (.p p96 (.bin .neq (.t p95) (.c (.int .i64 (.ofNat 0))))), [9]), (.p p97 (.pick (.t p94) (.c (.bool true)) (.t p96)), [9]), (.p p98 (.mov (.t p97)), [9]), (.g p98 false (some p99) (.p p99 (.mov (.t p12))), [9]), (.g p98 false (some p100) (.p p100 (.len (.t p99))), [9]), (.g p98 false (some p101) (.p p101 (.bin .neq (.t p100) (.c (.int .i64 (.ofNat 1))))), [9]), (.p p102 (.pick (.t p98) (.c (.bool true)) (.t p101)), [9])]) (.cond (.t p102) (.seq (.reg [.p p0 (.mov (.c (.bool false)))]) .ret) .skip)) (.seq (.reg [.w (some p104) (.call 25 [.c (.int .i64 (.ofNat 9))]), .p p103 (.mov (.t p104)), .p p105 (.ext (.t p103) 0), .p p106 (.ext (.t p103) 1), .p p14 (.mov (.t p105)), .p p15 (.mov (.t p106))]) (.seq (.seq (.reg [.p p107 (.mov (.t p15)), .p p108 (.bin .neq (.t p107) (.c (.int .i64 (.ofNat 0)))), .p p109 (.mov (.t p108)), .g p109 false (some p110) (.p p110 (.mov (.t p14))), .g p109 false (some p111) (.p p111 (.isnilP false (.t p110))), .p p112 (.pick (.t p109) (.c (.bool true)) (.t p111))]) (.cond (.t p112) (.seq (.reg [.p p0 (.mov (.c (.bool false)))]) .ret) .skip)) (.seq (.reg [.p p114 (.mov (.t p14)), .w (some p115) (.call 59 [.t p114, .c (.int .i64 (.ofNat 1))]), .p p113 (.mov (.t p115)), .p p116 (.ext (.t p113) 0), .p p117 (.ext (.t p113) 1), .p p16 (.mov (.t p116)), .p p17 (.mov (.t p117))]) (.seq (.seq (.reg [.p p118 (.mov (.t p17)), .p p119 (.bin .neq (.t p118) (.c (.int .i64 (.ofNat 0)))), .p p120 (.mov (.t p119)), .g p120 false (some p121) (.p p121 (.mov (.t p16))), .g p120 false (some p122) (.p p122 (.isnilP false (.t p121))), .p p123 (.pick (.t p120) (.c (.bool true)) (.t p122))]) (.cond (.t p123) (.seq (.reg [.p p0 (.mov (.c (.bool false)))]) .ret) .skip)) (.seq (.reg [.p p124 (.mov (.t p16)), .p p125 (.build [.int .i64 (.ofNat 0), .int .i64 (.ofNat 0), .str []] [(2, (1, .c (.str [98])))]), .w (some p126) (.call 56 [.t p124, .t p125]), .p p18 (.mov (.t p126))]) (.seq (.reg [.p p128 (.mov (.t p16)), .p p129 (.build [.int .i64 (.ofNat 0), .int .i64 (.ofNat 0), .str []] [(2, (1, .c (.str [97])))]), .a p130 (.buildS [.int .i64 (.ofNat 0), .int .i64 (.ofNat 0), .str []] 1 [(0, (3, .t p129))]), .w (some p131) (.call 47 [.t p128, .t p130]), .p p127 (.mov (.t p131)), .p p132 (.ext (.t p127) 0), .p p133 (.ext (.t p127) 1), .p p19 (.mov (.t p132)), .p p20 (.mov (.t p133))]) (.seq (.reg [.p p134 (.mov (.t p16)), .w (some p135) (.call 54 [.t p134]), .p p21 (.mov (.t p135))]) (.seq (.reg [.p p136 (.mov (.t p18)), .p p137 (.bin .eql (.t p136) (.c (.int .i64 (.ofNat 0)))), .p p138 (.mov (.t p137)), .g p138 true (some p139) (.p p139 (.mov (.t p20))), .g p138 true (some p140) (.p p140 (.bin .eql (.t p139) (.c (.int .i64 (.ofNat 0))))), .p p141 (.pick (.t p138) (.t p140) (.c (.bool false))), .p p142 (.mov (.t p141)), .g p142 true (some p143) (.p p143 (.mov (.t p19))), .g p142 true (some p144) (.p p144 (.bin .eql (.t p143) (.c (.int .i64 (.ofNat 1))))), .p p145 (.pick (.t p142) (.t p144) (.c (.bool false))), .p p146 (.mov (.t p145)), .g p146 true (some p147) (.p p147 (.mov (.t p21))), .g p146 true (some p148) (.p p148 (.len (.t p147))), .g p146 true (some p149) (.p p149 (.bin .eql (.t p148) (.c (.int .i64 (.ofNat 1))))), .p p150 (.pick (.t p146) (.t p149) (.c (.bool false))), .p p151 (.mov (.t p150)), .g p151 true (some p152) (.p p152 (.mov (.t p21))), .g p151 true (some p153) (.p p153 (.iaddrS 3 (.t p152) (.c (.int .i64 (.ofNat 0))))), .g p151 true (some p154) (.r p154 (.loadA 3 (.t p153))), .g p151 true (some p155) (.p p155 (.build [.int .i64 (.ofNat 0), .int .i64 (.ofNat 0), .str []] [(2, (1, .c (.str [97])))])), .g p151 true (some p156) (.p p156 (.eqp false [.i .i64, .i .i64, .s] (.t p154) (.t p155))), .p p157 (.pick (.t p151) (.t p156) (.c (.bool false))), .p p0 (.mov (.t p157))]) .ret))))))))))))))))) [.tmp p0] 158
theorem fk10 : (mkFns Tryd.prog eqs9).get (.ofNat 10) = some k10 := by kernel_rfl
def k11 : FI := .mk (.seq (.reg [.p p4 (.mov (.c (.int .i64 (.ofNat 0)))), .p p5 (.mov (.c (.int .i64 (.ofNat 0))))]) (.seq (.seq (.reg [.p p6 (.mov (.t p0)), .w (some p7) (.call 60 [.t p6]), .p p8 (.not (.t p7)), .p p9 (.mov (.t p8)), .g p9 false (some p10) (.p p10 (.mov (.t p1))), .g p9 false (some p11) (.w (some p11) (.call 60 [.t p10])), .g p9 false (some p12) (.p p12 (.not (.t p11))), .p p13 (.pick (.t p9) (.c (.bool true)) (.t p12))]) (.cond (.t p13) (.seq (.reg [.p p4 (.mov (.c (.int .i64 (.ofNat 0)))), .p p5 (.mov (.c (.int .i64 (.ofNat 1))))]) .ret) .skip)) (.seq (.reg [.p p14 (.mov (.t p0)), .p p15 (.conv .u8 (.t p14)), .p p16 (.mov (.t p1)), .p p17 (.conv .u8 (.t p16)), .w (some p18) (.call 61 [.t p15, .t p17]), .p p19 (.conv .i64 (.t p18)), .p p4 (.mov (.t p19)), .p p5 (.mov (.c (.int .i64 (.ofNat 0))))]) .ret))) [.tmp p4, .tmp p5] 20
theorem fk11 : (mkFns Tryd.prog eqs9).get (.ofNat 11) = some k11 := by kernel_rfl
def k13 : FI := .mk (.seq (.reg [.p p2 (.mov (.c (.int .i64 (.ofNat 0)))), .p p3 (.mov (.c (.int .i64 (.ofNat 0))))]) (.seq (.seq (.reg [.p p4 (.mov (.t p0)), .w (some p5) (.call 60 [.t p4]), .p p6 (.not (.t p5)), .p p7 (.mov (.t p6)), .g p7 false (some p8) (.p p8 (.mov (.t p0))), .g p7 false (some p9) (.p p9 (.bin .eql (.t p8) (.c (.int .i64 (.ofNat 0))))), .p p10 (.pick (.t p7) (.c (.bool true)) (.t p9))]) (.cond (.t p10) (.seq (.reg [.p p2 (.mov (.c (.int .i64 (.ofNat 0)))), .p p3 (.mov (.c (.int .i64 (.ofNat 1))))]) .ret) .skip)) (.seq (.reg [.p p11 (.mov (.t p0)), .p p12 (.conv .u8 (.t p11)), .w (some p13) (.call 64 [.t p12]), .p p14 (.conv .i64 (.t p13)), .p p2 (.mov (.t p14)), .p p3 (.mov (.c (.int .i64 (.ofNat 0))))]) .ret))) [.tmp p2, .tmp p3] 15
theorem fk13 : (mkFns Tryd.prog eqs9).get (.ofNat 13) = some k13 := by kernel_rfl
def k43 : FI := .mk (.seq (.reg [.p p5 (.mov (.c (.int .i64 (.ofNat 0))))]) (.seq (.reg [.p p9 (.mov (.t p0)), .p p10 (.mov (.t p1)), .w (some p11) (.call 11 [.t p9, .t p10]), .p p8 (.mov (.t p11)), .p p12 (.ext (.t p8) 0), .p p13 (.ext (.t p8) 1), .p p6 (.mov (.t p12)), .p p7 (.mov (.t p13))]) (.seq (.reg [.r p14 (.load1 (.t p2)), .p p15 (.mov (.t p14)), .g p15 true (some p16) (.p p16 (.mov (.t p7))), .g p15 true (some p17) (.p p17 (.bin .eql (.t p16) (.c (.int .i64 (.ofNat 0))))), .p p18 (.pick (.t p15) (.t p17) (.c (.bool false))), .p p19 (.mov (.t p18)), .g p19 true (some p20) (.p p20 (.mov (.t p6))), .g p19 true (some p21) (.p p21 (.bin .geq (.t p20) (.c (.int .i64 (.ofNat 0))))), .p p22 (.pick (.t p19) (.t p21) (.c (.bool false))), .p p23 (.mov (.t p22)), .g p23 true (some p24) (.p p24 (.mov (.t p6))), .g p23 true (some p25) (.p p25 (.bin .leq (.t p24) (.c (.int .i64 (.ofNat 255))))), .p p26 (.pick (.t p23) (.t p25) (.c (.bool false))), .w none (.store 1 (.t p2) (.t p26))]) (.seq (.reg [.p p27 (.mov (.t p6)), .p p5 (.mov (.t p27))]) .ret)))) [.tmp p5] 28
theorem fk43 : (mkFns Tryd.prog eqs9).get (.ofNat 43) = some k43 := by kernel_rfl
def k57 : FI := .mk (.seq (.reg [.a p0 (.new [.int .i64 (.ofNat 0), .int .i64 (.ofNat 0), .int .i64 (.ofNat 0), .int .i64 (.ofNat 0), .str []])]) (.seq (.reg [.p p1 (.build [.int .i64 (.ofNat 0), .int .i64 (.ofNat 0), .int .i64 (.ofNat 0), .int .i64 (.ofNat 0), .str []] [(0, (1, .c (.int .i64 (.ofNat 1)))), (1, (1, .c (.int .i64 (.ofNat 2)))), (2, (1, .c (.int .i64 (.ofNat 0)))), (3, (1, .c (.int .i64 (.ofNat 1)))), (4, (1, .c (.str [115, 110, 111, 119])))]), .w none (.store 5 (.t p0) (.t p1))]) .ret)) [.cellA p0 5] 2
theorem fk57 : (mkFns Tryd.prog eqs9).get (.ofNat 57) = some k57 := by kernel_rfl
def k60 : FI := .mk (.seq (.reg [.p p2 (.mov (.c (.bool false)))]) (.seq (.reg [.p p3 (.mov (.t p0)), .w (some p4) (.call 69 [.t p3, .c (.int .i64 (.ofNat 0)), .c (.int .i64 (.ofNat 255))]), .p p2 (.mov (.t p4))]) .ret)) [.tmp p2] 5
theorem fk60 : (mkFns Tryd.prog eqs9).get (.ofNat 60) = some k60 := by kernel_rfl
def k61L0 : K := .seq (.seq (.reg [.p p6 (.mov (.t p1)), .p p7 (.bin .gtr (.t p6) (.c (.int .u8 (.ofNat 0))))]) (.cond (.t p7) .skip (.exit 0))) (.seq (.block 1 (.seq (.seq (.reg [.p p10 (.mov (.t p1)), .p p11 (.bin .and (.t p10) (.c (.int .u8 (.ofNat 1)))), .p p12 (.bin .eql (.t p11) (.c (.int .u8 (.ofNat 1))))]) (.cond (.t p12) (.reg [.p p13 (.mov (.t p5)), .p p14 (.mov (.t p0)), .p p15 (.bin .xor (.t p13) (.t p14)), .p p5 (.mov (.t p15))]) .skip)) (.reg [.p p16 (.mov (.t p0)), .w (some p17) (.call 98 [.t p16]), .p p0 (.mov (.t p17))]))) (.reg [.p p8 (.mov (.t p1)), .p p9 (.bin .shr (.t p8) (.c (.int .u64 (.ofNat 1)))), .p p1 (.mov (.t p9))]))
def k61 : FI := .mk (.seq (.reg [.p p4 (.mov (.c (.int .u8 (.ofNat 0))))]) (.seq (.reg [.p p5 (.mov (.c (.int .u8 (.ofNat 0))))]) (.seq (.block 0 (.loop k61L0)) (.seq (.reg [.p p18 (.mov (.t p5)), .p p4 (.mov (.t p18))]) .ret)))) [.tmp p4] 19
theorem fk61 : (mkFns Tryd.prog eqs9).get (.ofNat 61) = some k61 := by kernel_rfl
def k64L0 : K := .seq (.reg [.p p6 (.bin .lss (.t p5) (.c (.int .i64 (.ofNat 253))))]) (.seq (.cond (.t p6) .skip (.exit 0)) (.seq (.block 1 (.reg [.p p7 (.mov (.t p3)), .p p8 (.mov (.t p0)), .w (some p9) (.call 61 [.t p7, .t p8]), .p p3 (.mov (.t p9))])) (.reg [.p p10 (.bin .add (.t p5) (.c (.int .i64 (.ofNat 1)))), .p p5 (.mov (.t p10))])))
def k64 : FI := .mk (.seq (.reg [.p p2 (.mov (.c (.int .u8 (.ofNat 0))))]) (.seq (.reg [.p p4 (.mov (.t p0)), .p p3 (.mov (.t p4))]) (.seq (.seq (.reg [.p p5 (.mov (.c (.int .i64 (.ofNat 0))))]) (.block 0 (.loop k64L0))) (.seq (.reg [.p p11 (.mov (.t p3)), .p p2 (.mov (.t p11))]) .ret)))) [.tmp p2] 12
theorem fk64 : (mkFns Tryd.prog eqs9).get (.ofNat 64) = some k64 := by kernel_rfl
def k69 : FI := .mk (.seq (.reg [.p p6 (.mov (.c (.bool false)))]) (.seq (.reg [.p p7 (.mov (.t p1)), .p p8 (.mov (.t p0)), .p p9 (.bin .leq (.t p7) (.t p8)), .p p10 (.mov (.t p9)), .g p10 true (some p11) (.p p11 (.mov (.t p0))), .g p10 true (some p12) (.p p12 (.mov (.t p2))), .g p10 true (some p13) (.p p13 (.bin .leq (.t p11) (.t p12))), .p p14 (.pick (.t p10) (.t p13) (.c (.bool false))), .p p6 (.mov (.t p14))]) .ret)) [.tmp p6] 15
theorem fk69 : (mkFns Tryd.prog eqs9).get (.ofNat 69) = some k69 := by kernel_rfl
def k98 : FI := .mk (.seq (.reg [.p p2 (.mov (.c (.int .u8 (.ofNat 0))))]) (.seq (.seq (.reg [.p p3 (.mov (.t p0)), .p p4 (.bin .lss (.t p3) (.c (.int .u8 (.ofNat 128))))]) (.cond (.t p4) (.seq (.reg [.p p5 (.mov (.t p0)), .p p6 (.bin .shl (.t p5) (.c (.int .u64 (.ofNat 1)))), .p p2 (.mov (.t p6))]) .ret) .skip)) (.seq (.reg [.p p7 (.mov (.t p0)), .p p8 (.bin .shl (.t p7) (.c (.int .u64 (.ofNat 1)))), .p p9 (.bin .xor (.t p8) (.c (.int .u8 (.ofNat 29)))), .p p2 (.mov (.t p9))]) .ret))) [.tmp p2] 10
theorem fk98 : (mkFns Tryd.prog eqs9).get (.ofNat 98) = some k98 := by kernel_rfl
def k6 : FI := .mk (.seq (.reg [.p p6 (.mov (.c (.bool false)))]) (.seq (.seq (.reg [.w (some p23) (.call 10 []), .p p24 (.not (.t p23))]) (.cond (.t p24) (.seq (.reg [.p p6 (.mov (.c (.bool false)))]) .ret) .skip)) (.seq (.reg [.a p7 (.new [.bool false]), .w none (.store 1 (.t p7) (.c (.bool true)))]) (.seq (.reg [.p p25 (.mkF 43 [.t p7]), .p p8 (.mov (.t p25))]) (.seq (.reg [.p p26 (.mov (.t p0)), .p p27 (.conv .i64 (.t p26)), .p p28 (.mov (.t p1)), .p p29 (.conv .i64 (.t p28)), .p p30 (.mov (.t p2)), .p p31 (.conv .i64 (.t p30)), .p p9 (.mov (.t p27)), .p p10 (.mov (.t p29)), .p p11 (.mov (.t p31))]) (.seq (.reg [.p p32 (.mov (.t p8)), .p p33 (.mov (.t p9)), .p p34 (.mov (.t p10)), .w (some p35) (.callv (.t p32) [.t p33, .t p34]), .p p12 (.mov (.t p35))]) (.seq (.reg [.p p36 (.mov (.t p8)), .p p37 (.mov (.t p10)), .p p38 (.mov (.t p9)), .w (some p39) (.callv (.t p36) [.t p37, .t p38]), .p p13 (.mov (.t p39))]) (.seq (.reg [.p p40 (.mov (.t p8)), .p p41 (.mov (.t p10)), .p p42 (.mov (.t p11)), .w (some p43) (.callv (.t p40) [.t p41, .t p42]), .p p14 (.mov (.t p43))]) (.seq (.reg [.p p44 (.mov (.t p8)), .p p45 (.mov (.t p12)), .p p46 (.mov (.t p11)), .w (some p47) (.callv (.t p44) [.t p45, .t p46]), .p p15 (.mov (.t p47))]) (.seq (.reg [.p p48 (.mov (.t p8)), .p p49 (.mov (.t p9)), .p p50 (.mov (.t p14)), .w (some p51) (.callv (.t p48) [.t p49, .t p50]), .p p16 (.mov (.t p51))]) (.seq (.reg [.p p52 (.mov (.t p8)), .p p53 (.mov (.t p9)), .p p54 (.mov (.t p11)), .w (some p55) (.callv (.t p52) [.t p53, .t p54]), .p p17 (.mov (.t p55))]) (.seq (.reg [.p p56 (.mov (.t p8)), .p p57 (.mov (.t p9)), .p p58 (.mov (.t p10)), .p p59 (.mov (.t p11)), .p p60 (.bin .xor (.t p58) (.t p59)), .w (some p61) (.callv (.t p56) [.t p57, .t p60]), .p p18 (.mov (.t p61))]) (.seq (.reg [.p p62 (.mov (.t p8)), .p p63 (.mov (.t p9)), .w (some p64) (.callv (.t p62) [.t p63, .c (.int .i64 (.ofNat 1))]), .p p19 (.mov (.t p64))]) (.seq (.reg [.p p65 (.mov (.t p8)), .p p66 (.mov (.t p9)), .w (some p67) (.callv (.t p65) [.t p66, .c (.int .i64 (.ofNat 0))]), .p p20 (.mov (.t p67))]) (.seq (.seq (.reg [.r p68 (.load1 (.t p7)), .p p69 (.not (.t p68)), .p p70 (.mov (.t p69)), .g p70 false (some p71) (.p p71 (.mov (.t p12))), .g p70 false (some p72) (.p p72 (.mov (.t p13))), .g p70 false (some p73) (.p p73 (.bin .neq (.t p71) (.t p72))), .p p74 (.pick (.t p70) (.c (.bool true)) (.t p73)), .p p75 (.mov (.t p74)), .g p75 false (some p76) (.p p76 (.mov (.t p15))), .g p75 false (some p77) (.p p77 (.mov (.t p16))), .g p75 false (some p78) (.p p78 (.bin .neq (.t p76) (.t p77))), .p p79 (.pick (.t p75) (.c (.bool true)) (.t p78)), .p p80 (.mov (.t p79)), .g p80 false (some p81) (.p p81 (.mov (.t p18))), .g p80 false (some p82) (.p p82 (.mov (.t p12))), .g p80 false (some p83) (.p p83 (.mov (.t p17))), .g p80 false (some p84) (.p p84 (.bin .xor (.t p82) (.t p83))), .g p80 false (some p85) (.p p85 (.bin .neq (.t p81) (.t p84))), .p p86 (.pick (.t p80) (.c (.bool true)) (.t p85)), .p p87 (.mov (.t p86)), .g p87 false (some p88) (.p p88 (.mov (.t p19))), .g p87 false (some p89) (.p p89 (.mov (.t p9))), .g p87 false (some p90) (.p p90 (.bin .neq (.t p88) (.t p89))), .p p91 (.pick (.t p87) (.c (.bool true)) (.t p90)), .p p92 (.mov (.t p91)), .g p92 false (some p93) (.p p93 (.mov (.t p20))), .g p92 false (some p94) (.p p94 (.bin .neq (.t p93) (.c (.int .i64 (.ofNat 0))))), .p p95 (.pick (.t p92) (.c (.bool true)) (.t p94))]) (.cond (.t p95) (.seq (.reg [.p p6 (.mov (.c (.bool false)))]) .ret) .skip)) (.seq (.reg [.p p97 (.mov (.t p9)), .w (some p98) (.call 13 [.t p97]), .p p96 (.mov (.t p98)), .p p99 (.ext (.t p96) 0), .p p100 (.ext (.t p96) 1), .p p21 (.mov (.t p99)), .p p22 (.mov (.t p100))]) (.seq (.seq (.reg [.p p101 (.mov (.t p9)), .p p102 (.bin .eql (.t p101) (.c (.int .i64 (.ofNat 0))))]) (.cond (.t p102) (.seq (.reg [.p p103 (.mov (.t p22)), .p p104 (.bin .eql (.t p103) (.c (.int .i64 (.ofNat 1)))), .p p105 (.mov (.t p104)), .g p105 true (some p106) (.p p106 (.mov (.t p21))), .g p105 true (some p107) (.p p107 (.bin .eql (.t p106) (.c (.int .i64 (.ofNat 0))))), .p p108 (.pick (.t p105) (.t p107) (.c (.bool false))), .p p6 (.mov (.t p108))]) .ret) .skip)) (.seq (.reg [.p p109 (.mov (.t p22)), .p p110 (.bin .eql (.t p109) (.c (.int .i64 (.ofNat 0)))), .p p111 (.mov (.t p110)), .g p111 true (some p112) (.p p112 (.mov (.t p8))), .g p111 true (some p113) (.p p113 (.mov (.t p9))), .g p111 true (some p114) (.p p114 (.mov (.t p21))), .g p111 true (some p115) (.w (some p115) (.callv (.t p112) [.t p113, .t p114])), .g p111 true (some p116) (.p p116 (.bin .eql (.t p115) (.c (.int .i64 (.ofNat 1))))), .p p117 (.pick (.t p111) (.t p116) (.c (.bool false))), .p p118 (.mov (.t p117)), .g p118 true (some p119) (.r p119 (.load1 (.t p7))), .p p120 (.pick (.t p118) (.t p119) (.c (.bool false))), .p p6 (.mov (.t p120))]) .ret)))))))))))))))))) [.tmp p6] 121
theorem fk6 : (mkFns Tryd.prog eqs9).get (.ofNat 6) = some k6 := by kernel_rfl
end Go.Ex

