"""Numbers that the tests hand in, each checked by other means than the program's own."""

# For each size two primes of half its bytes. 3 and 65537 have inverses there, and these
# differ from the inverses modulo (p - 1)(q - 1).
KEY_PRIMES = {
    128: (
        int(
            "e814820e654ada878edb233d11c21bfe5dca92d159bb48496733e8601816474e93112ad4ae92060127e6f725b6fb0595"
            "8e4b0e4508c11cc2471139f6fc154245", 16),
        int(
            "c6766ff1ce9e61387e502cacc6f6f1a162ae233c4a5b7b1e21a8b0fa5a6408725b5c94a1ebb4c0e8a8d5d33385c6f23d"
            "8a0025b61c3d7f032f1fd9995bce895b", 16),
    ),
    256: (
        int(
            "fd93eacc20a6e298dfb5b63d60f0b0671a96ce70c1048bb1adcee765bc2d5d37a50773fbaabc4a2c5e9ba8c593d3d6a9"
            "c101a62dc407aacbf8831f1248f30b396d38e5331303b5da08e19abbe5e4ef93520388d81c3ecc0be72e0816b7c51d7f"
            "fe695bbb2ebfd8d1ab0917d867c96f1d1d17952736a780ea206e87131ce3c309", 16),
        int(
            "e16bcf3a479bb252166ce5d99dfafce1583c3057b6cd57a30a7a80ce44fe46dc6ceff41337708f469cd9bd3e1786f885"
            "0278645f7e67dba9bc4f797621d11c07345f5cbab9b197a101f0b83348dad9b5829b123470df6c57be090bf7b627b1aa"
            "e5ef15926247619832aa5650b9c0eb6be1270574447826403163c27e871d930d", 16),
    ),
    384: (
        int(
            "ca7074e96655993eb377b422dcafb47efc0cbaeda2b864d6ff3856ebdacecc2f9a3442ae3ba7f0740036584fd1fdcdcb"
            "b979ecd2bb5b1b78b324cdb3c373ee0f5d8e4847796daf30e7bfc5b5fb9498efd3214bc9d3de68c8662c762df301908f"
            "dc3353222d033b7f28b3f0cd283c4a14ccc1338bd6b4c9301537783ce542298cd0a2071868e9e33952864673d68c5c92"
            "a7ff94d5fcaa60ab255320b1da8ac55cb95458f201916075b68dd48df2328e18e119555c6af0800391a311d2745069a5", 16),
        int(
            "f0f117c63a6f4f33b68381b54ca788e92e6509df23636105781395436bf75d26c93d4d16a82bf114b2cfacd21571a5f1"
            "9226ca80f9032090a51f7246b7df2b55dd728892ac7e60e4da7fad72f615fca3711a711d81fc184d0e8d1c3d728eaa48"
            "54c2f6b3429e1cc0fd378865703e1233aa692f658cda1e37ff170c49fdc7abd3a38e4560a2a97c7ee547f5c0d28e30e4"
            "8635088f95a5d5dd87656fd7d136fad2e5af818a1683383bde9ac1dcb4e9794d8c436ea563443b28cac7ffb1554e0c4f", 16),
    ),
    512: (
        int(
            "f2d9818068781bd762512e5da2c029c388142cd45fd8094a925779efc98137a4f1798766c823ca032d7e6d78b50d45c6"
            "658a17905d335445d6bd92dd4c7dc405d2e3aca2be75890658d8aafd0e490eb481700e78e992be35f9bc685454279b5c"
            "4f60efca7cfa7a7f27dd75c0b3d704eacdc0a61d1d948bbd9075fab765880760821cc6f8f6edf5d590f7c342b476c66d"
            "5f89e37a3e2aaffe0a88e9c1aa6967bf66cf42ba16610910a95b558ad2f4dbfa2b597162768e4f1996a529849b5cd714"
            "c2fd7618db38e8320240410eeac2333355657b88b32a54fa6c48aafa762c085bc2e8afd1ff2bc3ada2b70fe2e564fe69"
            "1af6c3bb9fe9074c7c440e4650e75233", 16),
        int(
            "c089bd3f697d7c0df67d24f87e4b560bfc17cd6e5dd22a8f51c11640740faf3e5c45c2a49259ae84d600aab08a188611"
            "b7addaa0d7bd5903d2b5627ecb961bfafe23a3e42e22b11ea16fdf847e0072c466beba8094604ae7878f80e8143325a6"
            "aa209ca5c59aa71ccf171e6d9fff27b7a4526a581b54f69b94771af8183206893ae28390abe39ef97a24ece1a96b77ef"
            "3779d40555221cda10ec1c1e5e184f7d9143bbc214eed3c2ca0d63c1404c8ab3602e17634083854e447b099acb22b171"
            "d22139cf53ab2eeb4aa50838fcfd0bbd6b43b723eda69f8af0c746eadae7b00220f9f72b6e20c8de5bc5a5464f331273"
            "71f8c6d4d0db345a8155b003c4a0ef53", 16),
    ),
}

# Three primes: the first times the second has just below 1024 bits, the first times the third
# just 1024.
EDGE_PRIME = int(
    "d3a62bc01fc9ef48ffeb3f8ad1b87c94da5c39cca176cd20ec15ad790dc6f0836a7b87e87eaddcd85dfd24d205fb8919"
    "01d158e40d7a75d1e921d05b578aee2f", 16)

EDGE_PRIME_BELOW = int(
    "9ad281de5131bba333dd52cc6330fa12ed7fa4f0c6c48dd00ec25e3eb833ed9c63ba0aa39f5a077515e6e8230e09dbf6"
    "3063f748737a4cc24080e514e9df198b", 16)

EDGE_PRIME_ABOVE = int(
    "9ad281de5131bba333dd52cc6330fa12ed7fa4f0c6c48dd00ec25e3eb833ed9c63ba0aa39f5a077515e6e8230e09dbf6"
    "3063f748737a4cc24080e514e9df1c6b", 16)

# A prime p with p - 1 a multiple of 65537.
PRIME_OVER_65537 = int(
    "cebf337cc7d85a679c7d38fb303e74380234f227bca0168a11909e1d72984e194d915808a8bcfce9970222ba5e857f2a"
    "c920fde1d8fbede53c0d4e939ee1ae01", 16)

# The product of two primes of 256 bits: no prime, and without a small divisor.
TWO_GREAT_PRIMES = int(
    "b294694bc8b7dbf3282f52dc5066442853dac8d4454e0de8bcd639f14dcfcf0336b0432bbd60d9208e523372076e3414"
    "1db8a1ff1d81618291c28d95bb08389f", 16)

# None of these is a prime, and none has a divisor below 2000. The first primes as bases, as
# many as the name tells, take each of them for one; the prime behind these tells against it.
PASSES_ONE = 16853077
PASSES_TWO = 13694761
PASSES_EIGHT = 341550071728321
PASSES_ELEVEN = 3825123056546413051
PASSES_TWELVE = 318665857834031151167461
PASSES_THIRTEEN = 3317044064679887385961981
PASSES_NINETEEN = int(
    "dd05d42d9cdb64b1f6ea1d92d4f5967c863a70d3c7d85c22fb9f5169e73fc2f79570e1166c03a6aa42f5f6d87d8d8b68"
    "80e37dae40b8f1b9f08eb7754a582453", 16)

PASSES_TWENTY = int(
    "ceacced15074cc5606a6f3b1a4bd2d12ff39eca3f5ed7285a5a25458fc8d602fcc249312f839e2b4a414a9a9de10b21e"
    "5f480fccdb7ca1fee6b315f0c5ed651f", 16)

PASSES_THIRTY_NINE = int(
    "e95f0cbb32f4cecceb8acf87394a7f20a8c25eddde1318e0bd509d3d54b8848e46d9677407a7e19afcd79abc4daee971"
    "6c3e00e64a9a7f1d3cc4c206fbacd76f2f0786e5aa6e053d3798e429b33faf6bdc1aad6381d2560a86aaa6bd48e9ad7a"
    "d74849eda185770676c6755280e1e42307656f52f0f2190138ed243e8997ddaf", 16)

PASSES_FORTY = int(
    "e27058522a259616576b56a6e6ff5f2c7316ee6937d9acab157e9a16fcf6e19a9d6bb203a2a08110c33ad6bca8f0e318"
    "fe201670f79e0daf8ac3ca53148f2bb77f635e216697bcd6072955c107d0a486e7555e738aee65094e0eef049684b864"
    "1d545dc8d4de52f379a29d91ba82232ca6f8fb1246350e2f4d16c62e23d72753", 16)

# As long a message or label as a call may have.
LONG = bytes(place % 253 for place in range(29000))
